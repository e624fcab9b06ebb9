/- WheelParts: two wheels. -/
import Derived.Test.YtiallnpmgdjdfaaEr
namespace Go.Proofs.Ytiallnpmgdjdfaa
open Go.RowKit
/-- two wheels that have nothing in common -/
structure Pair (w wr : World) (pa : Nat) (va : Value) (Sa : List Tm) (Ta : Int) (pb : Nat) (vb : Value) (Sb : List Tm) (Tb : Int) : Prop where
  a : Wh wr pa va Sa Ta
  b : Wh wr pb vb Sb Tb
  x : Ext w wr
  oa : ∀ k, own pa va k → w.heap.size ≤ k ∧ k < wr.heap.size
  ob : ∀ k, own pb vb k → w.heap.size ≤ k ∧ k < wr.heap.size
  d : ∀ k, own pa va k → ¬ own pb vb k
theorem Wh.lt {w : World} {p : Nat} {v : Value} {S : List Tm} {T : Int} (h : Wh w p v S T) : ∀ k, own p v k → k < w.heap.size := by
  obtain ⟨xs, h, _⟩ := h
  intro k o
  rcases o with o | o
  · subst o; exact World.block_lt_of_cell? w ⟨k, 0, none⟩ h.1.1
  · exact (h.2.2.1.lt k o).2
theorem Wh.far {w w' : World} {p : Nat} {v : Value} {S : List Tm} {T : Int} (h : Wh w p v S T) {o : Nat → Prop} (t : Turn o w w') (ho : ∀ k, own p v k → ¬ o k) : Wh w' p v S T := by
  obtain ⟨xs, h, hw⟩ := h
  exact ⟨xs, h.far t (ho p (.inl rfl)) (fun k hk => ho k (.inr hk)), hw⟩
section
variable {w wr w' : World} {pa pb : Nat} {va va' vb vb' : Value} {Sa Sa' Sb Sb' : List Tm} {Ta Ta' Tb Tb' : Int}
theorem Pair.ext (h : Pair w wr pa va Sa Ta pb vb Sb Tb) (x : Ext wr w') : Pair w w' pa va Sa Ta pb vb Sb Tb :=
  ⟨h.a.ext x, h.b.ext x, h.x.trans x, fun k o => by have := h.oa k o; have := x.size; omega, fun k o => by have := h.ob k o; have := x.size; omega, h.d⟩
theorem Pair.swap (h : Pair w wr pa va Sa Ta pb vb Sb Tb) : Pair w wr pb vb Sb Tb pa va Sa Ta := ⟨h.b, h.a, h.x, h.ob, h.oa, fun k o o' => h.d k o' o⟩
theorem Pair.left (h : Pair w wr pa va Sa Ta pb vb Sb Tb) (g : Goes pa va va' wr w') (hw : Wh w' pa va' Sa' Ta') : Pair w w' pa va' Sa' Ta' pb vb Sb Tb := by
  have hs := g.1.size
  refine ⟨hw, h.b.far g.1 (fun k o o' => h.d k o' o), g.1.below h.x (fun i o => (h.oa i o).1), fun k o => ⟨?_, hw.lt k o⟩, fun k o => by have := h.ob k o; omega, fun k o o' => ?_⟩
  · rcases o with o | o
    · exact (h.oa k (.inl o)).1
    · rcases g.2 k o with q | q
      · exact (h.oa k (.inr q)).1
      · have := h.x.size; omega
  · rcases o with o | o
    · exact h.d k (.inl o) o'
    · rcases g.2 k o with q | q
      · exact h.d k (.inr q) o'
      · have := h.ob k o'; omega
theorem Pair.right (h : Pair w wr pa va Sa Ta pb vb Sb Tb) (g : Goes pb vb vb' wr w') (hw : Wh w' pb vb' Sb' Tb') : Pair w w' pa va Sa Ta pb vb' Sb' Tb' := (h.swap.left g hw).swap
/-- a row that neither wheel owns stays as it is -/
theorem Goes.row {B n : Nat} {v : Value} {xs : List Value} {e : TypeId} {s : Nat} (g : Goes pa va va' wr w') (h : wr.ownsRow B e s v n xs) (ho : ∀ k, own pa va k → k < B) : w'.ownsRow B e s v n xs := row_turn h g.1 ho
end
theorem due_len (now : Int) (S : List Tm) : (due now S).length + (left now S).length = S.length := by
  have := congrArg List.length (due_left now S)
  simpa using this
/-- the timers at their times: below 1000 -/
def Low (S : List Tm) : Prop := ∀ t ∈ S, t.2.1 ≤ 999
theorem Low.filter {S : List Tm} (h : Low S) (p : Tm → Bool) : Low (S.filter p) := fun t ht => h t (List.mem_filter.1 ht).1
theorem Low.ins {S : List Tm} (h : Low S) {x : Tm} (hx : x.2.1 ≤ 999) : Low (ins x S) := fun t ht => by
  rcases List.mem_cons.1 ((ins_perm x S).mem_iff.1 ht) with e | e
  · rw [e]; exact hx
  · exact h t e
theorem Low.due {S : List Tm} (h : Low S) : due 1000 S = S ∧ left 1000 S = [] := by
  have h1 : Go.Proofs.Ytiallnpmgdjdfaa.due 1000 S = S := due_all fun t ht => by have := h t ht; omega
  refine ⟨h1, ?_⟩
  have := due_len 1000 S
  rw [h1] at this
  exact List.length_eq_zero_iff.1 (by omega)
theorem Low.left {S : List Tm} (h : Low S) (now : Int) : Low (left now S) := fun t ht => h t ((List.dropWhile_sublist _).subset ht)
theorem take_own {p : Nat} {v : Value} {S : List Tm} {T : Int} (now : Int) (w : World) (h : Wh w p v S T) (hT : T ≤ 100000) :
    Calls Try.prog 15 #[.pointer (some ⟨p, 0, none⟩), .int .i64 now] w fun e w' => ∃ a cap, e = .returned (.slice a (due now S).length cap) ∧ w'.ownsRow w.heap.size Ea 2 (.slice a (due now S).length cap) (due now S).length (flat2 (due now S)) ∧ ∃ v', Wh w' p v' (left now S) T ∧ v'.ownBlock = v.ownBlock ∧ Turn (own p v) w w' := by
  obtain ⟨xs, h, hw⟩ := h
  refine (take_raw now w h hw hT).mono ?_
  rintro e w' ⟨r, rfl, q1, ⟨v', ys, q2, q3, q4⟩, q5⟩
  obtain ⟨a, cap, rfl⟩ : ∃ a cap, r = .slice a (due now S).length cap := by
    rcases q1.2 with ⟨e1, e2⟩ | ⟨g, cap, cur, e1, _⟩
    · exact ⟨none, 0, by rw [e1, e2]⟩
    · exact ⟨_, _, e1⟩
  exact ⟨a, cap, rfl, q1, v', ⟨ys, q2, q3⟩, q4, q5⟩
theorem Pair.takeA {w wr w' : World} {pa pb : Nat} {va va' vb : Value} {Sa Sa' Sb : List Tm} {Ta Ta' Tb : Int} (h : Pair w wr pa va Sa Ta pb vb Sb Tb) (t : Turn (own pa va) wr w') (e : va'.ownBlock = va.ownBlock) (hw : Wh w' pa va' Sa' Ta') : Pair w w' pa va' Sa' Ta' pb vb Sb Tb :=
  h.left ⟨t, fun k hk => .inl (by rw [← e]; exact hk)⟩ hw
theorem flat2_one (xs : List Tm) : ∀ u ∈ flat2 xs, u.oneCell' = true := by
  induction xs with
  | nil => intro u hu; simp [flat2] at hu
  | cons t l ih =>
    intro u hu
    simp only [flat2, List.mem_cons] at hu
    rcases hu with rfl | rfl | hu
    · rfl
    · rfl
    · exact ih u hu
theorem rd_cells {w : World} {B : Nat} {g n cap : Nat} {S : List Tm} (h : w.ownsRow B Ea 2 (.slice (some ⟨g, 0, none⟩) n cap) n (flat2 S)) : ∀ j u, (flat2 S)[j]? = some u → w.cell? ((⟨g, 0, none⟩ : Addr).add j) = some u := h.cells rfl
theorem run_append_zero {P : Program} (w : World) (base : Nat) (t ty e : TypeId) (i : TypeInfo) (size : Nat) (ht : P.underlying t = some (.slice e)) (hi : P.info? e = some i) (v : Value) (n : Nat) (xs : List Value) (hown : w.ownsRow base e size v n xs) (b : Option Addr) (c : Nat) :
    (Builtin.append_ #[t, t] ty #[v, .slice b 0 c]).run P w = .ok v w := by
  rcases hown.2 with ⟨rfl, rfl⟩ | ⟨g, cap, cur, rfl, _, _, hnc, _⟩ <;> cases b <;>
    simp [Builtin.append_, run_underlying ht, sizeOf, typeInfo, Builtin.lenOf, Builtin.firstCells, storeCells, loadCells, go_sem, *]
theorem wpList_append_zero {P : Program} {w : World} {ops : Array Oper} {rest : List Oper} {o : Oper} {a : Act} {Q : Exit → Act → World → Prop} (hgd : o.guard = none) (s x : Operand) (t : TypeId)
    (ho : o.op = .call { callee := .builtin .append, args := #[s, x], argTypes := #[t, t] })
    (base : Nat) (e : TypeId) (i : TypeInfo) (size : Nat) (ht : P.underlying t = some (.slice e)) (hi : P.info? e = some i)
    (v : Value) (n : Nat) (xs : List Value) (hs : a.eval s = v) (hown : w.ownsRow base e size v n xs) (b : Option Addr) (c : Nat) (hx : a.eval x = .slice b 0 c)
    (h : wpList P ops Q rest (a.put o.dst v) w) : wpList P ops Q (o :: rest) a w := by
  refine wpList_plain hgd fun K hK => ?_
  have hrun := run_append_zero (P := P) w base t o.type e i size ht hi v n xs hown b c
  unfold Oper.wp
  simp [execOp, ho, resolve, invoke, builtin, hs, hx, hrun, Result.andThen]
  exact hK _ _ h
/-- which numbers were seen -/
def Seen (w : World) (B : Nat) (sn : Nat → Bool) : Prop := ∀ d, d < 64 → w.cell? ⟨B, d, none⟩ = some (.bool (sn d)) ∧ w.frozen? ⟨B, d, none⟩ = false
theorem seen_new (w : World) (T : TypeId) : Seen (w.alloc (.cells (Array.replicate 64 (.bool false)) T)) w.heap.size (fun _ => false) := by
  intro d hd
  refine ⟨?_, ?_⟩
  · simp [go_sem, hd]
  · simp [go_sem]
theorem Seen.set {w : World} {B : Nat} {sn : Nat → Bool} (h : Seen w B sn) {d : Nat} (hd : d < 64) : Seen (w.setCell ⟨B, d, none⟩ (.bool true)) B (fun k => if k = d then true else sn k) := by
  intro k hk
  obtain ⟨c, f⟩ := h k hk
  obtain ⟨c', f'⟩ := h d hd
  by_cases e : k = d
  · subst e; simp [go_sem, c, f]
  · simp [go_sem, c, f, e]
theorem Seen.drewN {w : World} {B : Nat} {sn : Nat → Bool} (h : Seen w B sn) (n : Nat) : Seen (w.drewN n) B sn := h
/-- the numbers of the first j -/
def was (S : List Tm) (j d : Nat) : Bool := decide (∃ i, i < j ∧ (gt S i).1 = (d : Int))
theorem was_zero (S : List Tm) : was S 0 = fun _ => false := by funext d; simp [was]
theorem was_succ {S : List Tm} {j d : Nat} (h : (gt S j).1 = (d : Int)) : was S (j + 1) = fun k => if k = d then true else was S j k := by
  funext k
  unfold was
  by_cases e : k = d
  · subst e; simp only [if_true, decide_eq_true_eq]; exact ⟨j, by omega, h⟩
  · rw [if_neg e]
    apply decide_eq_decide.2
    constructor
    · rintro ⟨i, hi, he⟩
      by_cases e2 : i = j
      · subst e2; rw [h] at he; omega
      · exact ⟨i, by omega, he⟩
    · rintro ⟨i, hi, he⟩; exact ⟨i, by omega, he⟩
theorem was_not {S : List Tm} (h : (S.map (·.1)).Nodup) {j d : Nat} (hj : j < S.length) (he : (gt S j).1 = (d : Int)) : was S j d = false := by
  unfold was
  rw [decide_eq_false]
  rintro ⟨i, hi, he2⟩
  have h1 : (S.map (·.1))[i]? = some (gt S i).1 := by rw [List.getElem?_map, gt_at (by omega)]; rfl
  have h2 : (S.map (·.1))[j]? = some (gt S j).1 := by rw [List.getElem?_map, gt_at hj]; rfl
  have hl : i < (S.map (·.1)).length := by simp; omega
  have hl2 : j < (S.map (·.1)).length := by simpa using hj
  have := List.pairwise_iff_getElem.1 h i j hl hl2 hi
  rw [List.getElem?_eq_getElem hl] at h1
  rw [List.getElem?_eq_getElem hl2] at h2
  simp only [Option.some.injEq] at h1 h2
  rw [h1, h2, he, he2] at this
  exact this rfl
theorem sorted_at {S : List Tm} (h : S.Pairwise lt) {j : Nat} (hj : j + 1 < S.length) : (gt S j).2.1 ≤ (gt S (j + 1)).2.1 := by
  have := List.pairwise_iff_getElem.1 h j (j + 1) (by omega) hj (by omega)
  rw [gt_some (x := S[j]) (by rw [List.getElem?_eq_getElem]), gt_some (x := S[j + 1]) (by rw [List.getElem?_eq_getElem])]
  simp only [lt_def] at this
  omega
end Go.Proofs.Ytiallnpmgdjdfaa
