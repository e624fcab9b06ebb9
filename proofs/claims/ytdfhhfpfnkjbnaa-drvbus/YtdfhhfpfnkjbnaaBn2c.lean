/- DrvBus: what its round carries. -/
import Derived.Test.YtdfhhfpfnkjbnaaBn2
namespace Go.Proofs.Ytdfhhfpfnkjbnaa
open Go.RowKit Go.Conc
theorem jn_len {L : List Raw} {per i : Nat} {d : Dr} {v : Dv} {all : List Raw} (J : Jn L per i d v all) (hp : 1 ≤ per) : all.length ≤ 2 * i := by
  rcases J.wa with ⟨_, _, _, rfl⟩ | ⟨_, _, _, rfl⟩ | ⟨_, _, _, rfl⟩ | ⟨_, _, h, _⟩
  · exact Nat.zero_le _
  · exact Nat.zero_le _
  · exact Nat.zero_le _
  · have t := h.ti
    have m : 1 * (all.length + v.q.length) ≤ per * (all.length + v.q.length) := Nat.mul_le_mul_right _ hp
    omega
theorem Hb.own {own : Nat → Prop} {w0 wr w' : World} {y : BA} {s : Bs} {lo : Nat} (h : Hb w0 wr y s lo) (t : Tn own wr w') (ho : ∀ k, own k → lo ≤ k ∧ w0.heap.size ≤ k) : Hb w0 w' y s lo :=
  ⟨t.below h.x (fun k e => (ho k e).2), h.b.tn t (fun k o e => by have := h.g k o; have := (ho k e).1; omega), h.f, h.g, Nat.le_trans h.s t.size⟩
theorem rvs_length (l : List Raw) : (rvs l).length = l.length * 4 := by
  induction l with
  | nil => rfl
  | cons x l ih => show ([_, _, _, _] ++ rvs l).length = _; rw [List.length_append, ih, List.length_cons]; simp; omega
theorem rvs_app (l m : List Raw) : rvs (l ++ m) = rvs l ++ rvs m := by simp [rvs]
theorem rvs_one (l : List Raw) : ∀ u ∈ rvs l, u.oneCell' = true := by
  intro u hu
  unfold rvs at hu
  rw [List.mem_flatMap] at hu
  obtain ⟨r, _, h⟩ := hu
  simp at h
  rcases h with rfl | rfl | rfl | rfl <;> simp [Value.oneCell']
/-- a row's cells, where it holds one thing at least -/
theorem row_cells {w : World} {B : Nat} {e : TypeId} {s n : Nat} {a : Option Addr} {c : Nat} {xs : List Value} (h : w.ownsRow B e s (.slice a n c) n xs) (hn : 0 < n) : ∃ g, a = some ⟨g, 0, none⟩ ∧ B ≤ g ∧ ∀ j u, xs[j]? = some u → w.cell? (Addr.add ⟨g, 0, none⟩ j) = some u := by
  rcases h.2 with ⟨_, e2⟩ | ⟨g, cap, cur, e1, hb, _, hc, _⟩
  · omega
  · have h' := h
    cases e1
    refine ⟨g, rfl, hb, fun j u hu => ?_⟩
    have hj : j < xs.length := by
      rcases Nat.lt_or_ge j xs.length with k | k
      · exact k
      · rw [List.getElem?_eq_none k] at hu; cases hu
    have h2 := h'.cellAt j (by rw [← h'.1]; exact hj)
    rw [hu] at h2
    have e : Addr.add ⟨g, 0, none⟩ j = ⟨g, j, none⟩ := by
      unfold Addr.add
      split
      · rename_i hz; subst hz; rfl
      · simp
    rw [e]
    exact h2
theorem row_base {w : World} {B B' : Nat} {e : TypeId} {s n : Nat} {v : Value} {xs : List Value} (h : w.ownsRow B e s v n xs) (hb : B' ≤ B) : w.ownsRow B' e s v n xs := by
  refine ⟨h.1, ?_⟩
  rcases h.2 with e1 | ⟨g, cap, cur, e1, h1, h2⟩
  · exact .inl e1
  · exact .inr ⟨g, cap, cur, e1, Nat.le_trans hb h1, h2⟩
theorem own_block {w : World} {B : Nat} {e : TypeId} {s n : Nat} {v : Value} {xs : List Value} (h : w.ownsRow B e s v n xs) {k : Nat} (hk : v.ownBlock = some k) : B ≤ k := by
  rcases h.2 with ⟨e1, _⟩ | ⟨g, cap, cur, e1, hb, _⟩
  · subst e1; simp [Value.ownBlock] at hk
  · subst e1; simp [Value.ownBlock] at hk; omega
theorem grown_tn {w w' : World} {row : Option Nat} (h : w.grownBy w' row) : Tn (fun k => row = some k) w w' := (Tn.refl _ w).grown h (fun _ e => .inl e)
theorem run_append_zero {P : Program} (w : World) (base : Nat) (t ty e : TypeId) (i : TypeInfo) (size : Nat) (ht : P.underlying t = some (.slice e)) (hi : P.info? e = some i) (v : Value) (n : Nat) (xs : List Value) (hown : w.ownsRow base e size v n xs) (b : Option Addr) (c : Nat) :
    (Builtin.append_ #[t, t] ty #[v, .slice b 0 c]).run P w = .ok v w := by
  rcases hown.2 with ⟨rfl, rfl⟩ | ⟨g, cap, cur, rfl, _, _, hnc, _⟩ <;> cases b <;>
    simp [Builtin.append_, run_underlying ht, sizeOf, typeInfo, Builtin.lenOf, Builtin.firstCells, storeCells, loadCells, go_sem, *]
theorem wpList_append_zero {P : Program} {w : World} {ops : Array Oper} {rest : List Oper} {o : Oper} {a : Act} {Q : Exit → Act → World → Prop} (hgd : o.guard = none) (s x : Operand) (t : TypeId)
    (ho : o.op = .call { callee := .builtin .append, args := #[s, x], argTypes := #[t, t] })
    (base : Nat) (e : TypeId) (i : TypeInfo) (size : Nat) (ht : P.underlying t = some (.slice e)) (hi : P.info? e = some i)
    (v : Value) (n : Nat) (xs : List Value) (hs : a.eval s = v) (hown : w.ownsRow base e size v n xs) (b : Option Addr) (c : Nat) (hx : a.eval x = .slice b 0 c)
    (h : wpList P ops Q rest (a.put o.dst v) w) : wpList P ops Q (o :: rest) a w := by
  refine wpList_plain hgd fun K hK => ?_
  have hrun := run_append_zero (P := P) w base t o.type e i size ht hi v n xs hown b c
  unfold Oper.wp
  simp [execOp, ho, resolve, invoke, builtin, hs, hx, hrun, Result.andThen]
  exact hK _ _ h
theorem dr_bad {D : Dr} (h : D.bad = 0) : D = ⟨D.addr, D.id, D.want, D.per, D.st, D.fails, D.tried, D.left, 0⟩ := by
  obtain ⟨a, b, c, d, e, f, g, h1, k⟩ := D
  dsimp only at h
  subst h
  rfl
end Go.Proofs.Ytdfhhfpfnkjbnaa
