/- The reference's wheel, at an offset: copies, Cancel. -/
import Derived.Test.YtehphgpkhfokhaaSf
namespace Go.Proofs.Ytehphgpkhfokhaa
open Go.RowKit
def Rd (w : World) (v : Value) (S : List Tm) : Prop :=
  ∃ a cap, v = .slice a S.length cap ∧ ∀ j, j < S.length → ∃ b off, a = some ⟨b, off, none⟩ ∧ w.cell? ⟨b, off + j * 2, none⟩ = some (.int .i64 (gt S j).1) ∧ w.cell? ⟨b, off + j * 2 + 1, none⟩ = some (.int .i64 (gt S j).2.1)
theorem Rd.ext {w w' : World} {v : Value} {S : List Tm} (h : Rd w v S) (x : Ext w w') : Rd w' v S := by
  obtain ⟨a, cap, e, h⟩ := h
  refine ⟨a, cap, e, fun j hj => ?_⟩
  obtain ⟨b, off, ea, h1, h2⟩ := h j hj
  exact ⟨b, off, ea, x.keepc h1, x.keepc h2⟩
theorem row2o {w : World} {B : Nat} {a : Option Addr} {cap : Nat} {S : List Tm} (h : w.ownsRow B Ea 2 (.slice a S.length cap) S.length (flat2 S)) {j : Nat} (hj : j < S.length) : ∃ g, a = some ⟨g, 0, none⟩ ∧ w.cell? ⟨g, j * 2, none⟩ = some (.int .i64 (gt S j).1) ∧ w.cell? ⟨g, j * 2 + 1, none⟩ = some (.int .i64 (gt S j).2.1) := by
  obtain ⟨g, cap', e, _, _⟩ := h.form (by omega)
  simp only [Value.slice.injEq, true_and] at e
  obtain ⟨rfl, rfl⟩ := e
  obtain ⟨f0, f1⟩ := flat2_at S j hj
  exact ⟨g, rfl, by rw [h.cellAt _ (by omega)]; exact f0, by rw [h.cellAt _ (by omega)]; exact f1⟩
theorem rd_row {w : World} {B : Nat} {v : Value} {S : List Tm} (h : w.ownsRow B Ea 2 v S.length (flat2 S)) : Rd w v S := by
  obtain ⟨a, cap, rfl⟩ : ∃ a cap, v = .slice a S.length cap := by
    rcases h.2 with ⟨e1, e2⟩ | ⟨g, cap, cur, e1, _⟩
    · exact ⟨none, 0, by rw [e1, e2]⟩
    · exact ⟨_, _, e1⟩
  refine ⟨a, cap, rfl, fun j hj => ?_⟩
  obtain ⟨g, rfl, c0, c1⟩ := row2o h hj
  exact ⟨g, 0, rfl, by rw [Nat.zero_add]; exact c0, by rw [Nat.zero_add]; exact c1⟩
theorem take_one {S : List Tm} {j : Nat} (hj : j < S.length) : S.take (j + 1) = S.take j ++ [gt S j] := by
  rw [List.take_add_one, gt_at hj, Option.toList_some]
set_option maxRecDepth 20000 in
set_option maxHeartbeats 4000000 in
theorem copy_timers {S : List Tm} (u : Value) (w : World) (hu : Rd w u S) (hS : S.length ≤ 100000) :
    Calls Try.prog 48 #[u] w fun e w' => ∃ r, e = .returned r ∧ w'.ownsRow w.heap.size Ea 2 r S.length (flat2 S) ∧ Ext w w' := by
  obtain ⟨i0, hi, hz0, hz1, hz2⟩ := info_parts Try.infoTa
  obtain ⟨a, cap, rfl, ha⟩ := hu
  have HA : Hid (∀ j, j < S.length → ∃ b off, a = some ⟨b, off, none⟩ ∧ w.cell? ⟨b, off + j * 2, none⟩ = some (.int .i64 (gt S j).1) ∧ w.cell? ⟨b, off + j * 2 + 1, none⟩ = some (.int .i64 (gt S j).2.1)) := ha
  have HL : Hid (S.length ≤ 100000) := hS
  clear ha hS
  go_enter Try.func48, Try.ntmps48
  go_wp2_with fail
  go_loopw [3, 4] (fun s3 s4 wr => ∃ (j : Nat) (r : Option Addr) (c : Nat), j ≤ S.length ∧ s4 = .int .i64 j ∧ s3 = .slice r j c ∧ Hid (wr.ownsRow w.heap.size Ea 2 (.slice r j c) j (flat2 (S.take j)) ∧ Ext w wr)) (fun _ s4 _ => S.length - (intOf s4).toNat)
  case atStart => exact ⟨0, none, 0, Nat.zero_le _, rfl, rfl, World.ownsRow_nil _ _ _ _, Ext.refl _⟩
  case round =>
    obtain ⟨j, r, c, hj, rfl, rfl, hR⟩ := hrel
    by_cases hlt : j < S.length
    · have hjx : (j : Int) < (S.length : Int) := by omega
      obtain ⟨b1, o1, rfl, c0, c1⟩ := HA.out j hlt
      have c0 := hR.out.2.keepc c0
      have c1 := hR.out.2.keepc c1
      have hL := HL.out
      have ht := take_one hlt
      have HT : Hid (flat2 (S.take (j + 1)) = flat2 (S.take j) ++ [.int .i64 (gt S j).1, .int .i64 (gt S j).2.1]) := by show _ = _; rw [ht, flat2_app]; rfl
      clear ht
      generalize (gt S j).1 = t1 at *
      generalize (gt S j).2.1 = t2 at *
      have hown := hR.out.1
      have HB : Hid (w.heap.size ≤ wr.heap.size) := hR.out.2.size
      have hb : w.heap.size ≤ wr.heap.size + 1 := by have := HB.out; omega
      have h63 : j + 1 ≤ maxLen := by unfold maxLen; omega
      have hby : (j + 1) * 16 ≤ 140737488355328 := by omega
      clear hL
      go_wp2_with (at_builtin; refine wpList_append_lies _ rfl (.tmp 11) (.tmp 16) 53 rfl w.heap.size Ea i0 (.agg #[.int .i64 0, .int .i64 0]) 2 16 Try.underlying53 hi hz0 hz1 hz2 rfl (by decide) _ j (flat2 (S.take j)) rfl (by exact hown.alloc _) ⟨wr.heap.size, 0, none⟩ 1 1 [.int .i64 t1, .int .i64 t2] rfl rfl (by exact two_new wr _ _ _) (by simp [Value.oneCell']) (by decide) h63 hby (by simpa using hb) (wr.heap.size + 1) (by simp) ?_; intro g' cap' w2 hown' hg' hgb hgl; have R1 : Hid (w2.ownsRow w.heap.size Ea 2 (.slice (some ⟨g', 0, none⟩) (j + 1) cap') (j + 1) (flat2 (S.take (j + 1))) ∧ Ext w w2) := (by refine ⟨?_, row_grown hg' (hown.alloc _) (hR.out.2.alloc _) (Nat.le_refl _)⟩; rw [HT.out]; exact hown'); clear hown' hg' hgb hgl hown)
      have hj2 : (j : Int) ≤ 9223372036854775806 := by omega
      go_roundw
      case measure => simp [intOf]; omega
      case rel => exact ⟨j + 1, _, cap', by omega, by simp, rfl, R1⟩
    · have hjx : ¬ (j : Int) < (S.length : Int) := by omega
      have hjs : j = S.length := by omega
      have HF : Hid (wr.ownsRow w.heap.size Ea 2 (.slice r S.length c) S.length (flat2 S) ∧ Ext w wr) := by
        obtain ⟨q1, q2⟩ := hR.out
        rw [List.take_of_length_le (by omega)] at q1
        rw [hjs] at q1
        exact ⟨q1, q2⟩
      go_wp2_with fail
      go_ret
      exact ⟨_, rfl, HF.out.1, HF.out.2⟩
theorem flat2_one (xs : List Tm) : ∀ u ∈ flat2 xs, u.oneCell' = true := by
  induction xs with
  | nil => intro u hu; simp [flat2] at hu
  | cons t l ih =>
    intro u hu
    simp only [flat2, List.mem_cons] at hu
    rcases hu with rfl | rfl | hu
    · rfl
    · rfl
    · exact ih u hu
theorem run_append_zero {P : Program} (w : World) (base : Nat) (t ty e : TypeId) (i : TypeInfo) (size : Nat) (ht : P.underlying t = some (.slice e)) (hi : P.info? e = some i) (v : Value) (n : Nat) (xs : List Value) (hown : w.ownsRow base e size v n xs) (b : Option Addr) (c : Nat) :
    (Builtin.append_ #[t, t] ty #[v, .slice b 0 c]).run P w = .ok v w := by
  rcases hown.2 with ⟨rfl, rfl⟩ | ⟨g, cap, cur, rfl, _, _, hnc, _⟩ <;> cases b <;>
    simp [Builtin.append_, run_underlying ht, sizeOf, typeInfo, Builtin.lenOf, Builtin.firstCells, storeCells, loadCells, go_sem, *]
theorem wpList_append_zero {P : Program} {w : World} {ops : Array Oper} {rest : List Oper} {o : Oper} {a : Act} {Q : Exit → Act → World → Prop} (hgd : o.guard = none) (s x : Operand) (t : TypeId)
    (ho : o.op = .call { callee := .builtin .append, args := #[s, x], argTypes := #[t, t] })
    (base : Nat) (e : TypeId) (i : TypeInfo) (size : Nat) (ht : P.underlying t = some (.slice e)) (hi : P.info? e = some i)
    (v : Value) (n : Nat) (xs : List Value) (hs : a.eval s = v) (hown : w.ownsRow base e size v n xs) (b : Option Addr) (c : Nat) (hx : a.eval x = .slice b 0 c)
    (h : wpList P ops Q rest (a.put o.dst v) w) : wpList P ops Q (o :: rest) a w := by
  refine wpList_plain hgd fun K hK => ?_
  have hrun := run_append_zero (P := P) w base t o.type e i size ht hi v n xs hown b c
  unfold Oper.wp
  simp [execOp, ho, resolve, invoke, builtin, hs, hx, hrun, Result.andThen]
  exact hK _ _ h
/-- the reference's wheel at p tells the timers of S -/
def RW (w : World) (p : Nat) (v : Value) (S : List Tm) : Prop :=
  (w.cell? ⟨p, 2, none⟩ = some v ∧ w.frozen? ⟨p, 2, none⟩ = false) ∧ w.ownsRow 0 Ea 2 v S.length (flat2 S) ∧ v.ownBlock ≠ some p
/-- what it owns -/
def ownR (p : Nat) (v : Value) (k j : Nat) : Prop := (k = p ∧ j = 2) ∨ v.ownBlock = some k
theorem RW.far {w w' : World} {p : Nat} {v : Value} {S : List Tm} (h : RW w p v S) {o : Nat → Nat → Prop} (t : Turn o w w') (ho : ∀ k j, ownR p v k j → ¬ o k j) : RW w' p v S := by
  obtain ⟨⟨a, b⟩, c, d⟩ := h
  exact ⟨⟨t.keepc (ho p 2 (.inl ⟨rfl, rfl⟩)) a, t.keepf (ho p 2 (.inl ⟨rfl, rfl⟩)) a b⟩, row_far c t (fun k j hk => ho k j (.inr hk)), d⟩
theorem RW.ext {w w' : World} {p : Nat} {v : Value} {S : List Tm} (h : RW w p v S) (x : Ext w w') : RW w' p v S := h.far (o := fun _ _ => False) (Turn.of_ext x) (fun _ _ _ k => k)
theorem RW.lt {w : World} {p : Nat} {v : Value} {S : List Tm} (h : RW w p v S) : ∀ k j, ownR p v k j → k < w.heap.size := by
  obtain ⟨⟨a, _⟩, c, _⟩ := h
  intro k j o
  rcases o with ⟨o, _⟩ | o
  · subst o; exact World.block_lt_of_cell? w ⟨k, 2, none⟩ a
  · exact (c.lt k o).2
theorem RW.shape {w : World} {p : Nat} {v : Value} {S : List Tm} (h : RW w p v S) : ∃ a cap, v = .slice a S.length cap ∧ S.length ≤ cap ∧ ∀ j, j < S.length → ∃ g, a = some ⟨g, 0, none⟩ ∧ w.cell? ⟨g, j * 2, none⟩ = some (.int .i64 (gt S j).1) ∧ w.cell? ⟨g, j * 2 + 1, none⟩ = some (.int .i64 (gt S j).2.1) := by
  obtain ⟨_, c, _⟩ := h
  have h2 : ∃ a cap, v = .slice a S.length cap ∧ S.length ≤ cap := by
    rcases c.2 with ⟨e1, e2⟩ | ⟨g, cap, cur, e1, _, _, hc, _⟩
    · exact ⟨none, 0, by rw [e1, e2], by omega⟩
    · exact ⟨_, _, e1, hc⟩
  obtain ⟨a, cap, rfl, hc⟩ := h2
  exact ⟨a, cap, rfl, hc, fun j hj => row2o c hj⟩
/-- a new list put into the reference's wheel -/
theorem RW.put {w w1 : World} {p : Nat} {v r : Value} {S S' : List Tm} (h : RW w p v S) (x : Ext w w1) (hr : w1.ownsRow w.heap.size Ea 2 r S'.length (flat2 S')) : RW (w1.setCell ⟨p, 2, none⟩ r) p r S' ∧ Turn (fun k j => k = p ∧ j = 2) w (w1.setCell ⟨p, 2, none⟩ r) ∧ ∀ k, r.ownBlock = some k → w.heap.size ≤ k := by
  have lp : p < w.heap.size := h.lt p 2 (.inl ⟨rfl, rfl⟩)
  obtain ⟨⟨a, b⟩, c, d⟩ := h.ext x
  have hk : ∀ k, r.ownBlock = some k → w.heap.size ≤ k := fun k hk => (hr.lt k hk).1
  have t : Turn (fun k j => k = p ∧ j = 2) w1 (w1.setCell ⟨p, 2, none⟩ r) := (Turn.refl (fun k j => k = p ∧ j = 2) w1).set (q := p) (o := 2) ⟨rfl, rfl⟩ _
  refine ⟨⟨⟨by simp [go_sem, a], by simp [go_sem, b]⟩, row_mono (row_far hr t (fun k _ hk' o => by have := hk k hk'; omega)) (Nat.zero_le _), fun e => by have := hk p e; omega⟩, (Turn.of_ext x).trans t (fun _ _ _ o => o), hk⟩
def filt (id : Int) (S : List Tm) : List Tm := S.filter (fun t => t.1 ≠ id)
theorem filt_take {id : Int} {S : List Tm} {j : Nat} (hj : j < S.length) : filt id (S.take (j + 1)) = filt id (S.take j) ++ (if (gt S j).1 = id then [] else [gt S j]) := by
  unfold filt
  rw [take_one hj, List.filter_append]
  congr 1
  by_cases h : (gt S j).1 = id <;> simp [h]
theorem filt_len (id : Int) (S : List Tm) : decide ((filt id S).length < S.length) = decide (∃ t ∈ S, t.1 = id) := by
  apply decide_eq_decide.2
  constructor
  · intro h
    apply Classical.byContradiction
    intro hn
    have : filt id S = S := filter_none fun t ht e => hn ⟨t, ht, e⟩
    rw [this] at h; omega
  · rintro ⟨t, ht, e⟩
    unfold filt
    have h1 := List.length_filter_le (fun t => decide (t.1 ≠ id)) S
    rcases Nat.lt_or_ge (List.filter (fun t => decide (t.1 ≠ id)) S).length S.length with h | h
    · exact h
    · have := List.length_filter_eq_length_iff.1 (Nat.le_antisymm h1 h) t ht
      simp [e] at this
set_option maxRecDepth 20000 in
set_option maxHeartbeats 8000000 in
theorem rcancel_any {p : Nat} {v : Value} {S : List Tm} (id : Int) (w : World) (h : RW w p v S) (hS : S.length ≤ 1000) :
    Calls Try.prog 47 #[.pointer (some ⟨p, 2, none⟩), .int .i64 id] w fun e w' => e = .returned (.bool (decide (∃ t ∈ S, t.1 = id))) ∧ ∃ v', RW w' p v' (filt id S) ∧ Turn (fun k j => k = p ∧ j = 2) w w' ∧ ∀ k, v'.ownBlock = some k → w.heap.size ≤ k := by
  obtain ⟨i0, hi, hz0, hz1, hz2⟩ := info_parts Try.infoTa
  obtain ⟨a, cap, rfl, _, ha⟩ := h.shape
  have HA : Hid (∀ j, j < S.length → ∃ g, a = some ⟨g, 0, none⟩ ∧ w.cell? ⟨g, j * 2, none⟩ = some (.int .i64 (gt S j).1) ∧ w.cell? ⟨g, j * 2 + 1, none⟩ = some (.int .i64 (gt S j).2.1)) := ha
  have hp := h.1.1
  have fp := h.1.2
  have HL : Hid (S.length ≤ 1000) := hS
  have HH : Hid (RW w p (.slice a S.length cap) S) := h
  clear ha hS h
  go_enter Try.func47, Try.ntmps47
  go_wp2_with fail
  go_loopw [5, 6] (fun s5 s6 wr => ∃ (j m : Nat) (r : Option Addr) (c : Nat), j ≤ S.length ∧ s6 = .int .i64 j ∧ s5 = .slice r m c ∧ Hid (m = (filt id (S.take j)).length ∧ m ≤ j ∧ wr.ownsRow w.heap.size Ea 2 (.slice r m c) m (flat2 (filt id (S.take j))) ∧ Ext w wr)) (fun _ s6 _ => S.length - (intOf s6).toNat)
  case atStart => exact ⟨0, 0, none, 0, Nat.zero_le _, rfl, rfl, rfl, Nat.le_refl _, World.ownsRow_nil _ _ _ _, Ext.refl _⟩
  case round =>
    obtain ⟨j, m, r, c, hj, rfl, rfl, hR⟩ := hrel
    have hpr := hR.out.2.2.2.keepc hp
    have fpr := hR.out.2.2.2.keepf hp fp
    by_cases hlt : j < S.length
    · have hjx : (j : Int) < (S.length : Int) := by omega
      have hj2 : (j : Int) ≤ 1000 := by have := HL.out; omega
      have hj3 : j ≤ 1000 := by omega
      obtain ⟨b1, rfl, c0, c1⟩ := HA.out j hlt
      have c0 := hR.out.2.2.2.keepc c0
      have c1 := hR.out.2.2.2.keepc c1
      have hft := filt_take (id := id) hlt
      by_cases he : (gt S j).1 = id
      · rw [if_pos he, List.append_nil] at hft
        have HN : Hid (m = (filt id (S.take (j + 1))).length ∧ m ≤ j + 1 ∧ wr.ownsRow w.heap.size Ea 2 (.slice r m c) m (flat2 (filt id (S.take (j + 1)))) ∧ Ext w wr) := by
          obtain ⟨q1, q2, q3, q4⟩ := hR.out
          rw [hft]; exact ⟨q1, by omega, q3, q4⟩
        rw [he] at c0
        clear hR hft he
        generalize (gt S j).2.1 = t2 at *
        go_wp2_with fail
        go_roundw
        case measure => simp [intOf]; omega
        case rel => exact ⟨j + 1, m, r, c, by omega, by simp, rfl, HN⟩
      · rw [if_neg he] at hft
        obtain ⟨q1, q2, q3, q4⟩ := hR.out
        have HT : Hid (flat2 (filt id (S.take (j + 1))) = flat2 (filt id (S.take j)) ++ [.int .i64 (gt S j).1, .int .i64 (gt S j).2.1]) := by show _ = _; rw [hft, flat2_app]; rfl
        have HM : Hid (m + 1 = (filt id (S.take (j + 1))).length) := by show _ = _; rw [hft, q1]; simp
        have HB : Hid (w.heap.size ≤ wr.heap.size) := q4.size
        have hb : w.heap.size ≤ wr.heap.size + 1 := by have := HB.out; omega
        have h63 : m + 1 ≤ maxLen := by unfold maxLen; omega
        have hby : (m + 1) * 16 ≤ 140737488355328 := by omega
        have hne : ¬ (gt S j).1 = id := he
        have HX : Hid (Ext w wr) := q4
        clear hft he hR q1
        generalize (gt S j).1 = t1 at *
        generalize (gt S j).2.1 = t2 at *
        go_wp2_with (at_builtin; refine wpList_append_lies _ rfl (.tmp 27) (.tmp 35) 53 rfl w.heap.size Ea i0 (.agg #[.int .i64 0, .int .i64 0]) 2 16 Try.underlying53 hi hz0 hz1 hz2 rfl (by decide) _ m (flat2 (filt id (S.take j))) rfl (by exact q3.alloc _) ⟨wr.heap.size, 0, none⟩ 1 1 [.int .i64 t1, .int .i64 t2] rfl rfl (by exact two_new wr _ _ _) (by simp [Value.oneCell']) (by decide) h63 hby (by simpa using hb) (wr.heap.size + 1) (by simp) ?_; intro g' cap' w2 hown' hg' hgb hgl; have R1 : Hid (m + 1 = (filt id (S.take (j + 1))).length ∧ m + 1 ≤ j + 1 ∧ w2.ownsRow w.heap.size Ea 2 (.slice (some ⟨g', 0, none⟩) (m + 1) cap') (m + 1) (flat2 (filt id (S.take (j + 1)))) ∧ Ext w w2) := (by refine ⟨HM.out, by omega, ?_, row_grown hg' (q3.alloc _) (HX.out.alloc _) (Nat.le_refl _)⟩; rw [HT.out]; exact hown'); clear hown' hg' hgb hgl)
        go_roundw
        case measure => simp [intOf]; omega
        case rel => exact ⟨j + 1, m + 1, _, cap', by omega, by simp, rfl, R1⟩
    · have hjx : ¬ (j : Int) < (S.length : Int) := by omega
      obtain ⟨q1, q2, q3, q4⟩ := hR.out
      rw [List.take_of_length_le (by omega)] at q1 q3
      have hfl := filt_len id S
      rw [← q1] at hfl
      have HD : Hid (decide (m < S.length) = decide (∃ t ∈ S, t.1 = id)) := hfl
      have hput := HH.out.put (S' := filt id S) q4 (by rw [← q1]; exact q3)
      have HPut : Hid (∃ v', v' = Value.slice r m c ∧ RW (wr.setCell ⟨p, 2, none⟩ v') p v' (filt id S) ∧ Turn (fun k j => k = p ∧ j = 2) w (wr.setCell ⟨p, 2, none⟩ v') ∧ ∀ k, v'.ownBlock = some k → w.heap.size ≤ k) := ⟨_, rfl, hput⟩
      clear hput hfl q1 q2 q3 q4 hR
      go_wp2_with fail
      go_ret
      obtain ⟨v', rfl, h1, h2, h3⟩ := HPut.out
      exact ⟨by rw [← HD.out]; simp, _, h1, h2, h3⟩
end Go.Proofs.Ytehphgpkhfokhaa
