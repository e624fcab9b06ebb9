/- The reference's wheel: Cancel. -/
import Derived.Test.YtiallnpmgdjdfaaPa
namespace Go.Proofs.Ytiallnpmgdjdfaa
open Go.RowKit
/-- the reference's wheel at p tells the timers of S -/
def RW (w : World) (p : Nat) (v : Value) (S : List Tm) : Prop :=
  (w.cell? ⟨p, 0, none⟩ = some v ∧ w.frozen? ⟨p, 0, none⟩ = false) ∧ w.ownsRow 0 Ea 2 v S.length (flat2 S) ∧ v.ownBlock ≠ some p
theorem RW.far {w w' : World} {p : Nat} {v : Value} {S : List Tm} (h : RW w p v S) {o : Nat → Prop} (t : Turn o w w') (ho : ∀ k, own p v k → ¬ o k) : RW w' p v S := by
  obtain ⟨⟨a, b⟩, c, d⟩ := h
  exact ⟨⟨t.keepc (ho p (.inl rfl)) a, t.keepf (ho p (.inl rfl)) a b⟩, row_far c t (fun k hk => ho k (.inr hk)), d⟩
theorem RW.ext {w w' : World} {p : Nat} {v : Value} {S : List Tm} (h : RW w p v S) (x : Ext w w') : RW w' p v S := h.far (o := fun _ => False) (Turn.of_ext x) (fun _ _ k => k)
theorem RW.lt {w : World} {p : Nat} {v : Value} {S : List Tm} (h : RW w p v S) : ∀ k, own p v k → k < w.heap.size := by
  obtain ⟨⟨a, _⟩, c, _⟩ := h
  intro k o
  rcases o with o | o
  · subst o; exact World.block_lt_of_cell? w ⟨k, 0, none⟩ a
  · exact (c.lt k o).2
theorem RW.shape {w : World} {p : Nat} {v : Value} {S : List Tm} (h : RW w p v S) : ∃ a cap, v = .slice a S.length cap ∧ S.length ≤ cap ∧ ∀ j, j < S.length → ∃ g, a = some ⟨g, 0, none⟩ ∧ w.cell? ⟨g, j * 2, none⟩ = some (.int .i64 (gt S j).1) ∧ w.cell? ⟨g, j * 2 + 1, none⟩ = some (.int .i64 (gt S j).2.1) := by
  obtain ⟨_, c, _⟩ := h
  have h2 : ∃ a cap, v = .slice a S.length cap ∧ S.length ≤ cap := by
    rcases c.2 with ⟨e1, e2⟩ | ⟨g, cap, cur, e1, _, _, hc, _⟩
    · exact ⟨none, 0, by rw [e1, e2], by omega⟩
    · exact ⟨_, _, e1, hc⟩
  obtain ⟨a, cap, rfl, hc⟩ := h2
  exact ⟨a, cap, rfl, hc, fun j hj => row2 c hj⟩
/-- a new list put into the reference's wheel -/
theorem RW.put {w w1 : World} {p : Nat} {v r : Value} {S S' : List Tm} (h : RW w p v S) (x : Ext w w1) (hr : w1.ownsRow w.heap.size Ea 2 r S'.length (flat2 S')) : RW (w1.setCell ⟨p, 0, none⟩ r) p r S' ∧ Turn (fun k => k = p) w (w1.setCell ⟨p, 0, none⟩ r) ∧ ∀ k, r.ownBlock = some k → w.heap.size ≤ k := by
  have lp : p < w.heap.size := h.lt p (.inl rfl)
  obtain ⟨⟨a, b⟩, c, d⟩ := h.ext x
  have hk : ∀ k, r.ownBlock = some k → w.heap.size ≤ k := fun k hk => (hr.lt k hk).1
  have t : Turn (fun k => k = p) w1 (w1.setCell ⟨p, 0, none⟩ r) := (Turn.refl (fun k => k = p) w1).set (q := p) rfl _ _
  refine ⟨⟨⟨by simp [go_sem, a], by simp [go_sem, b]⟩, row_mono (row_far hr t (fun k hk' o => by have := hk k hk'; omega)) (Nat.zero_le _), fun e => by have := hk p e; omega⟩, (Turn.of_ext x).trans t (fun _ _ o => o), hk⟩
def filt (id : Int) (S : List Tm) : List Tm := S.filter (fun t => t.1 ≠ id)
theorem filt_take {id : Int} {S : List Tm} {j : Nat} (hj : j < S.length) : filt id (S.take (j + 1)) = filt id (S.take j) ++ (if (gt S j).1 = id then [] else [gt S j]) := by
  unfold filt
  rw [take_one hj, List.filter_append]
  congr 1
  by_cases h : (gt S j).1 = id <;> simp [h]
theorem filt_len (id : Int) (S : List Tm) : decide ((filt id S).length < S.length) = decide (∃ t ∈ S, t.1 = id) := by
  apply decide_eq_decide.2
  constructor
  · intro h
    apply Classical.byContradiction
    intro hn
    have : filt id S = S := filter_none fun t ht e => hn ⟨t, ht, e⟩
    rw [this] at h; omega
  · rintro ⟨t, ht, e⟩
    unfold filt
    have h1 := List.length_filter_le (fun t => decide (t.1 ≠ id)) S
    rcases Nat.lt_or_ge (List.filter (fun t => decide (t.1 ≠ id)) S).length S.length with h | h
    · exact h
    · have := List.length_filter_eq_length_iff.1 (Nat.le_antisymm h1 h) t ht
      simp [e] at this
set_option maxRecDepth 20000 in
set_option maxHeartbeats 8000000 in
theorem rcancel_any {p : Nat} {v : Value} {S : List Tm} (id : Int) (w : World) (h : RW w p v S) (hS : S.length ≤ 1000) :
    Calls Try.prog 8 #[.pointer (some ⟨p, 0, none⟩), .int .i64 id] w fun e w' => e = .returned (.bool (decide (∃ t ∈ S, t.1 = id))) ∧ ∃ v', RW w' p v' (filt id S) ∧ Turn (fun k => k = p) w w' ∧ ∀ k, v'.ownBlock = some k → w.heap.size ≤ k := by
  obtain ⟨i0, hi, hz0, hz1, hz2⟩ := info_parts Try.infoTa
  obtain ⟨a, cap, rfl, _, ha⟩ := h.shape
  have HA : Hid (∀ j, j < S.length → ∃ g, a = some ⟨g, 0, none⟩ ∧ w.cell? ⟨g, j * 2, none⟩ = some (.int .i64 (gt S j).1) ∧ w.cell? ⟨g, j * 2 + 1, none⟩ = some (.int .i64 (gt S j).2.1)) := ha
  have hp := h.1.1
  have fp := h.1.2
  have HL : Hid (S.length ≤ 1000) := hS
  have HH : Hid (RW w p (.slice a S.length cap) S) := h
  clear ha hS h
  go_enter Try.func8, Try.ntmps8
  go_wp2_with fail
  go_loopw [5, 6] (fun s5 s6 wr => ∃ (j m : Nat) (r : Option Addr) (c : Nat), j ≤ S.length ∧ s6 = .int .i64 j ∧ s5 = .slice r m c ∧ Hid (m = (filt id (S.take j)).length ∧ m ≤ j ∧ wr.ownsRow w.heap.size Ea 2 (.slice r m c) m (flat2 (filt id (S.take j))) ∧ Ext w wr)) (fun _ s6 _ => S.length - (intOf s6).toNat)
  case atStart => exact ⟨0, 0, none, 0, Nat.zero_le _, rfl, rfl, rfl, Nat.le_refl _, World.ownsRow_nil _ _ _ _, Ext.refl _⟩
  case round =>
    obtain ⟨j, m, r, c, hj, rfl, rfl, hR⟩ := hrel
    have hpr := hR.out.2.2.2.keepc hp
    have fpr := hR.out.2.2.2.keepf hp fp
    by_cases hlt : j < S.length
    · have hjx : (j : Int) < (S.length : Int) := by omega
      have hj2 : (j : Int) ≤ 1000 := by have := HL.out; omega
      have hj3 : j ≤ 1000 := by omega
      obtain ⟨b1, rfl, c0, c1⟩ := HA.out j hlt
      have c0 := hR.out.2.2.2.keepc c0
      have c1 := hR.out.2.2.2.keepc c1
      have hft := filt_take (id := id) hlt
      by_cases he : (gt S j).1 = id
      · rw [if_pos he, List.append_nil] at hft
        have HN : Hid (m = (filt id (S.take (j + 1))).length ∧ m ≤ j + 1 ∧ wr.ownsRow w.heap.size Ea 2 (.slice r m c) m (flat2 (filt id (S.take (j + 1)))) ∧ Ext w wr) := by
          obtain ⟨q1, q2, q3, q4⟩ := hR.out
          rw [hft]; exact ⟨q1, by omega, q3, q4⟩
        rw [he] at c0
        clear hR hft he
        generalize (gt S j).2.1 = t2 at *
        go_wp2_with fail
        go_roundw
        case measure => simp [intOf]; omega
        case rel => exact ⟨j + 1, m, r, c, by omega, by simp, rfl, HN⟩
      · rw [if_neg he] at hft
        obtain ⟨q1, q2, q3, q4⟩ := hR.out
        have HT : Hid (flat2 (filt id (S.take (j + 1))) = flat2 (filt id (S.take j)) ++ [.int .i64 (gt S j).1, .int .i64 (gt S j).2.1]) := by show _ = _; rw [hft, flat2_app]; rfl
        have HM : Hid (m + 1 = (filt id (S.take (j + 1))).length) := by show _ = _; rw [hft, q1]; simp
        have HB : Hid (w.heap.size ≤ wr.heap.size) := q4.size
        have hb : w.heap.size ≤ wr.heap.size + 1 := by have := HB.out; omega
        have h63 : m + 1 ≤ maxLen := by unfold maxLen; omega
        have hby : (m + 1) * 16 ≤ 140737488355328 := by omega
        have hne : ¬ (gt S j).1 = id := he
        have HX : Hid (Ext w wr) := q4
        clear hft he hR q1
        generalize (gt S j).1 = t1 at *
        generalize (gt S j).2.1 = t2 at *
        go_wp2_with (at_builtin; refine wpList_append_lies _ rfl (.tmp 27) (.tmp 35) 26 rfl w.heap.size Ea i0 (.agg #[.int .i64 0, .int .i64 0]) 2 16 Try.underlying26 hi hz0 hz1 hz2 rfl (by decide) _ m (flat2 (filt id (S.take j))) rfl (by exact q3.alloc _) ⟨wr.heap.size, 0, none⟩ 1 1 [.int .i64 t1, .int .i64 t2] rfl rfl (by exact two_new wr _ _ _) (by simp [Value.oneCell']) (by decide) h63 hby (by simpa using hb) (wr.heap.size + 1) (by simp) ?_; intro g' cap' w2 hown' hg' hgb hgl; have R1 : Hid (m + 1 = (filt id (S.take (j + 1))).length ∧ m + 1 ≤ j + 1 ∧ w2.ownsRow w.heap.size Ea 2 (.slice (some ⟨g', 0, none⟩) (m + 1) cap') (m + 1) (flat2 (filt id (S.take (j + 1)))) ∧ Ext w w2) := (by refine ⟨HM.out, by omega, ?_, row_grown hg' (q3.alloc _) (HX.out.alloc _) (Nat.le_refl _)⟩; rw [HT.out]; exact hown'); clear hown' hg' hgb hgl)
        go_roundw
        case measure => simp [intOf]; omega
        case rel => exact ⟨j + 1, m + 1, _, cap', by omega, by simp, rfl, R1⟩
    · have hjx : ¬ (j : Int) < (S.length : Int) := by omega
      obtain ⟨q1, q2, q3, q4⟩ := hR.out
      rw [List.take_of_length_le (by omega)] at q1 q3
      have hfl := filt_len id S
      rw [← q1] at hfl
      have HD : Hid (decide (m < S.length) = decide (∃ t ∈ S, t.1 = id)) := hfl
      have hput := HH.out.put (S' := filt id S) q4 (by rw [← q1]; exact q3)
      have HPut : Hid (∃ v', v' = Value.slice r m c ∧ RW (wr.setCell ⟨p, 0, none⟩ v') p v' (filt id S) ∧ Turn (fun k => k = p) w (wr.setCell ⟨p, 0, none⟩ v') ∧ ∀ k, v'.ownBlock = some k → w.heap.size ≤ k) := ⟨_, rfl, hput⟩
      clear hput hfl q1 q2 q3 q4 hR
      go_wp2_with fail
      go_ret
      obtain ⟨v', rfl, h1, h2, h3⟩ := HPut.out
      exact ⟨by rw [← HD.out]; simp, _, h1, h2, h3⟩
end Go.Proofs.Ytiallnpmgdjdfaa
