/- The reference's wheel: Take. -/
import Derived.Test.YtehphgpkhfokhaaKr
import Derived.Deep.CutBlock
namespace Go.Proofs.Ytehphgpkhfokhaa
open Go.RowKit
theorem flat2_drop : ∀ (xs : List Tm) (k : Nat), flat2 (xs.drop k) = (flat2 xs).drop (k * 2)
  | [], k => by simp [flat2]
  | s :: l, 0 => by simp [flat2]
  | s :: l, k + 1 => by
    rw [show (k + 1) * 2 = k * 2 + 1 + 1 by omega]
    simp [flat2, flat2_drop l k]
theorem gt_take {S : List Tm} {j i : Nat} (h : i < j) (hj : j ≤ S.length) : gt (S.take j) i = gt S i := by
  refine gt_some ?_
  rw [List.getElem?_take_of_lt h, gt_at (by omega)]
theorem gt_drop {S : List Tm} {j i : Nat} (h : j + i < S.length) : gt (S.drop j) i = gt S (j + i) := by
  refine gt_some ?_
  rw [List.getElem?_drop, gt_at h]
/-- the first j -/
theorem rd_take {w : World} {a : Option Addr} {cap j : Nat} {S : List Tm} (h : ∀ i, i < S.length → ∃ g, a = some ⟨g, 0, none⟩ ∧ w.cell? ⟨g, i * 2, none⟩ = some (.int .i64 (gt S i).1) ∧ w.cell? ⟨g, i * 2 + 1, none⟩ = some (.int .i64 (gt S i).2.1)) (hj : j ≤ S.length) : Rd w (.slice a j cap) (S.take j) := by
  have hl : (S.take j).length = j := by simp [hj]
  refine ⟨a, cap, by rw [hl], fun i hi => ?_⟩
  rw [hl] at hi
  obtain ⟨g, e, c0, c1⟩ := h i (by omega)
  rw [gt_take hi hj]
  exact ⟨g, 0, e, by rw [Nat.zero_add]; exact c0, by rw [Nat.zero_add]; exact c1⟩
/-- all but the first j -/
theorem rd_drop {w : World} {g cap j : Nat} {S : List Tm} (h : ∀ i, i < S.length → w.cell? ⟨g, i * 2, none⟩ = some (.int .i64 (gt S i).1) ∧ w.cell? ⟨g, i * 2 + 1, none⟩ = some (.int .i64 (gt S i).2.1)) : Rd w (.slice (some ⟨g, j * 2, none⟩) (S.length - j) cap) (S.drop j) := by
  have hl : (S.drop j).length = S.length - j := by simp
  refine ⟨_, cap, by rw [hl], fun i hi => ?_⟩
  rw [hl] at hi
  obtain ⟨c0, c1⟩ := h (j + i) (by omega)
  rw [gt_drop (by omega)]
  exact ⟨g, j * 2, rfl, by rw [show j * 2 + i * 2 = (j + i) * 2 by omega]; exact c0, by rw [show j * 2 + i * 2 + 1 = (j + i) * 2 + 1 by omega]; exact c1⟩
theorem rd_none (w : World) (a : Option Addr) (cap : Nat) : Rd w (.slice a 0 cap) [] := ⟨a, cap, rfl, fun j hj => by simp at hj⟩
theorem copy_sl {S : List Tm} (u : Value) (w : World) (hu : Rd w u S) (hS : S.length ≤ 100000) :
    Calls Try.prog 48 #[u] w fun e w' => ∃ a n c, e = .returned (.slice a n c) ∧ w'.ownsRow w.heap.size Ea 2 (.slice a n c) S.length (flat2 S) ∧ Ext w w' := by
  refine (copy_timers u w hu hS).mono ?_
  rintro e w' ⟨r, rfl, q1, q2⟩
  obtain ⟨a, c, rfl, _⟩ := rd_row q1
  exact ⟨a, _, c, rfl, q1, q2⟩
theorem due_j {S : List Tm} {j : Nat} {now : Int} (hj : j ≤ S.length) (h : ∀ i, i < j → (gt S i).2.1 ≤ now) (he : j < S.length → now < (gt S j).2.1) : due now S = S.take j ∧ left now S = S.drop j := by
  have h1 : ∀ t ∈ S.take j, t.2.1 ≤ now := fun t ht => by
    obtain ⟨i, hi, e⟩ := List.getElem_of_mem ht
    have hi2 : i < j := by simp at hi; omega
    have := h i hi2
    rw [← gt_take hi2 hj, gt_some (by rw [List.getElem?_eq_getElem hi, e])] at this
    exact this
  have := due_is (rest := S.drop j) h1 (fun s l e => by
    have hl : j < S.length := by
      rcases Nat.lt_or_ge j S.length with k | k
      · exact k
      · rw [List.drop_of_length_le k] at e; cases e
    have h2 := he hl
    have h3 : gt (S.drop j) 0 = s := by rw [e]; rfl
    rw [gt_drop (by omega)] at h3
    rw [Nat.add_zero] at h3
    rw [← h3]; exact h2)
  rwa [List.take_append_drop] at this
set_option maxRecDepth 20000 in
set_option maxHeartbeats 8000000 in
theorem rtake_any {p : Nat} {v : Value} {S : List Tm} (now : Int) (w : World) (h : RW w p v S) (hS : S.length ≤ 1000) :
    Calls Try.prog 41 #[.pointer (some ⟨p, 2, none⟩), .int .i64 now] w fun e w' => ∃ r, e = .returned r ∧ w'.ownsRow w.heap.size Ea 2 r (due now S).length (flat2 (due now S)) ∧ ∃ v', RW w' p v' (left now S) ∧ Turn (fun k j => k = p ∧ j = 2) w w' ∧ ∀ k, v'.ownBlock = some k → w.heap.size ≤ k := by
  obtain ⟨a, cap, rfl, hcap, ha⟩ := h.shape
  have HA : Hid (∀ j, j < S.length → ∃ g, a = some ⟨g, 0, none⟩ ∧ w.cell? ⟨g, j * 2, none⟩ = some (.int .i64 (gt S j).1) ∧ w.cell? ⟨g, j * 2 + 1, none⟩ = some (.int .i64 (gt S j).2.1)) := ha
  have hp := h.1.1
  have fp := h.1.2
  have HL : Hid (S.length ≤ 1000) := hS
  have HH : Hid (RW w p (.slice a S.length cap) S) := h
  have lp : p < w.heap.size := h.lt p 2 (.inl ⟨rfl, rfl⟩)
  have HLp : Hid (p < w.heap.size) := lp
  -- what stands behind the two copies
  have HEnd : Hid (∀ (j : Nat) (r v' : Value) (w1 w2 : World), due now S = S.take j ∧ left now S = S.drop j → Ext w w1 → w1.ownsRow w.heap.size Ea 2 r (S.take j).length (flat2 (S.take j)) → Ext w1 w2 → w2.ownsRow w1.heap.size Ea 2 v' (S.drop j).length (flat2 (S.drop j)) → (w2.setCell ⟨p, 2, none⟩ v').ownsRow w.heap.size Ea 2 r (due now S).length (flat2 (due now S)) ∧ ∃ v'', RW (w2.setCell ⟨p, 2, none⟩ v') p v'' (left now S) ∧ Turn (fun k j => k = p ∧ j = 2) w (w2.setCell ⟨p, 2, none⟩ v') ∧ ∀ k, v''.ownBlock = some k → w.heap.size ≤ k) := fun j r v' w1 w2 hd x1 o1 x2 o2 => by
    rw [hd.1, hd.2]
    have hput := HH.out.put (S' := S.drop j) (x1.trans x2) (row_mono o2 x1.size)
    refine ⟨row_far (row_ext o1 x2) ((Turn.refl (fun k j => k = p ∧ j = 2) w2).set (q := p) (o := 2) ⟨rfl, rfl⟩ v') (fun k _ hk o => ?_), _, hput⟩
    have := (o1.lt k hk).1
    have := HLp.out
    omega
  clear ha hS h lp
  go_enter Try.func41, Try.ntmps41
  go_upto_block 0 with fail
  go_cut [5] from 7 to 27 (fun s5 wx => ∃ j : Nat, s5 = .int .i64 j ∧ j ≤ S.length ∧ wx = w ∧ Hid (due now S = S.take j ∧ left now S = S.drop j))
  case first =>
    go_wp2_with fail
    go_loopw [5] (fun s5 wr => ∃ j : Nat, j ≤ S.length ∧ s5 = .int .i64 j ∧ wr = w ∧ Hid (∀ i, i < j → (gt S i).2.1 ≤ now)) (fun s5 _ => S.length - (intOf s5).toNat)
    case atStart => exact ⟨0, Nat.zero_le _, rfl, rfl, fun i hi => by omega⟩
    case round =>
      obtain ⟨j, hj, rfl, rfl, hR⟩ := hrel
      by_cases hlt : j < S.length
      · have hjx : (j : Int) < (S.length : Int) := by omega
        have hj2 : (j : Int) ≤ 1000 := by have := HL.out; omega
        obtain ⟨g, rfl, c0, c1⟩ := HA.out j hlt
        by_cases hle : (gt S j).2.1 ≤ now
        · have HN : Hid (∀ i, i < j + 1 → (gt S i).2.1 ≤ now) := fun i hi => by
            by_cases e : i = j
            · subst e; exact hle
            · exact hR.out i (by omega)
          clear hR
          generalize (gt S j).2.1 = t2 at *
          go_wp2_with fail
          go_roundw
          case measure => simp [intOf]; omega
          case rel => exact ⟨j + 1, by omega, by simp, trivial, HN⟩
        · have HD : Hid (due now S = S.take j ∧ left now S = S.drop j) := due_j hj hR.out (fun _ => by omega)
          clear hR
          generalize (gt S j).2.1 = t2 at *
          go_wp2_with fail
          go_meet
          exact ⟨j, rfl, hj, rfl, HD⟩
      · have hjx : ¬ (j : Int) < (S.length : Int) := by omega
        have HD : Hid (due now S = S.take j ∧ left now S = S.drop j) := due_j hj hR.out (fun k => by omega)
        go_wp2_with fail
        go_meet
        exact ⟨j, rfl, hj, rfl, HD⟩
  case rest =>
    obtain ⟨j, rfl, hj, rfl, hD⟩ := hcut
    have hjx : (j : Int) ≤ (S.length : Int) := by omega
    have hjc : (j : Int) ≤ (cap : Int) := by omega
    have HC1 := copy_timers (S := S.take j) (.slice a j cap) wc (rd_take HA.out hj) (by have := HL.out; simp; omega)
    have HC2 : Hid (∀ (w1 : World) (v' : Value), Rd w1 v' (S.drop j) → Calls Try.prog 48 #[v'] w1 fun e w' => ∃ a n c, e = .returned (.slice a n c) ∧ w'.ownsRow w1.heap.size Ea 2 (.slice a n c) (S.drop j).length (flat2 (S.drop j)) ∧ Ext w1 w') := fun w1 v' h => copy_sl v' w1 h (by have := HL.out; simp; omega)
    have hsh : (a = none ∧ S.length = 0 ∧ cap = 0) ∨ ∃ g, a = some ⟨g, 0, none⟩ := by
      rcases HH.out.2.1.2 with ⟨e1, e2⟩ | ⟨g, c, cur, e1, _⟩
      · simp only [Value.slice.injEq] at e1; exact .inl ⟨e1.1, e1.2.1, e1.2.2⟩
      · simp only [Value.slice.injEq] at e1; exact .inr ⟨g, e1.1⟩
    rcases hsh with ⟨rfl, hS0, rfl⟩ | ⟨g, rfl⟩
    · have hj0 : j = 0 := by omega
      subst hj0
      have HR2 : Hid (∀ w1, Rd w1 (.slice none 0 0) (S.drop 0)) := fun w1 => by rw [List.length_eq_zero_iff.1 hS0]; exact rd_none _ _ _
      rw [hS0] at hp
      go_upto_region 5 with (go_at_call 48; refine HC1.mono ?_; rintro e w1 ⟨r1, rfl, o1, x1⟩)
      have hp1 := x1.keepc hp
      have HC3 := HC2.out w1 _ (HR2.out w1)
      go_wp2_with (go_at_call 48; refine HC3.mono ?_; rintro e w2 ⟨r2, n2, c2, rfl, o2, x2⟩; have hp2 := (x1.trans x2).keepc hp; have fp2 := (x1.trans x2).keepf hp fp)
      go_ret
      obtain ⟨k1, k2⟩ := HEnd.out 0 r1 _ w1 w2 hD.out x1 o1 x2 o2
      exact ⟨_, rfl, k1, k2⟩
    · go_upto_region 5 with (go_at_call 48; refine HC1.mono ?_; rintro e w1 ⟨r1, rfl, o1, x1⟩)
      have hp1 := x1.keepc hp
      by_cases hlt : j < S.length
      · have HR2 : Rd w1 (.slice (some ⟨g, j * 2, none⟩) (S.length - j) (cap - j)) (S.drop j) := rd_drop fun i hi => by
          obtain ⟨g', e, q1, q2⟩ := HA.out i hi
          simp only [Option.some.injEq, Addr.mk.injEq, and_true] at e
          subst e
          exact ⟨x1.keepc q1, x1.keepc q2⟩
        have HC3 := HC2.out w1 _ HR2
        have hjc2 : j < cap := by omega
        have hne : ¬ cap - j = 0 := by omega
        go_wp2_with (go_at_call 48; refine HC3.mono ?_; rintro e w2 ⟨r2, n2, c2, rfl, o2, x2⟩; have hp2 := (x1.trans x2).keepc hp; have fp2 := (x1.trans x2).keepf hp fp)
        go_ret
        obtain ⟨k1, k2⟩ := HEnd.out j r1 _ w1 w2 hD.out x1 o1 x2 o2
        exact ⟨_, rfl, k1, k2⟩
      · have hjs : j = S.length := by omega
        have HR2 : Hid (∀ w1 a c, Rd w1 (.slice a 0 c) (S.drop j)) := fun w1 a c => by rw [List.drop_of_length_le (by omega)]; exact rd_none _ _ _
        have HC3 : Hid (∀ a c, Calls Try.prog 48 #[.slice a 0 c] w1 fun e w' => ∃ a n c, e = .returned (.slice a n c) ∧ w'.ownsRow w1.heap.size Ea 2 (.slice a n c) (S.drop j).length (flat2 (S.drop j)) ∧ Ext w1 w') := fun a c => HC2.out w1 _ (HR2.out w1 a c)
        have hz : S.length - j = 0 := by omega
        by_cases hjc2 : j < cap
        · have hne : ¬ cap - j = 0 := by omega
          go_wp2_with (go_at_call 48; refine (HC3.out _ _).mono ?_; rintro e w2 ⟨r2, n2, c2, rfl, o2, x2⟩; have hp2 := (x1.trans x2).keepc hp; have fp2 := (x1.trans x2).keepf hp fp)
          go_ret
          obtain ⟨k1, k2⟩ := HEnd.out j r1 _ w1 w2 hD.out x1 o1 x2 o2
          exact ⟨_, rfl, k1, k2⟩
        · have hce : cap = j := by omega
          go_wp2_with (go_at_call 48; refine (HC3.out _ _).mono ?_; rintro e w2 ⟨r2, n2, c2, rfl, o2, x2⟩; have hp2 := (x1.trans x2).keepc hp; have fp2 := (x1.trans x2).keepf hp fp)
          go_ret
          obtain ⟨k1, k2⟩ := HEnd.out j r1 _ w1 w2 hD.out x1 o1 x2 o2
          exact ⟨_, rfl, k1, k2⟩
end Go.Proofs.Ytehphgpkhfokhaa
