/- learn: its leaves, mean, Check, in one text. -/
import Derived.Test.YtcbelhalckehcaaLeVM
import Derived.Deep.RegionHeld3
import Derived.Test.YtcbelhalckehcaaNearNum
import Derived.Test.YtcbelhalckehcaaFaces  
import Derived.Deep.Cut
import Derived.Deep.DeepCutAuto
namespace Go.Proofs.Ytcbelhalckehcaa
open Go.RowKit Go.Shelf
theorem wrap_le (n : Int) (h1 : -9223372036854775808 ≤ n) (h2 : n ≤ 9223372036854775807) : wrap64 n = n := by unfold wrap64; omega
/-- a number that a sum may have -/
def okS (x : Int) : Bool := decide (-2251799813685248 < x) && decide (x < 2251799813685248)
theorem okS_iff {x : Int} : okS x = true ↔ -2251799813685248 < x ∧ x < 2251799813685248 := by unfold okS; simp
/-- within the gate -/
def gte (x : Int) : Bool := decide (-1048576 ≤ x) && decide (x ≤ 1048576)
theorem gte_iff {x : Int} : gte x = true ↔ -1048576 ≤ x ∧ x ≤ 1048576 := by unfold gte; simp
set_option maxHeartbeats 400000 in
theorem below_any (x : Int) (w : World) : Calls Try.prog 36 #[.int .i64 x] w fun e w' => e = .returned (.bool (okS x)) ∧ w' = w := by
  by_cases h1 : -2251799813685248 < x
  · by_cases h2 : x < 2251799813685248
    · have e : Hid (okS x = true) := okS_iff.2 ⟨h1, h2⟩
      go_enter Try.func36, Try.ntmps36
      go_wp2
      go_ret
      rw [e.out]; exact ⟨rfl, rfl⟩
    · have e : Hid (okS x = false) := Bool.eq_false_iff.2 (fun h => h2 (okS_iff.1 h).2)
      go_enter Try.func36, Try.ntmps36
      go_wp2
      go_ret
      rw [e.out]; exact ⟨rfl, rfl⟩
  · have e : Hid (okS x = false) := Bool.eq_false_iff.2 (fun h => h1 (okS_iff.1 h).1)
    go_enter Try.func36, Try.ntmps36
    go_wp2
    go_ret
    rw [e.out]; exact ⟨rfl, rfl⟩
set_option maxHeartbeats 400000 in
theorem gate_any (x : Int) (w : World) : Calls Try.prog 33 #[.int .i64 x] w fun e w' => e = .returned (.bool (gte x)) ∧ w' = w := by
  by_cases h1 : -1048576 ≤ x
  · by_cases h2 : x ≤ 1048576
    · have e : Hid (gte x = true) := gte_iff.2 ⟨h1, h2⟩
      go_enter Try.func33, Try.ntmps33
      go_wp2
      go_ret
      rw [e.out]; exact ⟨rfl, rfl⟩
    · have e : Hid (gte x = false) := Bool.eq_false_iff.2 (fun h => h2 (gte_iff.1 h).2)
      go_enter Try.func33, Try.ntmps33
      go_wp2
      go_ret
      rw [e.out]; exact ⟨rfl, rfl⟩
  · have e : Hid (gte x = false) := Bool.eq_false_iff.2 (fun h => h1 (gte_iff.1 h).1)
    go_enter Try.func33, Try.ntmps33
    go_wp2
    go_ret
    rw [e.out]; exact ⟨rfl, rfl⟩
/-- three of them -/
def okS3 (x y z : Int) : Bool := okS x && okS y && okS z
set_option maxRecDepth 20000 in
set_option maxHeartbeats 4000000 in
theorem issum_any (x y z : Int) (w : World) : Calls Try.prog 27 #[.agg #[.int .i64 x, .int .i64 y, .int .i64 z]] w fun e w' => e = .returned (.bool (okS3 x y z)) ∧ Ext w w' := by
  have HX : Hid (∀ w, Calls Try.prog 36 #[.int .i64 x] w fun e w' => e = .returned (.bool (okS x)) ∧ w' = w) := below_any x
  have HY : Hid (∀ w, Calls Try.prog 36 #[.int .i64 y] w fun e w' => e = .returned (.bool (okS y)) ∧ w' = w) := below_any y
  have HZ : Hid (∀ w, Calls Try.prog 36 #[.int .i64 z] w fun e w' => e = .returned (.bool (okS z)) ∧ w' = w) := below_any z
  have ex : Hid (okS3 x y z = (okS x && okS y && okS z)) := rfl
  generalize okS x = p1 at *
  generalize okS y = p2 at *
  generalize okS z = p3 at *
  generalize okS3 x y z = R at *
  have hx : Ext w (w.alloc (.cells #[.int .i64 x, .int .i64 y, .int .i64 z] 24)) := (Ext.refl w).alloc _
  cases p1 <;> cases p2 <;> cases p3
  all_goals
    go_enter Try.func27, Try.ntmps27
    go_wp2_with (first | (go_at_call_of 36 (Value.int IntKind.i64 x); refine (HX.out _).mono ?_; rintro e wx ⟨rfl, hwx⟩; have hwy := hwx.symm; clear hwx; subst hwy) | (go_at_call_of 36 (Value.int IntKind.i64 y); refine (HY.out _).mono ?_; rintro e wx ⟨rfl, hwx⟩; have hwy := hwx.symm; clear hwx; subst hwy) | (go_at_call_of 36 (Value.int IntKind.i64 z); refine (HZ.out _).mono ?_; rintro e wx ⟨rfl, hwx⟩; have hwy := hwx.symm; clear hwx; subst hwy))
    go_ret
    rw [ex.out]
    exact ⟨by first | rfl | simp, hx⟩
set_option maxRecDepth 20000 in
set_option maxHeartbeats 4000000 in
theorem plus_any (a0 a1 a2 b0 b1 b2 : Int) (w : World) (h0 : -4503599627370496 ≤ a0 + b0 ∧ a0 + b0 ≤ 4503599627370496) (h1 : -4503599627370496 ≤ a1 + b1 ∧ a1 + b1 ≤ 4503599627370496) (h2 : -4503599627370496 ≤ a2 + b2 ∧ a2 + b2 ≤ 4503599627370496) :
    Calls Try.prog 24 #[.agg #[.int .i64 a0, .int .i64 a1, .int .i64 a2], .agg #[.int .i64 b0, .int .i64 b1, .int .i64 b2]] w fun e w' => e = .returned (.agg #[.int .i64 (a0 + b0), .int .i64 (a1 + b1), .int .i64 (a2 + b2)]) ∧ Ext w w' := by
  obtain ⟨h01, h02⟩ := h0
  obtain ⟨h11, h12⟩ := h1
  obtain ⟨h21, h22⟩ := h2
  go_enter Try.func24, Try.ntmps24
  go_wp2_with fail
  exact bodyPost_ret (v := .agg #[.int .i64 (a0 + b0), .int .i64 (a1 + b1), .int .i64 (a2 + b2)]) (by simp [results, Try.results24, go_sem]) rfl ⟨rfl, by repeat (first | with_reducible assumption | with_reducible exact Ext.refl _ | with_reducible refine Ext.drew ?_ | with_reducible refine Ext.drewN ?_ _ | with_reducible refine Ext.alloc ?_ _ | with_reducible refine Ext.set ?_ (by first | exact Nat.le_refl _ | (dsimp only; omega) | (simp; done)) _)⟩
/-- near a bias -/
def ngh (v0 v1 v2 b0 b1 b2 : Int) : Bool := gte (v0 - b0) && gte (v1 - b1) && gte (v2 - b2)
set_option maxRecDepth 20000 in
set_option maxHeartbeats 4000000 in
theorem isnear_any (v0 v1 v2 b0 b1 b2 : Int) (w : World) (hv : ok3 v0 v1 v2 = true) (hb : ok3 b0 b1 b2 = true) :
    Calls Try.prog 21 #[.agg #[.int .i64 v0, .int .i64 v1, .int .i64 v2], .agg #[.int .i64 b0, .int .i64 b1, .int .i64 b2]] w fun e w' => e = .returned (.bool (ngh v0 v1 v2 b0 b1 b2)) ∧ Ext w w' := by
  obtain ⟨k0, k1, k2⟩ := ok3_parts hv
  obtain ⟨l0, l1, l2⟩ := ok3_parts hb
  have g0 := okW_bounds k0
  have g1 := okW_bounds k1
  have g2 := okW_bounds k2
  have m0 := okW_bounds l0
  have m1 := okW_bounds l1
  have m2 := okW_bounds l2
  obtain ⟨d0, e0, f0⟩ : ∃ d0, wrap64 (v0 - b0) = d0 ∧ Hid (d0 = v0 - b0) := ⟨_, wrap_le _ (by omega) (by omega), rfl⟩
  obtain ⟨d1, e1, f1⟩ : ∃ d1, wrap64 (v1 - b1) = d1 ∧ Hid (d1 = v1 - b1) := ⟨_, wrap_le _ (by omega) (by omega), rfl⟩
  obtain ⟨d2, e2, f2⟩ : ∃ d2, wrap64 (v2 - b2) = d2 ∧ Hid (d2 = v2 - b2) := ⟨_, wrap_le _ (by omega) (by omega), rfl⟩
  have HX : Hid (∀ w, Calls Try.prog 33 #[.int .i64 d0] w fun e w' => e = .returned (.bool (gte d0)) ∧ w' = w) := gate_any d0
  have HY : Hid (∀ w, Calls Try.prog 33 #[.int .i64 d1] w fun e w' => e = .returned (.bool (gte d1)) ∧ w' = w) := gate_any d1
  have HZ : Hid (∀ w, Calls Try.prog 33 #[.int .i64 d2] w fun e w' => e = .returned (.bool (gte d2)) ∧ w' = w) := gate_any d2
  have ex : Hid (ngh v0 v1 v2 b0 b1 b2 = (gte d0 && gte d1 && gte d2)) := by
    show _ = _
    rw [f0.out, f1.out, f2.out]; rfl
  clear g0 g1 g2 m0 m1 m2 f0 f1 f2 hv hb k0 k1 k2 l0 l1 l2
  generalize gte d0 = p1 at *
  generalize gte d1 = p2 at *
  generalize gte d2 = p3 at *
  generalize ngh v0 v1 v2 b0 b1 b2 = R at *
  cases p1 <;> cases p2 <;> cases p3
  all_goals
    go_enter Try.func21, Try.ntmps21
    go_wp2_with (first | (go_at_call_of 33 (Value.int IntKind.i64 d0); refine (HX.out _).mono ?_; rintro e wx ⟨rfl, hwx⟩; have hwy := hwx.symm; clear hwx; subst hwy) | (go_at_call_of 33 (Value.int IntKind.i64 d1); refine (HY.out _).mono ?_; rintro e wx ⟨rfl, hwx⟩; have hwy := hwx.symm; clear hwx; subst hwy) | (go_at_call_of 33 (Value.int IntKind.i64 d2); refine (HZ.out _).mono ?_; rintro e wx ⟨rfl, hwx⟩; have hwy := hwx.symm; clear hwx; subst hwy))
    go_ret
    rw [ex.out]
    exact ⟨by first | rfl | simp, by repeat (first | with_reducible assumption | with_reducible exact Ext.refl _ | with_reducible refine Ext.drew ?_ | with_reducible refine Ext.drewN ?_ _ | with_reducible refine Ext.alloc ?_ _ | with_reducible refine Ext.set ?_ (by first | exact Nat.le_refl _ | (dsimp only; omega) | (simp; done)) _)⟩
set_option maxRecDepth 20000 in
set_option maxHeartbeats 1000000 in
theorem windowof_any (b0 b1 b2 s0 s1 s2 n : Int) (w : World) :
    Calls Try.prog 22 #[.agg #[.int .i64 b0, .int .i64 b1, .int .i64 b2, .int .i64 s0, .int .i64 s1, .int .i64 s2, .int .i64 n]] w fun e w' => e = .returned (.agg #[.int .i64 s0, .int .i64 s1, .int .i64 s2, .int .i64 n]) ∧ Ext w w' := by
  go_enter Try.func22, Try.ntmps22
  go_wp2_with fail
  exact bodyPost_ret (v := .agg #[.int .i64 s0, .int .i64 s1, .int .i64 s2, .int .i64 n]) (by simp [results, Try.results22, go_sem]) rfl ⟨rfl, by repeat (first | with_reducible assumption | with_reducible exact Ext.refl _ | with_reducible refine Ext.drew ?_ | with_reducible refine Ext.drewN ?_ _ | with_reducible refine Ext.alloc ?_ _ | with_reducible refine Ext.set ?_ (by first | exact Nat.le_refl _ | (dsimp only; omega) | (simp; done)) _)⟩
/-- a window that is open, of 32 -/
def opn (s0 s1 s2 n : Int) : Bool := if n = 0 then decide (s0 = 0 ∧ s1 = 0 ∧ s2 = 0) else decide (0 < n ∧ n < 32)
set_option maxRecDepth 20000 in
set_option maxHeartbeats 1000000 in
theorem isopen_any (s0 s1 s2 n : Int) (w : World) :
    Calls Try.prog 25 #[.agg #[.int .i64 s0, .int .i64 s1, .int .i64 s2, .int .i64 n], .int .i64 32] w fun e w' => e = .returned (.bool (opn s0 s1 s2 n)) ∧ Ext w w' := by
  by_cases hn : n = 0
  · subst hn
    have ex : Hid (opn s0 s1 s2 0 = decide (s0 = 0 ∧ s1 = 0 ∧ s2 = 0)) := rfl
    generalize opn s0 s1 s2 0 = R at *
    go_enter Try.func25, Try.ntmps25
    go_wp2_with fail
    all_goals
      go_ret
      exact ⟨by rw [ex.out]; simp [*], by repeat (first | with_reducible assumption | with_reducible exact Ext.refl _ | with_reducible refine Ext.drew ?_ | with_reducible refine Ext.drewN ?_ _ | with_reducible refine Ext.alloc ?_ _ | with_reducible refine Ext.set ?_ (by first | exact Nat.le_refl _ | (dsimp only; omega) | (simp; done)) _)⟩
  · have ex : Hid (opn s0 s1 s2 n = decide (0 < n ∧ n < 32)) := if_neg hn
    generalize opn s0 s1 s2 n = R at *
    by_cases hp : 0 < n
    · by_cases hq : n < 32
      · have er : R = true := by rw [ex.out]; simp [hp, hq]
        subst er
        clear ex
        go_enter Try.func25, Try.ntmps25
        go_wp2_with fail
        go_ret
        exact ⟨rfl, by repeat (first | with_reducible assumption | with_reducible exact Ext.refl _ | with_reducible refine Ext.drew ?_ | with_reducible refine Ext.drewN ?_ _ | with_reducible refine Ext.alloc ?_ _ | with_reducible refine Ext.set ?_ (by first | exact Nat.le_refl _ | (dsimp only; omega) | (simp; done)) _)⟩
      · have er : R = false := by rw [ex.out]; simp [hq]
        subst er
        clear ex
        go_enter Try.func25, Try.ntmps25
        go_wp2_with fail
        go_ret
        exact ⟨rfl, by repeat (first | with_reducible assumption | with_reducible exact Ext.refl _ | with_reducible refine Ext.drew ?_ | with_reducible refine Ext.drewN ?_ _ | with_reducible refine Ext.alloc ?_ _ | with_reducible refine Ext.set ?_ (by first | exact Nat.le_refl _ | (dsimp only; omega) | (simp; done)) _)⟩
    · have er : R = false := by rw [ex.out]; simp [hp]
      subst er
      clear ex
      go_enter Try.func25, Try.ntmps25
      go_wp2_with fail
      go_ret
      exact ⟨rfl, by repeat (first | with_reducible assumption | with_reducible exact Ext.refl _ | with_reducible refine Ext.drew ?_ | with_reducible refine Ext.drewN ?_ _ | with_reducible refine Ext.alloc ?_ _ | with_reducible refine Ext.set ?_ (by first | exact Nat.le_refl _ | (dsimp only; omega) | (simp; done)) _)⟩

/-- the mean of 32: the nearest number -/
def nr (s : Int) : Int := nearI s 32
theorem share32 (s : Int) : shareR s 1 32 = fitR (nr s) := by
  have h := share_word s 1 32 (nr s) (by decide) (by
    have e : over (s * 1) 32 = s := by unfold over; rw [if_neg (by decide), Int.mul_one]
    rw [e]
    exact nearI_spec s 32 (by decide))
  rw [h]; rfl
theorem ratio32 (s : Int) (w : World) (h1 : -9223372036854775808 ≤ s) (h2 : s ≤ 9223372036854775807) :
    Calls Try.prog 34 #[.int .i64 s, .int .i64 32] w fun e w' => e = .returned (.tuple #[.int .i64 (fitR (nr s)).1, .int .i64 (fitR (nr s)).2]) ∧ Ext w w' := by
  have h := ratio_any s 32 w h1 h2 (by decide) (by decide)
  rw [share32] at h
  exact h
theorem cmpOr3 (a b c r : Int) (g : Nat) (w : World) (h : HV w g [.int .i64 a, .int .i64 b, .int .i64 c]) (hr : r = if a ≠ 0 then a else if b ≠ 0 then b else c) :
    Calls Try.prog 35 #[.slice (some ⟨g, 0, none⟩) 3 3] w fun e w' => e = .returned (.int .i64 r) ∧ Ext w w' := by
  obtain ⟨c0, c1, c2⟩ := h.k3
  have hb := h.1
  refine (cmpOr_any 3 g (fun i => if i = 0 then a else if i = 1 then b else c) w (by omega) (fun i hi => ?_)).mono ?_
  · obtain rfl | rfl | rfl : i = 0 ∨ i = 1 ∨ i = 2 := by omega
    · exact ⟨c0, hb⟩
    · exact ⟨c1, hb⟩
    · exact ⟨c2, hb⟩
  · rintro e w1 ⟨⟨s, rfl, hs⟩, x1⟩
    refine ⟨?_, x1⟩
    have : s = r := by
      rcases hs with ⟨k, hk, h1, h2, rfl⟩ | ⟨h1, rfl⟩
      · obtain rfl | rfl | rfl : k = 0 ∨ k = 1 ∨ k = 2 := by omega
        · have g0 : a ≠ 0 := h2
          rw [hr]; simp_all
        · have g0 : a = 0 := h1 0 (by omega)
          have g1 : b ≠ 0 := h2
          rw [hr]; simp_all
        · have g0 : a = 0 := h1 0 (by omega)
          have g1 : b = 0 := h1 1 (by omega)
          rw [hr]; simp_all
      · have g0 : a = 0 := h1 0 (by omega)
        have g1 : b = 0 := h1 1 (by omega)
        have g2 : c = 0 := h1 2 (by omega)
        rw [hr]; simp_all
    rw [this]
theorem mean_form (s0 s1 s2 : Int) : ∃ x0 e0 x1 e1 x2 e2 r y0 y1 y2 : Int, fitR s0 = (x0, e0) ∧ fitR s1 = (x1, e1) ∧ fitR s2 = (x2, e2) ∧ (r = if e0 ≠ 0 then e0 else if e1 ≠ 0 then e1 else e2) ∧
    vres s0 s1 s2 = .tuple #[.agg #[.int .i64 y0, .int .i64 y1, .int .i64 y2], .int .i64 r] ∧ (r = 0 ∧ y0 = x0 ∧ y1 = x1 ∧ y2 = x2 ∨ r = 2 ∧ y0 = 0 ∧ y1 = 0 ∧ y2 = 0) := by
  cases h0 : okW s0
  · exact ⟨0, 2, _, _, _, _, 2, 0, 0, 0, fit_no' h0, rfl, rfl, by simp, by unfold vres ok3; rw [h0]; rfl, .inr ⟨rfl, rfl, rfl, rfl⟩⟩
  · cases h1 : okW s1
    · exact ⟨s0, 0, 0, 2, _, _, 2, 0, 0, 0, fit_yes' h0, fit_no' h1, rfl, by simp, by unfold vres ok3; rw [h0, h1]; rfl, .inr ⟨rfl, rfl, rfl, rfl⟩⟩
    · cases h2 : okW s2
      · exact ⟨s0, 0, s1, 0, 0, 2, 2, 0, 0, 0, fit_yes' h0, fit_yes' h1, fit_no' h2, by simp, by unfold vres ok3; rw [h0, h1, h2]; rfl, .inr ⟨rfl, rfl, rfl, rfl⟩⟩
      · exact ⟨s0, 0, s1, 0, s2, 0, 0, s0, s1, s2, fit_yes' h0, fit_yes' h1, fit_yes' h2, by simp, by unfold vres ok3; rw [h0, h1, h2]; rfl, .inl ⟨rfl, rfl, rfl, rfl⟩⟩
set_option maxRecDepth 20000 in
set_option maxHeartbeats 4000000 in
theorem mean_any (s0 s1 s2 : Int) (w : World) (h0 : -4503599627370496 ≤ s0 ∧ s0 ≤ 4503599627370496) (h1 : -4503599627370496 ≤ s1 ∧ s1 ≤ 4503599627370496) (h2 : -4503599627370496 ≤ s2 ∧ s2 ≤ 4503599627370496) :
    Calls Try.prog 26 #[.agg #[.int .i64 s0, .int .i64 s1, .int .i64 s2]] w fun e w' => e = .returned (vres (nr s0) (nr s1) (nr s2)) ∧ Ext w w' := by
  have R0 : Hid (∀ w, Calls Try.prog 34 #[.int .i64 s0, .int .i64 32] w fun e w' => e = .returned (.tuple #[.int .i64 (fitR (nr s0)).1, .int .i64 (fitR (nr s0)).2]) ∧ Ext w w') := fun w => ratio32 s0 w (by omega) (by omega)
  have R1 : Hid (∀ w, Calls Try.prog 34 #[.int .i64 s1, .int .i64 32] w fun e w' => e = .returned (.tuple #[.int .i64 (fitR (nr s1)).1, .int .i64 (fitR (nr s1)).2]) ∧ Ext w w') := fun w => ratio32 s1 w (by omega) (by omega)
  have R2 : Hid (∀ w, Calls Try.prog 34 #[.int .i64 s2, .int .i64 32] w fun e w' => e = .returned (.tuple #[.int .i64 (fitR (nr s2)).1, .int .i64 (fitR (nr s2)).2]) ∧ Ext w w') := fun w => ratio32 s2 w (by omega) (by omega)
  have B1 : Hid (HV ((w.alloc (.cells #[.int .i64 s0, .int .i64 s1, .int .i64 s2] 24)).alloc (.cells #[.int .i64 0, .int .i64 0, .int .i64 0] 24)) w.heap.size [.int .i64 s0, .int .i64 s1, .int .i64 s2]) := (hv_at rfl).alloc _
  have B2 : Hid (HV ((w.alloc (.cells #[.int .i64 s0, .int .i64 s1, .int .i64 s2] 24)).alloc (.cells #[.int .i64 0, .int .i64 0, .int .i64 0] 24)) (w.heap.size + 1) [.int .i64 0, .int .i64 0, .int .i64 0]) := hv_at (by simp)
  have HX : Hid (Ext w ((w.alloc (.cells #[.int .i64 s0, .int .i64 s1, .int .i64 s2] 24)).alloc (.cells #[.int .i64 0, .int .i64 0, .int .i64 0] 24))) := ((Ext.refl w).alloc _).alloc _
  obtain ⟨x0, e0, x1, e1, x2, e2, r, y0, y1, y2, q0, q1, q2, hr0, hv, hy⟩ := mean_form (nr s0) (nr s1) (nr s2)
  rw [hv]
  rw [q0] at R0
  rw [q1] at R1
  rw [q2] at R2
  clear q0 q1 q2 hv h0 h1 h2
  have hr : Hid (r = if e0 ≠ 0 then e0 else if e1 ≠ 0 then e1 else e2) := hr0
  clear hr0
  rcases hy with ⟨rfl, rfl, rfl, rfl⟩ | ⟨rfl, rfl, rfl, rfl⟩
  · go_enter Try.func26, Try.ntmps26
    go_wp2_with fail
    generalize ((w.alloc (.cells #[.int .i64 s0, .int .i64 s1, .int .i64 s2] 24)).alloc (.cells #[.int .i64 0, .int .i64 0, .int .i64 0] 24)) = wa at *
    refine (R0.out _).mono ?_
    rintro e w1 ⟨rfl, z1⟩
    have B1 : Hid (HV w1 w.heap.size [.int .i64 s0, .int .i64 s1, .int .i64 s2]) := B1.out.ext z1
    have B2 : Hid (HV w1 (w.heap.size + 1) [.int .i64 0, .int .i64 0, .int .i64 0]) := B2.out.ext z1
    have HX : Hid (Ext w w1) := HX.out.trans z1
    clear z1
    clear R0
    have q1 : w1.cell? ⟨w.heap.size, 1, none⟩ = some (.int .i64 s1) := B1.out.c 1 rfl
    go_wp2_with fail
    refine (R1.out _).mono ?_
    rintro e w2 ⟨rfl, z2⟩
    have B1 : Hid (HV w2 w.heap.size [.int .i64 s0, .int .i64 s1, .int .i64 s2]) := B1.out.ext z2
    have B2 : Hid (HV w2 (w.heap.size + 1) [.int .i64 0, .int .i64 0, .int .i64 0]) := B2.out.ext z2
    have HX : Hid (Ext w w2) := HX.out.trans z2
    clear z2
    clear R1
    clear q1
    have q2 : w2.cell? ⟨w.heap.size, 2, none⟩ = some (.int .i64 s2) := B1.out.c 2 rfl
    go_wp2_with fail
    refine (R2.out _).mono ?_
    rintro e w3 ⟨rfl, z3⟩
    have B1 : Hid (HV w3 w.heap.size [.int .i64 s0, .int .i64 s1, .int .i64 s2]) := B1.out.ext z3
    have B2 : Hid (HV w3 (w.heap.size + 1) [.int .i64 0, .int .i64 0, .int .i64 0]) := B2.out.ext z3
    have HX : Hid (Ext w w3) := HX.out.trans z3
    clear z3
    clear R2
    clear q2
    go_wp2_with fail
    skip
    refine (cmpOr3 e0 e1 e2 0 w3.heap.size _ (hv_at rfl) hr.out).mono ?_
    rintro e w4 ⟨rfl, z4⟩
    have B2 : Hid (HV w4 (w.heap.size + 1) [.int .i64 0, .int .i64 0, .int .i64 0]) := (B2.out.alloc _).ext z4
    have HX : Hid (Ext w w4) := (HX.out.alloc _).trans z4
    clear z4 hr B1
    obtain ⟨k0, k1, k2⟩ := B2.out.k3
    obtain ⟨f0, f1, f2⟩ := B2.out.z3
    go_wp2_with fail
    refine bodyPost_ret (v := .tuple #[.agg #[.int .i64 y0, .int .i64 y1, .int .i64 y2], .int .i64 0]) (by simp [results, Try.results26, go_sem, k0, k1, k2]) rfl ⟨rfl, ?_⟩
    exact Ext.set (Ext.set (Ext.set HX.out (Nat.le_add_right _ _) _) (Nat.le_add_right _ _) _) (Nat.le_add_right _ _) _
  · go_enter Try.func26, Try.ntmps26
    go_wp2_with fail
    generalize ((w.alloc (.cells #[.int .i64 s0, .int .i64 s1, .int .i64 s2] 24)).alloc (.cells #[.int .i64 0, .int .i64 0, .int .i64 0] 24)) = wa at *
    refine (R0.out _).mono ?_
    rintro e w1 ⟨rfl, z1⟩
    have B1 : Hid (HV w1 w.heap.size [.int .i64 s0, .int .i64 s1, .int .i64 s2]) := B1.out.ext z1
    have B2 : Hid (HV w1 (w.heap.size + 1) [.int .i64 0, .int .i64 0, .int .i64 0]) := B2.out.ext z1
    have HX : Hid (Ext w w1) := HX.out.trans z1
    clear z1
    clear R0
    have q1 : w1.cell? ⟨w.heap.size, 1, none⟩ = some (.int .i64 s1) := B1.out.c 1 rfl
    go_wp2_with fail
    refine (R1.out _).mono ?_
    rintro e w2 ⟨rfl, z2⟩
    have B1 : Hid (HV w2 w.heap.size [.int .i64 s0, .int .i64 s1, .int .i64 s2]) := B1.out.ext z2
    have B2 : Hid (HV w2 (w.heap.size + 1) [.int .i64 0, .int .i64 0, .int .i64 0]) := B2.out.ext z2
    have HX : Hid (Ext w w2) := HX.out.trans z2
    clear z2
    clear R1
    clear q1
    have q2 : w2.cell? ⟨w.heap.size, 2, none⟩ = some (.int .i64 s2) := B1.out.c 2 rfl
    go_wp2_with fail
    refine (R2.out _).mono ?_
    rintro e w3 ⟨rfl, z3⟩
    have B1 : Hid (HV w3 w.heap.size [.int .i64 s0, .int .i64 s1, .int .i64 s2]) := B1.out.ext z3
    have B2 : Hid (HV w3 (w.heap.size + 1) [.int .i64 0, .int .i64 0, .int .i64 0]) := B2.out.ext z3
    have HX : Hid (Ext w w3) := HX.out.trans z3
    clear z3
    clear R2
    clear q2
    go_wp2_with fail
    skip
    refine (cmpOr3 e0 e1 e2 2 w3.heap.size _ (hv_at rfl) hr.out).mono ?_
    rintro e w4 ⟨rfl, z4⟩
    have B2 : Hid (HV w4 (w.heap.size + 1) [.int .i64 0, .int .i64 0, .int .i64 0]) := (B2.out.alloc _).ext z4
    have HX : Hid (Ext w w4) := (HX.out.alloc _).trans z4
    clear z4 hr B1
    obtain ⟨k0, k1, k2⟩ := B2.out.k3
    obtain ⟨f0, f1, f2⟩ := B2.out.z3
    go_wp2_with fail
    refine bodyPost_ret (v := .tuple #[.agg #[.int .i64 0, .int .i64 0, .int .i64 0], .int .i64 2]) (by simp [results, Try.results26, go_sem, k0, k1, k2]) rfl ⟨rfl, ?_⟩
    exact Ext.set (Ext.set (Ext.set HX.out (Nat.le_add_right _ _) _) (Nat.le_add_right _ _) _) (Nat.le_add_right _ _) _
set_option maxRecDepth 20000 in
set_option maxHeartbeats 8000000 in
theorem with_any (s0 s1 s2 n v0 v1 v2 : Int) (w : World) (hn : 0 ≤ n ∧ n < 32) (h0 : -4503599627370496 ≤ s0 + v0 ∧ s0 + v0 ≤ 4503599627370496) (h1 : -4503599627370496 ≤ s1 + v1 ∧ s1 + v1 ≤ 4503599627370496) (h2 : -4503599627370496 ≤ s2 + v2 ∧ s2 + v2 ≤ 4503599627370496) :
    Calls Try.prog 23 #[.agg #[.int .i64 s0, .int .i64 s1, .int .i64 s2, .int .i64 n], .agg #[.int .i64 v0, .int .i64 v1, .int .i64 v2], .func (.func 24) #[] #[]] w fun e w' => e = .returned (.agg #[.int .i64 (s0 + v0), .int .i64 (s1 + v1), .int .i64 (s2 + v2), .int .i64 (n + 1)]) ∧ Ext w w' := by
  have HP : Hid (∀ w, Calls Try.prog 24 #[.agg #[.int .i64 s0, .int .i64 s1, .int .i64 s2], .agg #[.int .i64 v0, .int .i64 v1, .int .i64 v2]] w fun e w' => e = .returned (.agg #[.int .i64 (s0 + v0), .int .i64 (s1 + v1), .int .i64 (s2 + v2)]) ∧ Ext w w') := fun w => plus_any _ _ _ _ _ _ w h0 h1 h2
  have lt2 : Hid (w.heap.size ≤ w.heap.size + 2) := Nat.le_add_right _ _
  have ew : IntKind.i64.wrap (n + 1) = n + 1 := by rw [IntKind.wrap_i64]; omega
  have B1 : Hid (HV (((w.alloc (.cells #[.int .i64 s0, .int .i64 s1, .int .i64 s2, .int .i64 n] 52)).alloc (.cells #[.int .i64 v0, .int .i64 v1, .int .i64 v2] 24)).alloc (.cells #[.int .i64 0, .int .i64 0, .int .i64 0, .int .i64 0] 52)) w.heap.size [.int .i64 s0, .int .i64 s1, .int .i64 s2, .int .i64 n]) := ((hv_at rfl).alloc _).alloc _
  have B2 : Hid (HV (((w.alloc (.cells #[.int .i64 s0, .int .i64 s1, .int .i64 s2, .int .i64 n] 52)).alloc (.cells #[.int .i64 v0, .int .i64 v1, .int .i64 v2] 24)).alloc (.cells #[.int .i64 0, .int .i64 0, .int .i64 0, .int .i64 0] 52)) (w.heap.size + 1) [.int .i64 v0, .int .i64 v1, .int .i64 v2]) := (hv_at (by simp)).alloc _
  have B3 : Hid (HV (((w.alloc (.cells #[.int .i64 s0, .int .i64 s1, .int .i64 s2, .int .i64 n] 52)).alloc (.cells #[.int .i64 v0, .int .i64 v1, .int .i64 v2] 24)).alloc (.cells #[.int .i64 0, .int .i64 0, .int .i64 0, .int .i64 0] 52)) (w.heap.size + 2) [.int .i64 0, .int .i64 0, .int .i64 0, .int .i64 0]) := hv_at (by simp)
  have HX : Hid (Ext w (((w.alloc (.cells #[.int .i64 s0, .int .i64 s1, .int .i64 s2, .int .i64 n] 52)).alloc (.cells #[.int .i64 v0, .int .i64 v1, .int .i64 v2] 24)).alloc (.cells #[.int .i64 0, .int .i64 0, .int .i64 0, .int .i64 0] 52))) := (((Ext.refl w).alloc _).alloc _).alloc _
  clear h0 h1 h2 hn
  generalize s0 + v0 = t0 at *
  generalize s1 + v1 = t1 at *
  generalize s2 + v2 = t2 at *
  go_enter Try.func23, Try.ntmps23
  go_upto_region 1 with fail
  generalize (((w.alloc (.cells #[.int .i64 s0, .int .i64 s1, .int .i64 s2, .int .i64 n] 52)).alloc (.cells #[.int .i64 v0, .int .i64 v1, .int .i64 v2] 24)).alloc (.cells #[.int .i64 0, .int .i64 0, .int .i64 0, .int .i64 0] 52)) = wa at *
  obtain ⟨p0, p1, p2, p3⟩ := B1.out.k4
  obtain ⟨q0, q1, q2⟩ := B2.out.k3
  obtain ⟨z0, z1, z2, z3⟩ := B3.out.k4
  obtain ⟨f0, f1, f2, f3⟩ := B3.out.z4
  go_region_held3 (fun w' => w'.cell? ⟨w.heap.size, 0, none⟩ = some (.int .i64 s0) ∧ w'.cell? ⟨w.heap.size, 1, none⟩ = some (.int .i64 s1) ∧ w'.cell? ⟨w.heap.size, 2, none⟩ = some (.int .i64 s2) ∧ w'.cell? ⟨w.heap.size, 3, none⟩ = some (.int .i64 n) ∧ w'.cell? ⟨w.heap.size + 1, 0, none⟩ = some (.int .i64 v0) ∧ w'.cell? ⟨w.heap.size + 1, 1, none⟩ = some (.int .i64 v1) ∧ w'.cell? ⟨w.heap.size + 1, 2, none⟩ = some (.int .i64 v2)) (first | (simp [*]; done) | (refine ⟨?_, ?_, ?_, ?_, ?_, ?_, ?_⟩ <;> (rw [World.cell?_setCell_far _ _ _ _ (by dsimp only; omega), World.cell?_setCell_far _ _ _ _ (by dsimp only; omega), World.cell?_setCell_far _ _ _ _ (by dsimp only; omega), World.cell?_setCell_far _ _ _ _ (by dsimp only; omega)]; with_reducible assumption)) | skip) (first | (go_at_call 24; refine (HP.out _).mono ?_; rintro e w3 ⟨rfl, x3⟩; have Y3 : Ext wa w3 := Ext.trans (by repeat (first | with_reducible assumption | with_reducible exact Ext.refl _ | with_reducible refine Ext.drew ?_ | with_reducible refine Ext.drewN ?_ _ | with_reducible refine Ext.alloc ?_ _ | with_reducible refine Ext.set ?_ (by first | exact Nat.le_refl _ | (dsimp only; omega) | (simp; done)) _)) x3; obtain ⟨a0, a1, a2, a3⟩ := (B1.out.ext Y3).k4; obtain ⟨c0, c1, c2⟩ := (B2.out.ext Y3).k3; obtain ⟨d0, d1, d2, d3⟩ := (B3.out.ext Y3).k4; obtain ⟨g0, g1, g2, g3⟩ := (B3.out.ext Y3).z4))
  all_goals
    have X3 : Hid (Ext w w3) := HX.out.trans Y3
    go_wp2_with fail
    refine bodyPost_ret (v := .agg #[.int .i64 t0, .int .i64 t1, .int .i64 t2, .int .i64 (n + 1)]) (by simp [results, Try.results23, go_sem, d0, d1, d2, d3]) rfl ⟨rfl, ?_⟩
    exact Ext.set (Ext.set (Ext.set (Ext.set X3.out lt2.out _) lt2.out _) lt2.out _) lt2.out _

/-- how far it is -/
def okLn (b0 b1 b2 s0 s1 s2 n : Int) : Bool := opn s0 s1 s2 n && okS3 s0 s1 s2 && ok3 b0 b1 b2
def chkLn (b0 b1 b2 s0 s1 s2 n : Int) : Int := if okLn b0 b1 b2 s0 s1 s2 n then 0 else 1
theorem opn_bounds {s0 s1 s2 n : Int} (h : opn s0 s1 s2 n = true) : 0 ≤ n ∧ n < 32 := by
  unfold opn at h
  split at h
  · omega
  · simp at h; omega
theorem okLn_parts {b0 b1 b2 s0 s1 s2 n : Int} (h : okLn b0 b1 b2 s0 s1 s2 n = true) : opn s0 s1 s2 n = true ∧ ok3 b0 b1 b2 = true ∧ (0 ≤ n ∧ n < 32) ∧ (-2251799813685248 < s0 ∧ s0 < 2251799813685248) ∧ (-2251799813685248 < s1 ∧ s1 < 2251799813685248) ∧ (-2251799813685248 < s2 ∧ s2 < 2251799813685248) := by
  unfold okLn okS3 at h
  simp only [Bool.and_eq_true] at h
  exact ⟨h.1.1, h.2, opn_bounds h.1.1, okS_iff.1 h.1.2.1.1, okS_iff.1 h.1.2.1.2, okS_iff.1 h.1.2.2⟩
set_option maxRecDepth 20000 in
set_option maxHeartbeats 4000000 in
theorem lcheck_any (b0 b1 b2 s0 s1 s2 n : Int) (w : World) : Calls Try.prog 11 #[.agg #[.int .i64 b0, .int .i64 b1, .int .i64 b2, .int .i64 s0, .int .i64 s1, .int .i64 s2, .int .i64 n]] w fun e w' => e = .returned (.int .i64 (chkLn b0 b1 b2 s0 s1 s2 n)) ∧ Ext w w' := by
  have HW : Hid (∀ w, Calls Try.prog 22 #[.agg #[.int .i64 b0, .int .i64 b1, .int .i64 b2, .int .i64 s0, .int .i64 s1, .int .i64 s2, .int .i64 n]] w fun e w' => e = .returned (.agg #[.int .i64 s0, .int .i64 s1, .int .i64 s2, .int .i64 n]) ∧ Ext w w') := windowof_any b0 b1 b2 s0 s1 s2 n
  have HO : Hid (∀ w, Calls Try.prog 25 #[.agg #[.int .i64 s0, .int .i64 s1, .int .i64 s2, .int .i64 n], .int .i64 32] w fun e w' => e = .returned (.bool (opn s0 s1 s2 n)) ∧ Ext w w') := isopen_any s0 s1 s2 n
  have HS : Hid (∀ w, Calls Try.prog 27 #[.agg #[.int .i64 s0, .int .i64 s1, .int .i64 s2]] w fun e w' => e = .returned (.bool (okS3 s0 s1 s2)) ∧ Ext w w') := issum_any s0 s1 s2
  have HC : Hid (∀ w, Calls Try.prog 20 #[.agg #[.int .i64 b0, .int .i64 b1, .int .i64 b2]] w fun e w' => e = .returned (.int .i64 (chk3 b0 b1 b2)) ∧ Ext w w') := vCheck_any b0 b1 b2
  have B1 : Hid (HV (w.alloc (.cells #[.int .i64 b0, .int .i64 b1, .int .i64 b2, .int .i64 s0, .int .i64 s1, .int .i64 s2, .int .i64 n] 26)) w.heap.size [.int .i64 b0, .int .i64 b1, .int .i64 b2, .int .i64 s0, .int .i64 s1, .int .i64 s2, .int .i64 n]) := hv_at rfl
  have HX : Hid (Ext w (w.alloc (.cells #[.int .i64 b0, .int .i64 b1, .int .i64 b2, .int .i64 s0, .int .i64 s1, .int .i64 s2, .int .i64 n] 26))) := (Ext.refl w).alloc _
  have ex : Hid (chkLn b0 b1 b2 s0 s1 s2 n = if opn s0 s1 s2 n && okS3 s0 s1 s2 && ok3 b0 b1 b2 then 0 else 1) := rfl
  have ey : Hid (chk3 b0 b1 b2 = if ok3 b0 b1 b2 then 0 else 1) := rfl
  generalize chkLn b0 b1 b2 s0 s1 s2 n = R at *
  generalize chk3 b0 b1 b2 = K at *
  generalize opn s0 s1 s2 n = p1 at *
  generalize okS3 s0 s1 s2 = p2 at *
  generalize ok3 b0 b1 b2 = p3 at *
  cases p1
  · have er : R = 1 := ex.out
    subst er
    clear ex ey
    go_enter Try.func11, Try.ntmps11
    go_wp2_with fail
    generalize (w.alloc (.cells #[.int .i64 b0, .int .i64 b1, .int .i64 b2, .int .i64 s0, .int .i64 s1, .int .i64 s2, .int .i64 n] 26)) = wa at *
    refine (HW.out _).mono ?_
    rintro e w1 ⟨rfl, x1⟩
    have HX : Hid (Ext w w1) := HX.out.trans x1
    have B1 : Hid (HV w1 w.heap.size [.int .i64 b0, .int .i64 b1, .int .i64 b2, .int .i64 s0, .int .i64 s1, .int .i64 s2, .int .i64 n]) := B1.out.ext x1
    clear x1
    go_wp2_with fail
    refine (HO.out _).mono ?_
    rintro e w2 ⟨rfl, x2⟩
    have HX : Hid (Ext w w2) := HX.out.trans x2
    have B1 : Hid (HV w2 w.heap.size [.int .i64 b0, .int .i64 b1, .int .i64 b2, .int .i64 s0, .int .i64 s1, .int .i64 s2, .int .i64 n]) := B1.out.ext x2
    clear x2
    have c3 : w2.cell? ⟨w.heap.size, 3, none⟩ = some (.int .i64 s0) := B1.out.c 3 rfl
    have c4 : w2.cell? ⟨w.heap.size, 4, none⟩ = some (.int .i64 s1) := B1.out.c 4 rfl
    have c5 : w2.cell? ⟨w.heap.size, 5, none⟩ = some (.int .i64 s2) := B1.out.c 5 rfl
    go_wp2_with fail
    go_ret
    exact ⟨rfl, HX.out⟩
  · cases p2
    · have er : R = 1 := ex.out
      subst er
      clear ex ey
      go_enter Try.func11, Try.ntmps11
      go_wp2_with fail
      generalize (w.alloc (.cells #[.int .i64 b0, .int .i64 b1, .int .i64 b2, .int .i64 s0, .int .i64 s1, .int .i64 s2, .int .i64 n] 26)) = wa at *
      refine (HW.out _).mono ?_
      rintro e w1 ⟨rfl, x1⟩
      have HX : Hid (Ext w w1) := HX.out.trans x1
      have B1 : Hid (HV w1 w.heap.size [.int .i64 b0, .int .i64 b1, .int .i64 b2, .int .i64 s0, .int .i64 s1, .int .i64 s2, .int .i64 n]) := B1.out.ext x1
      clear x1
      go_wp2_with fail
      refine (HO.out _).mono ?_
      rintro e w2 ⟨rfl, x2⟩
      have HX : Hid (Ext w w2) := HX.out.trans x2
      have B1 : Hid (HV w2 w.heap.size [.int .i64 b0, .int .i64 b1, .int .i64 b2, .int .i64 s0, .int .i64 s1, .int .i64 s2, .int .i64 n]) := B1.out.ext x2
      clear x2
      have c3 : w2.cell? ⟨w.heap.size, 3, none⟩ = some (.int .i64 s0) := B1.out.c 3 rfl
      have c4 : w2.cell? ⟨w.heap.size, 4, none⟩ = some (.int .i64 s1) := B1.out.c 4 rfl
      have c5 : w2.cell? ⟨w.heap.size, 5, none⟩ = some (.int .i64 s2) := B1.out.c 5 rfl
      go_wp2_with fail
      refine (HS.out _).mono ?_
      rintro e w3 ⟨rfl, x3⟩
      have HX : Hid (Ext w w3) := HX.out.trans x3
      have B1 : Hid (HV w3 w.heap.size [.int .i64 b0, .int .i64 b1, .int .i64 b2, .int .i64 s0, .int .i64 s1, .int .i64 s2, .int .i64 n]) := B1.out.ext x3
      clear x3 c3 c4 c5
      go_wp2_with fail
      go_ret
      exact ⟨rfl, HX.out⟩
    · have er : R = K := by rw [ex.out, ey.out]; simp
      subst er
      clear ex ey
      go_enter Try.func11, Try.ntmps11
      go_wp2_with fail
      generalize (w.alloc (.cells #[.int .i64 b0, .int .i64 b1, .int .i64 b2, .int .i64 s0, .int .i64 s1, .int .i64 s2, .int .i64 n] 26)) = wa at *
      refine (HW.out _).mono ?_
      rintro e w1 ⟨rfl, x1⟩
      have HX : Hid (Ext w w1) := HX.out.trans x1
      have B1 : Hid (HV w1 w.heap.size [.int .i64 b0, .int .i64 b1, .int .i64 b2, .int .i64 s0, .int .i64 s1, .int .i64 s2, .int .i64 n]) := B1.out.ext x1
      clear x1
      go_wp2_with fail
      refine (HO.out _).mono ?_
      rintro e w2 ⟨rfl, x2⟩
      have HX : Hid (Ext w w2) := HX.out.trans x2
      have B1 : Hid (HV w2 w.heap.size [.int .i64 b0, .int .i64 b1, .int .i64 b2, .int .i64 s0, .int .i64 s1, .int .i64 s2, .int .i64 n]) := B1.out.ext x2
      clear x2
      have c3 : w2.cell? ⟨w.heap.size, 3, none⟩ = some (.int .i64 s0) := B1.out.c 3 rfl
      have c4 : w2.cell? ⟨w.heap.size, 4, none⟩ = some (.int .i64 s1) := B1.out.c 4 rfl
      have c5 : w2.cell? ⟨w.heap.size, 5, none⟩ = some (.int .i64 s2) := B1.out.c 5 rfl
      go_wp2_with fail
      refine (HS.out _).mono ?_
      rintro e w3 ⟨rfl, x3⟩
      have HX : Hid (Ext w w3) := HX.out.trans x3
      have B1 : Hid (HV w3 w.heap.size [.int .i64 b0, .int .i64 b1, .int .i64 b2, .int .i64 s0, .int .i64 s1, .int .i64 s2, .int .i64 n]) := B1.out.ext x3
      clear x3 c3 c4 c5
      obtain ⟨c0, c1, c2⟩ : w3.cell? ⟨w.heap.size, 0, none⟩ = some (.int .i64 b0) ∧ w3.cell? ⟨w.heap.size, 1, none⟩ = some (.int .i64 b1) ∧ w3.cell? ⟨w.heap.size, 2, none⟩ = some (.int .i64 b2) := ⟨B1.out.c 0 rfl, B1.out.c 1 rfl, B1.out.c 2 rfl⟩
      go_wp2_with fail
      refine (HC.out _).mono ?_
      rintro e w4 ⟨rfl, x4⟩
      have HX : Hid (Ext w w4) := HX.out.trans x4
      go_wp2_with fail
      go_ret
      exact ⟨rfl, HX.out⟩

end Go.Proofs.Ytcbelhalckehcaa
