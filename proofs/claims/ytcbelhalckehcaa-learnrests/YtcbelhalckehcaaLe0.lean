/- learn: its leaves. -/
import Derived.Test.YtcbelhalckehcaaV2b
import Derived.Test.YtcbelhalckehcaaV6d
import Derived.Test.YtcbelhalckehcaaQ1b
import Derived.Test.YtcbelhalckehcaaHv
import Derived.Deep.RegionHeld3
namespace Go.Proofs.Ytcbelhalckehcaa
open Go.RowKit Go.Shelf
theorem wrap_le (n : Int) (h1 : -9223372036854775808 ≤ n) (h2 : n ≤ 9223372036854775807) : wrap64 n = n := by unfold wrap64; omega
/-- a number that a sum may have -/
def okS (x : Int) : Bool := decide (-2251799813685248 < x) && decide (x < 2251799813685248)
theorem okS_iff {x : Int} : okS x = true ↔ -2251799813685248 < x ∧ x < 2251799813685248 := by unfold okS; simp
/-- within the gate -/
def gte (x : Int) : Bool := decide (-1048576 ≤ x) && decide (x ≤ 1048576)
theorem gte_iff {x : Int} : gte x = true ↔ -1048576 ≤ x ∧ x ≤ 1048576 := by unfold gte; simp
set_option maxHeartbeats 400000 in
theorem below_any (x : Int) (w : World) : Calls Try.prog 36 #[.int .i64 x] w fun e w' => e = .returned (.bool (okS x)) ∧ w' = w := by
  by_cases h1 : -2251799813685248 < x
  · by_cases h2 : x < 2251799813685248
    · have e : Hid (okS x = true) := okS_iff.2 ⟨h1, h2⟩
      go_enter Try.func36, Try.ntmps36
      go_wp2
      go_ret
      rw [e.out]; exact ⟨rfl, rfl⟩
    · have e : Hid (okS x = false) := Bool.eq_false_iff.2 (fun h => h2 (okS_iff.1 h).2)
      go_enter Try.func36, Try.ntmps36
      go_wp2
      go_ret
      rw [e.out]; exact ⟨rfl, rfl⟩
  · have e : Hid (okS x = false) := Bool.eq_false_iff.2 (fun h => h1 (okS_iff.1 h).1)
    go_enter Try.func36, Try.ntmps36
    go_wp2
    go_ret
    rw [e.out]; exact ⟨rfl, rfl⟩
set_option maxHeartbeats 400000 in
theorem gate_any (x : Int) (w : World) : Calls Try.prog 33 #[.int .i64 x] w fun e w' => e = .returned (.bool (gte x)) ∧ w' = w := by
  by_cases h1 : -1048576 ≤ x
  · by_cases h2 : x ≤ 1048576
    · have e : Hid (gte x = true) := gte_iff.2 ⟨h1, h2⟩
      go_enter Try.func33, Try.ntmps33
      go_wp2
      go_ret
      rw [e.out]; exact ⟨rfl, rfl⟩
    · have e : Hid (gte x = false) := Bool.eq_false_iff.2 (fun h => h2 (gte_iff.1 h).2)
      go_enter Try.func33, Try.ntmps33
      go_wp2
      go_ret
      rw [e.out]; exact ⟨rfl, rfl⟩
  · have e : Hid (gte x = false) := Bool.eq_false_iff.2 (fun h => h1 (gte_iff.1 h).1)
    go_enter Try.func33, Try.ntmps33
    go_wp2
    go_ret
    rw [e.out]; exact ⟨rfl, rfl⟩
/-- three of them -/
def okS3 (x y z : Int) : Bool := okS x && okS y && okS z
set_option maxRecDepth 20000 in
set_option maxHeartbeats 4000000 in
theorem issum_any (x y z : Int) (w : World) : Calls Try.prog 27 #[.agg #[.int .i64 x, .int .i64 y, .int .i64 z]] w fun e w' => e = .returned (.bool (okS3 x y z)) ∧ Ext w w' := by
  have HX : Hid (∀ w, Calls Try.prog 36 #[.int .i64 x] w fun e w' => e = .returned (.bool (okS x)) ∧ w' = w) := below_any x
  have HY : Hid (∀ w, Calls Try.prog 36 #[.int .i64 y] w fun e w' => e = .returned (.bool (okS y)) ∧ w' = w) := below_any y
  have HZ : Hid (∀ w, Calls Try.prog 36 #[.int .i64 z] w fun e w' => e = .returned (.bool (okS z)) ∧ w' = w) := below_any z
  have ex : Hid (okS3 x y z = (okS x && okS y && okS z)) := rfl
  generalize okS x = p1 at *
  generalize okS y = p2 at *
  generalize okS z = p3 at *
  generalize okS3 x y z = R at *
  have hx : Ext w (w.alloc (.cells #[.int .i64 x, .int .i64 y, .int .i64 z] 24)) := (Ext.refl w).alloc _
  cases p1 <;> cases p2 <;> cases p3
  all_goals
    go_enter Try.func27, Try.ntmps27
    go_wp2_with (first | (go_at_call_of 36 (Value.int IntKind.i64 x); refine (HX.out _).mono ?_; rintro e wx ⟨rfl, hwx⟩; have hwy := hwx.symm; clear hwx; subst hwy) | (go_at_call_of 36 (Value.int IntKind.i64 y); refine (HY.out _).mono ?_; rintro e wx ⟨rfl, hwx⟩; have hwy := hwx.symm; clear hwx; subst hwy) | (go_at_call_of 36 (Value.int IntKind.i64 z); refine (HZ.out _).mono ?_; rintro e wx ⟨rfl, hwx⟩; have hwy := hwx.symm; clear hwx; subst hwy))
    go_ret
    rw [ex.out]
    exact ⟨by first | rfl | simp, hx⟩
set_option maxRecDepth 20000 in
set_option maxHeartbeats 4000000 in
theorem plus_any (a0 a1 a2 b0 b1 b2 : Int) (w : World) (h0 : -4503599627370496 ≤ a0 + b0 ∧ a0 + b0 ≤ 4503599627370496) (h1 : -4503599627370496 ≤ a1 + b1 ∧ a1 + b1 ≤ 4503599627370496) (h2 : -4503599627370496 ≤ a2 + b2 ∧ a2 + b2 ≤ 4503599627370496) :
    Calls Try.prog 24 #[.agg #[.int .i64 a0, .int .i64 a1, .int .i64 a2], .agg #[.int .i64 b0, .int .i64 b1, .int .i64 b2]] w fun e w' => e = .returned (.agg #[.int .i64 (a0 + b0), .int .i64 (a1 + b1), .int .i64 (a2 + b2)]) ∧ Ext w w' := by
  obtain ⟨h01, h02⟩ := h0
  obtain ⟨h11, h12⟩ := h1
  obtain ⟨h21, h22⟩ := h2
  go_enter Try.func24, Try.ntmps24
  go_wp2_with fail
  exact bodyPost_ret (v := .agg #[.int .i64 (a0 + b0), .int .i64 (a1 + b1), .int .i64 (a2 + b2)]) (by simp [results, Try.results24, go_sem]) rfl ⟨rfl, by repeat (first | with_reducible assumption | with_reducible exact Ext.refl _ | with_reducible refine Ext.drew ?_ | with_reducible refine Ext.drewN ?_ _ | with_reducible refine Ext.alloc ?_ _ | with_reducible refine Ext.set ?_ (by first | exact Nat.le_refl _ | (dsimp only; omega) | (simp; done)) _)⟩
/-- near a bias -/
def ngh (v0 v1 v2 b0 b1 b2 : Int) : Bool := gte (v0 - b0) && gte (v1 - b1) && gte (v2 - b2)
set_option maxRecDepth 20000 in
set_option maxHeartbeats 4000000 in
theorem isnear_any (v0 v1 v2 b0 b1 b2 : Int) (w : World) (hv : ok3 v0 v1 v2 = true) (hb : ok3 b0 b1 b2 = true) :
    Calls Try.prog 21 #[.agg #[.int .i64 v0, .int .i64 v1, .int .i64 v2], .agg #[.int .i64 b0, .int .i64 b1, .int .i64 b2]] w fun e w' => e = .returned (.bool (ngh v0 v1 v2 b0 b1 b2)) ∧ Ext w w' := by
  obtain ⟨k0, k1, k2⟩ := ok3_parts hv
  obtain ⟨l0, l1, l2⟩ := ok3_parts hb
  have g0 := okW_bounds k0
  have g1 := okW_bounds k1
  have g2 := okW_bounds k2
  have m0 := okW_bounds l0
  have m1 := okW_bounds l1
  have m2 := okW_bounds l2
  obtain ⟨d0, e0, f0⟩ : ∃ d0, wrap64 (v0 - b0) = d0 ∧ Hid (d0 = v0 - b0) := ⟨_, wrap_le _ (by omega) (by omega), rfl⟩
  obtain ⟨d1, e1, f1⟩ : ∃ d1, wrap64 (v1 - b1) = d1 ∧ Hid (d1 = v1 - b1) := ⟨_, wrap_le _ (by omega) (by omega), rfl⟩
  obtain ⟨d2, e2, f2⟩ : ∃ d2, wrap64 (v2 - b2) = d2 ∧ Hid (d2 = v2 - b2) := ⟨_, wrap_le _ (by omega) (by omega), rfl⟩
  have HX : Hid (∀ w, Calls Try.prog 33 #[.int .i64 d0] w fun e w' => e = .returned (.bool (gte d0)) ∧ w' = w) := gate_any d0
  have HY : Hid (∀ w, Calls Try.prog 33 #[.int .i64 d1] w fun e w' => e = .returned (.bool (gte d1)) ∧ w' = w) := gate_any d1
  have HZ : Hid (∀ w, Calls Try.prog 33 #[.int .i64 d2] w fun e w' => e = .returned (.bool (gte d2)) ∧ w' = w) := gate_any d2
  have ex : Hid (ngh v0 v1 v2 b0 b1 b2 = (gte d0 && gte d1 && gte d2)) := by
    show _ = _
    rw [f0.out, f1.out, f2.out]; rfl
  clear g0 g1 g2 m0 m1 m2 f0 f1 f2 hv hb k0 k1 k2 l0 l1 l2
  generalize gte d0 = p1 at *
  generalize gte d1 = p2 at *
  generalize gte d2 = p3 at *
  generalize ngh v0 v1 v2 b0 b1 b2 = R at *
  cases p1 <;> cases p2 <;> cases p3
  all_goals
    go_enter Try.func21, Try.ntmps21
    go_wp2_with (first | (go_at_call_of 33 (Value.int IntKind.i64 d0); refine (HX.out _).mono ?_; rintro e wx ⟨rfl, hwx⟩; have hwy := hwx.symm; clear hwx; subst hwy) | (go_at_call_of 33 (Value.int IntKind.i64 d1); refine (HY.out _).mono ?_; rintro e wx ⟨rfl, hwx⟩; have hwy := hwx.symm; clear hwx; subst hwy) | (go_at_call_of 33 (Value.int IntKind.i64 d2); refine (HZ.out _).mono ?_; rintro e wx ⟨rfl, hwx⟩; have hwy := hwx.symm; clear hwx; subst hwy))
    go_ret
    rw [ex.out]
    exact ⟨by first | rfl | simp, by repeat (first | with_reducible assumption | with_reducible exact Ext.refl _ | with_reducible refine Ext.drew ?_ | with_reducible refine Ext.drewN ?_ _ | with_reducible refine Ext.alloc ?_ _ | with_reducible refine Ext.set ?_ (by first | exact Nat.le_refl _ | (dsimp only; omega) | (simp; done)) _)⟩
set_option maxRecDepth 20000 in
set_option maxHeartbeats 1000000 in
theorem windowof_any (b0 b1 b2 s0 s1 s2 n : Int) (w : World) :
    Calls Try.prog 22 #[.agg #[.int .i64 b0, .int .i64 b1, .int .i64 b2, .int .i64 s0, .int .i64 s1, .int .i64 s2, .int .i64 n]] w fun e w' => e = .returned (.agg #[.int .i64 s0, .int .i64 s1, .int .i64 s2, .int .i64 n]) ∧ Ext w w' := by
  go_enter Try.func22, Try.ntmps22
  go_wp2_with fail
  exact bodyPost_ret (v := .agg #[.int .i64 s0, .int .i64 s1, .int .i64 s2, .int .i64 n]) (by simp [results, Try.results22, go_sem]) rfl ⟨rfl, by repeat (first | with_reducible assumption | with_reducible exact Ext.refl _ | with_reducible refine Ext.drew ?_ | with_reducible refine Ext.drewN ?_ _ | with_reducible refine Ext.alloc ?_ _ | with_reducible refine Ext.set ?_ (by first | exact Nat.le_refl _ | (dsimp only; omega) | (simp; done)) _)⟩
/-- a window that is open, of 32 -/
def opn (s0 s1 s2 n : Int) : Bool := if n = 0 then decide (s0 = 0 ∧ s1 = 0 ∧ s2 = 0) else decide (0 < n ∧ n < 32)
set_option maxRecDepth 20000 in
set_option maxHeartbeats 1000000 in
theorem isopen_any (s0 s1 s2 n : Int) (w : World) :
    Calls Try.prog 25 #[.agg #[.int .i64 s0, .int .i64 s1, .int .i64 s2, .int .i64 n], .int .i64 32] w fun e w' => e = .returned (.bool (opn s0 s1 s2 n)) ∧ Ext w w' := by
  by_cases hn : n = 0
  · subst hn
    have ex : Hid (opn s0 s1 s2 0 = decide (s0 = 0 ∧ s1 = 0 ∧ s2 = 0)) := rfl
    generalize opn s0 s1 s2 0 = R at *
    go_enter Try.func25, Try.ntmps25
    go_wp2_with fail
    all_goals
      go_ret
      exact ⟨by rw [ex.out]; simp [*], by repeat (first | with_reducible assumption | with_reducible exact Ext.refl _ | with_reducible refine Ext.drew ?_ | with_reducible refine Ext.drewN ?_ _ | with_reducible refine Ext.alloc ?_ _ | with_reducible refine Ext.set ?_ (by first | exact Nat.le_refl _ | (dsimp only; omega) | (simp; done)) _)⟩
  · have ex : Hid (opn s0 s1 s2 n = decide (0 < n ∧ n < 32)) := if_neg hn
    generalize opn s0 s1 s2 n = R at *
    by_cases hp : 0 < n
    · by_cases hq : n < 32
      · have er : R = true := by rw [ex.out]; simp [hp, hq]
        subst er
        clear ex
        go_enter Try.func25, Try.ntmps25
        go_wp2_with fail
        go_ret
        exact ⟨rfl, by repeat (first | with_reducible assumption | with_reducible exact Ext.refl _ | with_reducible refine Ext.drew ?_ | with_reducible refine Ext.drewN ?_ _ | with_reducible refine Ext.alloc ?_ _ | with_reducible refine Ext.set ?_ (by first | exact Nat.le_refl _ | (dsimp only; omega) | (simp; done)) _)⟩
      · have er : R = false := by rw [ex.out]; simp [hq]
        subst er
        clear ex
        go_enter Try.func25, Try.ntmps25
        go_wp2_with fail
        go_ret
        exact ⟨rfl, by repeat (first | with_reducible assumption | with_reducible exact Ext.refl _ | with_reducible refine Ext.drew ?_ | with_reducible refine Ext.drewN ?_ _ | with_reducible refine Ext.alloc ?_ _ | with_reducible refine Ext.set ?_ (by first | exact Nat.le_refl _ | (dsimp only; omega) | (simp; done)) _)⟩
    · have er : R = false := by rw [ex.out]; simp [hp]
      subst er
      clear ex
      go_enter Try.func25, Try.ntmps25
      go_wp2_with fail
      go_ret
      exact ⟨rfl, by repeat (first | with_reducible assumption | with_reducible exact Ext.refl _ | with_reducible refine Ext.drew ?_ | with_reducible refine Ext.drewN ?_ _ | with_reducible refine Ext.alloc ?_ _ | with_reducible refine Ext.set ?_ (by first | exact Nat.le_refl _ | (dsimp only; omega) | (simp; done)) _)⟩
end Go.Proofs.Ytcbelhalckehcaa
