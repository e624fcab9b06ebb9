/- fuse: the leaves of its steps. variables of three cells that are written. vec: three words, or refused. fuse: spun, isGravity, upward, northward. quat: what through tells. -/
import Derived.Test.YtmbdcgijjpcppaaGreatMg3
import Derived.Test.YtmbdcgijjpcppaaGreatMg6
import Derived.Test.YtmbdcgijjpcppaaGreatQ1m
namespace Go.Proofs.YtmbdcgijjpcppaaGreat
open Go.RowKit Go.Shelf
/-- at most one radian -/
def rad (x : Int) : Bool := decide (-1073741824 ≤ x) && decide (x ≤ 1073741824)
theorem rad_iff {x : Int} : rad x = true ↔ -1073741824 ≤ x ∧ x ≤ 1073741824 := by unfold rad; simp
/-- so many ticks -/
def tck (x : Int) : Bool := decide (0 ≤ x) && decide (x ≤ 1000)
theorem tck_iff {x : Int} : tck x = true ↔ 0 ≤ x ∧ x ≤ 1000 := by unfold tck; simp
/-- three of them -/
def rad3 (x y z : Int) : Bool := rad x && rad y && rad z
set_option maxHeartbeats 400000 in
theorem israd_any (x : Int) (w : World) : Calls Tryz.prog 90 #[.int .i64 x] w fun e w' => e = .returned (.bool (rad x)) ∧ w' = w := by
  by_cases h1 : -1073741824 ≤ x
  · by_cases h2 : x ≤ 1073741824
    · have e : Hid (rad x = true) := rad_iff.2 ⟨h1, h2⟩
      go_enter Tryz.func90, Tryz.ntmps90
      go_wp2
      go_ret
      rw [e.out]; exact ⟨rfl, rfl⟩
    · have e : Hid (rad x = false) := Bool.eq_false_iff.2 (fun h => h2 (rad_iff.1 h).2)
      go_enter Tryz.func90, Tryz.ntmps90
      go_wp2
      go_ret
      rw [e.out]; exact ⟨rfl, rfl⟩
  · have e : Hid (rad x = false) := Bool.eq_false_iff.2 (fun h => h1 (rad_iff.1 h).1)
    go_enter Tryz.func90, Tryz.ntmps90
    go_wp2
    go_ret
    rw [e.out]; exact ⟨rfl, rfl⟩
set_option maxHeartbeats 400000 in
theorem isticks_any (x : Int) (w : World) : Calls Tryz.prog 46 #[.int .i64 x] w fun e w' => e = .returned (.bool (tck x)) ∧ w' = w := by
  by_cases h1 : 0 ≤ x
  · by_cases h2 : x ≤ 1000
    · have e : Hid (tck x = true) := tck_iff.2 ⟨h1, h2⟩
      go_enter Tryz.func46, Tryz.ntmps46
      go_wp2
      go_ret
      rw [e.out]; exact ⟨rfl, rfl⟩
    · have e : Hid (tck x = false) := Bool.eq_false_iff.2 (fun h => h2 (tck_iff.1 h).2)
      go_enter Tryz.func46, Tryz.ntmps46
      go_wp2
      go_ret
      rw [e.out]; exact ⟨rfl, rfl⟩
  · have e : Hid (tck x = false) := Bool.eq_false_iff.2 (fun h => h1 (tck_iff.1 h).1)
    go_enter Tryz.func46, Tryz.ntmps46
    go_wp2
    go_ret
    rw [e.out]; exact ⟨rfl, rfl⟩
set_option maxRecDepth 20000 in
set_option maxHeartbeats 8000000 in
theorem isspin_any (x y z : Int) (w : World) : Calls Tryz.prog 48 #[.agg #[.int .i64 x, .int .i64 y, .int .i64 z]] w fun e w' => e = .returned (.bool (rad3 x y z)) ∧ Ext w w' := by
  have HX : Hid (∀ w, Calls Tryz.prog 90 #[.int .i64 x] w fun e w' => e = .returned (.bool (rad x)) ∧ w' = w) := israd_any x
  have HY : Hid (∀ w, Calls Tryz.prog 90 #[.int .i64 y] w fun e w' => e = .returned (.bool (rad y)) ∧ w' = w) := israd_any y
  have HZ : Hid (∀ w, Calls Tryz.prog 90 #[.int .i64 z] w fun e w' => e = .returned (.bool (rad z)) ∧ w' = w) := israd_any z
  have ex : Hid (rad3 x y z = (rad x && rad y && rad z)) := rfl
  generalize rad x = p1 at *
  generalize rad y = p2 at *
  generalize rad z = p3 at *
  generalize rad3 x y z = R at *
  have hx : Ext w (w.alloc (.cells #[.int .i64 x, .int .i64 y, .int .i64 z] 28)) := (Ext.refl w).alloc _
  cases p1 <;> cases p2 <;> cases p3
  all_goals
    go_enter Tryz.func48, Tryz.ntmps48
    go_wp2_with (first | (go_at_call_of 90 (Value.int IntKind.i64 x); refine (HX.out _).mono ?_; rintro e wx ⟨rfl, hwx⟩; have hwy := hwx.symm; clear hwx; subst hwy) | (go_at_call_of 90 (Value.int IntKind.i64 y); refine (HY.out _).mono ?_; rintro e wx ⟨rfl, hwx⟩; have hwy := hwx.symm; clear hwx; subst hwy) | (go_at_call_of 90 (Value.int IntKind.i64 z); refine (HZ.out _).mono ?_; rintro e wx ⟨rfl, hwx⟩; have hwy := hwx.symm; clear hwx; subst hwy))
    go_ret
    rw [ex.out]
    exact ⟨by first | rfl | simp, hx⟩
set_option maxRecDepth 20000 in
set_option maxHeartbeats 8000000 in
theorem angle_any (n x y z A B C : Int) (w : World) (eA : n * x = A) (eB : n * y = B) (eC : n * z = C) (a1 : -9223372036854775808 ≤ A) (a2 : A ≤ 9223372036854775807) (b1 : -9223372036854775808 ≤ B) (b2 : B ≤ 9223372036854775807) (c1 : -9223372036854775808 ≤ C) (c2 : C ≤ 9223372036854775807) :
    Calls Tryz.prog 47 #[.agg #[.int .i64 x, .int .i64 y, .int .i64 z], .int .i64 n] w fun e w' => e = .returned (.agg #[.int .i64 A, .int .i64 B, .int .i64 C]) ∧ Ext w w' := by
  go_enter Tryz.func47, Tryz.ntmps47
  go_wp2_with fail
  exact bodyPost_ret (v := .agg #[.int .i64 A, .int .i64 B, .int .i64 C]) (by simp [results, Tryz.results47, go_sem]) rfl ⟨rfl, by repeat (first | with_reducible assumption | with_reducible exact Ext.refl _ | with_reducible refine Ext.drew ?_ | with_reducible refine Ext.drewN ?_ _ | with_reducible refine Ext.alloc ?_ _ | with_reducible refine Ext.set ?_ (by first | exact Nat.le_refl _ | (dsimp only; omega) | (simp; done)) _)⟩
set_option maxRecDepth 20000 in
set_option maxHeartbeats 8000000 in
theorem exprod_raw (a b c d x y z nb p0 p1 p2 p3 p4 p5 p6 p7 p8 p9 p10 p11 : Int) (w : World) (hb : -b = nb) (nb1 : -1073741828 ≤ nb) (nb2 : nb ≤ 1073741828) (e0 : nb * x = p0) (e1 : c * y = p1) (e2 : d * z = p2) (e3 : a * x = p3) (e4 : c * z = p4) (e5 : d * y = p5) (e6 : a * y = p6) (e7 : b * z = p7) (e8 : d * x = p8) (e9 : a * z = p9) (e10 : b * y = p10) (e11 : c * x = p11) (l0 : -1152921508901814272 ≤ p0) (m0 : p0 ≤ 1152921508901814272) (l1 : -1152921508901814272 ≤ p1) (m1 : p1 ≤ 1152921508901814272) (l2 : -1152921508901814272 ≤ p2) (m2 : p2 ≤ 1152921508901814272) (l3 : -1152921508901814272 ≤ p3) (m3 : p3 ≤ 1152921508901814272) (l4 : -1152921508901814272 ≤ p4) (m4 : p4 ≤ 1152921508901814272) (l5 : -1152921508901814272 ≤ p5) (m5 : p5 ≤ 1152921508901814272) (l6 : -1152921508901814272 ≤ p6) (m6 : p6 ≤ 1152921508901814272) (l7 : -1152921508901814272 ≤ p7) (m7 : p7 ≤ 1152921508901814272) (l8 : -1152921508901814272 ≤ p8) (m8 : p8 ≤ 1152921508901814272) (l9 : -1152921508901814272 ≤ p9) (m9 : p9 ≤ 1152921508901814272) (l10 : -1152921508901814272 ≤ p10) (m10 : p10 ≤ 1152921508901814272) (l11 : -1152921508901814272 ≤ p11) (m11 : p11 ≤ 1152921508901814272) :
    Calls Tryz.prog 92 #[.agg #[.int .i64 a, .int .i64 b, .int .i64 c, .int .i64 d], .agg #[.int .i64 x, .int .i64 y, .int .i64 z]] w fun e w' => e = .returned (.agg #[.int .i64 (p0 - p1 - p2), .int .i64 (p3 + p4 - p5), .int .i64 (p6 - p7 + p8), .int .i64 (p9 + p10 - p11)]) ∧ Ext w w' := by
  go_enter Tryz.func92, Tryz.ntmps92
  go_wp2_with fail
  exact bodyPost_ret (v := .agg #[.int .i64 (p0 - p1 - p2), .int .i64 (p3 + p4 - p5), .int .i64 (p6 - p7 + p8), .int .i64 (p9 + p10 - p11)]) (by simp [results, Tryz.results92, go_sem]) rfl ⟨rfl, by repeat (first | with_reducible assumption | with_reducible exact Ext.refl _ | with_reducible refine Ext.drew ?_ | with_reducible refine Ext.drewN ?_ _ | with_reducible refine Ext.alloc ?_ _ | with_reducible refine Ext.set ?_ (by first | exact Nat.le_refl _ | (dsimp only; omega) | (simp; done)) _)⟩
set_option maxRecDepth 20000 in
set_option maxHeartbeats 8000000 in
theorem leaned_raw (a b c d x y z P0 P1 P2 P3 ee : Int) (w : World) (HM : Hid (∀ w', Calls Tryz.prog 99 #[.agg #[.int .i64 a, .int .i64 b, .int .i64 c, .int .i64 d], .agg #[.int .i64 1073741824, .int .i64 x, .int .i64 y, .int .i64 z]] w' fun e w'' => e = .returned (.tuple #[.agg #[.int .i64 P0, .int .i64 P1, .int .i64 P2, .int .i64 P3], .int .i64 ee]) ∧ Ext w' w'')) :
    Calls Tryz.prog 55 #[.agg #[.int .i64 a, .int .i64 b, .int .i64 c, .int .i64 d], .agg #[.int .i64 x, .int .i64 y, .int .i64 z]] w fun e w' => e = .returned (.tuple #[.agg #[.int .i64 P0, .int .i64 P1, .int .i64 P2, .int .i64 P3], .int .i64 ee]) ∧ Ext w w' := by
  have RB : Hid (H4 (((w.alloc (.cells #[.int .i64 a, .int .i64 b, .int .i64 c, .int .i64 d] 24)).alloc (.cells #[.int .i64 x, .int .i64 y, .int .i64 z] 28)).alloc (.cells #[.int .i64 0, .int .i64 0, .int .i64 0, .int .i64 0] 24)) (w.heap.size + 1 + 1) (.int .i64 0) (.int .i64 0) (.int .i64 0) (.int .i64 0)) := h4_at (by simp)
  have XB : Ext w (((w.alloc (.cells #[.int .i64 a, .int .i64 b, .int .i64 c, .int .i64 d] 24)).alloc (.cells #[.int .i64 x, .int .i64 y, .int .i64 z] 28)).alloc (.cells #[.int .i64 0, .int .i64 0, .int .i64 0, .int .i64 0] 24)) := (((Ext.refl _).alloc _).alloc _).alloc _
  go_enter Tryz.func55, Tryz.ntmps55
  go_wp2_with (go_at_call 99; refine (HM.out _).mono ?_; rintro e w1 ⟨rfl, x1⟩; obtain ⟨r0, r1, r2, r3, r4, r5, r6, r7, r8⟩ := RB.out.ext x1; have E1 : Ext w w1 := XB.trans x1; clear x1)
  exact bodyPost_ret (v := .tuple #[.agg #[.int .i64 P0, .int .i64 P1, .int .i64 P2, .int .i64 P3], .int .i64 ee]) (by simp [results, Tryz.results55, go_sem, r0, r1, r2, r3]) rfl ⟨rfl, by repeat (first | with_reducible assumption | with_reducible exact Ext.refl _ | with_reducible refine Ext.drew ?_ | with_reducible refine Ext.drewN ?_ _ | with_reducible refine Ext.alloc ?_ _ | with_reducible refine Ext.set ?_ (by first | exact Nat.le_refl _ | (dsimp only; omega) | (simp; done)) _)⟩
set_option maxRecDepth 20000 in
set_option maxHeartbeats 8000000 in
theorem swung_raw (a b c d x P0 P1 P2 P3 ee : Int) (w : World) (HM : Hid (∀ w', Calls Tryz.prog 99 #[.agg #[.int .i64 1073741824, .int .i64 0, .int .i64 0, .int .i64 x], .agg #[.int .i64 a, .int .i64 b, .int .i64 c, .int .i64 d]] w' fun e w'' => e = .returned (.tuple #[.agg #[.int .i64 P0, .int .i64 P1, .int .i64 P2, .int .i64 P3], .int .i64 ee]) ∧ Ext w' w'')) :
    Calls Tryz.prog 59 #[.agg #[.int .i64 a, .int .i64 b, .int .i64 c, .int .i64 d], .int .i64 x] w fun e w' => e = .returned (.tuple #[.agg #[.int .i64 P0, .int .i64 P1, .int .i64 P2, .int .i64 P3], .int .i64 ee]) ∧ Ext w w' := by
  have RB : Hid (H4 ((w.alloc (.cells #[.int .i64 a, .int .i64 b, .int .i64 c, .int .i64 d] 24)).alloc (.cells #[.int .i64 0, .int .i64 0, .int .i64 0, .int .i64 0] 24)) (w.heap.size + 1) (.int .i64 0) (.int .i64 0) (.int .i64 0) (.int .i64 0)) := h4_at (by simp)
  have XB : Ext w ((w.alloc (.cells #[.int .i64 a, .int .i64 b, .int .i64 c, .int .i64 d] 24)).alloc (.cells #[.int .i64 0, .int .i64 0, .int .i64 0, .int .i64 0] 24)) := ((Ext.refl _).alloc _).alloc _
  go_enter Tryz.func59, Tryz.ntmps59
  go_wp2_with (go_at_call 99; refine (HM.out _).mono ?_; rintro e w1 ⟨rfl, x1⟩; obtain ⟨r0, r1, r2, r3, r4, r5, r6, r7, r8⟩ := RB.out.ext x1; have E1 : Ext w w1 := XB.trans x1; clear x1)
  exact bodyPost_ret (v := .tuple #[.agg #[.int .i64 P0, .int .i64 P1, .int .i64 P2, .int .i64 P3], .int .i64 ee]) (by simp [results, Tryz.results59, go_sem, r0, r1, r2, r3]) rfl ⟨rfl, by repeat (first | with_reducible assumption | with_reducible exact Ext.refl _ | with_reducible refine Ext.drew ?_ | with_reducible refine Ext.drewN ?_ _ | with_reducible refine Ext.alloc ?_ _ | with_reducible refine Ext.set ?_ (by first | exact Nat.le_refl _ | (dsimp only; omega) | (simp; done)) _)⟩
set_option maxRecDepth 20000 in
set_option maxHeartbeats 8000000 in
theorem stepSpun (a b c d x y z P0 P1 P2 P3 u0 u1 u2 u3 ue : Int) (w : World) (HT : Hid (∀ w', Calls Tryz.prog 50 #[.agg #[.int .i64 a, .int .i64 b, .int .i64 c, .int .i64 d], .agg #[.int .i64 x, .int .i64 y, .int .i64 z]] w' fun e w'' => e = .returned (.tuple #[.agg #[.int .i64 P0, .int .i64 P1, .int .i64 P2, .int .i64 P3], .int .i64 0]) ∧ Ext w' w'')) (HU : Hid (∀ w', Calls Tryz.prog 61 #[.agg #[.int .i64 P0, .int .i64 P1, .int .i64 P2, .int .i64 P3]] w' fun e w'' => e = .returned (.tuple #[.agg #[.int .i64 u0, .int .i64 u1, .int .i64 u2, .int .i64 u3], .int .i64 ue]) ∧ Ext w' w'')) :
    Calls Tryz.prog 49 #[.agg #[.int .i64 a, .int .i64 b, .int .i64 c, .int .i64 d], .agg #[.int .i64 x, .int .i64 y, .int .i64 z], .func (.func 50) #[] #[]] w fun e w' => e = .returned (.tuple #[.agg #[.int .i64 u0, .int .i64 u1, .int .i64 u2, .int .i64 u3], .int .i64 ue]) ∧ Ext w w' := by
  have RB : Hid (H4 (((w.alloc (.cells #[.int .i64 a, .int .i64 b, .int .i64 c, .int .i64 d] 26)).alloc (.cells #[.int .i64 x, .int .i64 y, .int .i64 z] 28)).alloc (.cells #[.int .i64 0, .int .i64 0, .int .i64 0, .int .i64 0] 26)) (w.heap.size + 1 + 1) (.int .i64 0) (.int .i64 0) (.int .i64 0) (.int .i64 0)) := h4_at (by simp)
  have XB : Ext w (((w.alloc (.cells #[.int .i64 a, .int .i64 b, .int .i64 c, .int .i64 d] 26)).alloc (.cells #[.int .i64 x, .int .i64 y, .int .i64 z] 28)).alloc (.cells #[.int .i64 0, .int .i64 0, .int .i64 0, .int .i64 0] 26)) := (((Ext.refl _).alloc _).alloc _).alloc _
  go_enter Tryz.func49, Tryz.ntmps49
  go_wp2_with fail
  refine (HT.out _).mono ?_
  rintro e w1 ⟨rfl, x1⟩
  have RB1 : Hid (H4 w1 (w.heap.size + 1 + 1) (.int .i64 0) (.int .i64 0) (.int .i64 0) (.int .i64 0)) := RB.out.ext x1
  have E1 : Ext w w1 := XB.trans x1
  have hl := E1.lay.2.2
  have hl1 := RB1.out.2.2.2.2.2.2.2.2
  clear x1 RB XB
  go_wp2_with fail
  refine (HU.out _).mono ?_
  rintro e w2 ⟨rfl, x2⟩
  obtain ⟨r0, r1, r2, r3, r4, r5, r6, r7, r8⟩ := (RB1.out.alloc _).ext x2
  have E2 : Ext w w2 := (E1.alloc _).trans x2
  have hk : w1.heap.size < w2.heap.size := Nat.lt_of_lt_of_le (by simp) x2.lay.2.2
  obtain ⟨s0, s1, s2, s3, s4, s5, s6, s7, s8⟩ : H4 w2 w1.heap.size (.int .i64 P0) (.int .i64 P1) (.int .i64 P2) (.int .i64 P3) := (h4_at rfl).ext x2
  have ne1 : w2.heap.size ≠ w.heap.size + 1 + 1 := by omega
  have ne2 : ¬ w.heap.size + 1 + 1 = w2.heap.size := by omega
  clear x2
  go_wp2_with fail
  exact bodyPost_ret (v := .tuple #[.agg #[.int .i64 u0, .int .i64 u1, .int .i64 u2, .int .i64 u3], .int .i64 ue]) (by simp [results, Tryz.results49, go_sem, r0, r1, r2, r3, r8]) rfl ⟨rfl, by repeat (first | with_reducible assumption | with_reducible exact Ext.refl _ | with_reducible refine Ext.drew ?_ | with_reducible refine Ext.drewN ?_ _ | with_reducible refine Ext.alloc ?_ _ | with_reducible refine Ext.set ?_ (by first | exact Nat.le_refl _ | (dsimp only; omega) | (simp; done)) _)⟩
set_option maxRecDepth 20000 in
set_option maxHeartbeats 8000000 in
theorem stepLeaned (a b c d x y z P0 P1 P2 P3 u0 u1 u2 u3 ue : Int) (w : World) (HT : Hid (∀ w', Calls Tryz.prog 55 #[.agg #[.int .i64 a, .int .i64 b, .int .i64 c, .int .i64 d], .agg #[.int .i64 x, .int .i64 y, .int .i64 z]] w' fun e w'' => e = .returned (.tuple #[.agg #[.int .i64 P0, .int .i64 P1, .int .i64 P2, .int .i64 P3], .int .i64 0]) ∧ Ext w' w'')) (HU : Hid (∀ w', Calls Tryz.prog 61 #[.agg #[.int .i64 P0, .int .i64 P1, .int .i64 P2, .int .i64 P3]] w' fun e w'' => e = .returned (.tuple #[.agg #[.int .i64 u0, .int .i64 u1, .int .i64 u2, .int .i64 u3], .int .i64 ue]) ∧ Ext w' w'')) :
    Calls Tryz.prog 49 #[.agg #[.int .i64 a, .int .i64 b, .int .i64 c, .int .i64 d], .agg #[.int .i64 x, .int .i64 y, .int .i64 z], .func (.func 55) #[] #[]] w fun e w' => e = .returned (.tuple #[.agg #[.int .i64 u0, .int .i64 u1, .int .i64 u2, .int .i64 u3], .int .i64 ue]) ∧ Ext w w' := by
  have RB : Hid (H4 (((w.alloc (.cells #[.int .i64 a, .int .i64 b, .int .i64 c, .int .i64 d] 26)).alloc (.cells #[.int .i64 x, .int .i64 y, .int .i64 z] 28)).alloc (.cells #[.int .i64 0, .int .i64 0, .int .i64 0, .int .i64 0] 26)) (w.heap.size + 1 + 1) (.int .i64 0) (.int .i64 0) (.int .i64 0) (.int .i64 0)) := h4_at (by simp)
  have XB : Ext w (((w.alloc (.cells #[.int .i64 a, .int .i64 b, .int .i64 c, .int .i64 d] 26)).alloc (.cells #[.int .i64 x, .int .i64 y, .int .i64 z] 28)).alloc (.cells #[.int .i64 0, .int .i64 0, .int .i64 0, .int .i64 0] 26)) := (((Ext.refl _).alloc _).alloc _).alloc _
  go_enter Tryz.func49, Tryz.ntmps49
  go_wp2_with fail
  refine (HT.out _).mono ?_
  rintro e w1 ⟨rfl, x1⟩
  have RB1 : Hid (H4 w1 (w.heap.size + 1 + 1) (.int .i64 0) (.int .i64 0) (.int .i64 0) (.int .i64 0)) := RB.out.ext x1
  have E1 : Ext w w1 := XB.trans x1
  have hl := E1.lay.2.2
  have hl1 := RB1.out.2.2.2.2.2.2.2.2
  clear x1 RB XB
  go_wp2_with fail
  refine (HU.out _).mono ?_
  rintro e w2 ⟨rfl, x2⟩
  obtain ⟨r0, r1, r2, r3, r4, r5, r6, r7, r8⟩ := (RB1.out.alloc _).ext x2
  have E2 : Ext w w2 := (E1.alloc _).trans x2
  have hk : w1.heap.size < w2.heap.size := Nat.lt_of_lt_of_le (by simp) x2.lay.2.2
  obtain ⟨s0, s1, s2, s3, s4, s5, s6, s7, s8⟩ : H4 w2 w1.heap.size (.int .i64 P0) (.int .i64 P1) (.int .i64 P2) (.int .i64 P3) := (h4_at rfl).ext x2
  have ne1 : w2.heap.size ≠ w.heap.size + 1 + 1 := by omega
  have ne2 : ¬ w.heap.size + 1 + 1 = w2.heap.size := by omega
  clear x2
  go_wp2_with fail
  exact bodyPost_ret (v := .tuple #[.agg #[.int .i64 u0, .int .i64 u1, .int .i64 u2, .int .i64 u3], .int .i64 ue]) (by simp [results, Tryz.results49, go_sem, r0, r1, r2, r3, r8]) rfl ⟨rfl, by repeat (first | with_reducible assumption | with_reducible exact Ext.refl _ | with_reducible refine Ext.drew ?_ | with_reducible refine Ext.drewN ?_ _ | with_reducible refine Ext.alloc ?_ _ | with_reducible refine Ext.set ?_ (by first | exact Nat.le_refl _ | (dsimp only; omega) | (simp; done)) _)⟩
set_option maxRecDepth 20000 in
set_option maxHeartbeats 8000000 in
theorem stepSwung (a b c d x P0 P1 P2 P3 u0 u1 u2 u3 ue : Int) (w : World) (HT : Hid (∀ w', Calls Tryz.prog 59 #[.agg #[.int .i64 a, .int .i64 b, .int .i64 c, .int .i64 d], .int .i64 x] w' fun e w'' => e = .returned (.tuple #[.agg #[.int .i64 P0, .int .i64 P1, .int .i64 P2, .int .i64 P3], .int .i64 0]) ∧ Ext w' w'')) (HU : Hid (∀ w', Calls Tryz.prog 61 #[.agg #[.int .i64 P0, .int .i64 P1, .int .i64 P2, .int .i64 P3]] w' fun e w'' => e = .returned (.tuple #[.agg #[.int .i64 u0, .int .i64 u1, .int .i64 u2, .int .i64 u3], .int .i64 ue]) ∧ Ext w' w'')) :
    Calls Tryz.prog 58 #[.agg #[.int .i64 a, .int .i64 b, .int .i64 c, .int .i64 d], .int .i64 x, .func (.func 59) #[] #[]] w fun e w' => e = .returned (.tuple #[.agg #[.int .i64 u0, .int .i64 u1, .int .i64 u2, .int .i64 u3], .int .i64 ue]) ∧ Ext w w' := by
  have RB : Hid (H4 ((w.alloc (.cells #[.int .i64 a, .int .i64 b, .int .i64 c, .int .i64 d] 26)).alloc (.cells #[.int .i64 0, .int .i64 0, .int .i64 0, .int .i64 0] 26)) (w.heap.size + 1) (.int .i64 0) (.int .i64 0) (.int .i64 0) (.int .i64 0)) := h4_at (by simp)
  have XB : Ext w ((w.alloc (.cells #[.int .i64 a, .int .i64 b, .int .i64 c, .int .i64 d] 26)).alloc (.cells #[.int .i64 0, .int .i64 0, .int .i64 0, .int .i64 0] 26)) := ((Ext.refl _).alloc _).alloc _
  go_enter Tryz.func58, Tryz.ntmps58
  go_wp2_with fail
  refine (HT.out _).mono ?_
  rintro e w1 ⟨rfl, x1⟩
  have RB1 : Hid (H4 w1 (w.heap.size + 1) (.int .i64 0) (.int .i64 0) (.int .i64 0) (.int .i64 0)) := RB.out.ext x1
  have E1 : Ext w w1 := XB.trans x1
  have hl := E1.lay.2.2
  have hl1 := RB1.out.2.2.2.2.2.2.2.2
  clear x1 RB XB
  go_wp2_with fail
  refine (HU.out _).mono ?_
  rintro e w2 ⟨rfl, x2⟩
  obtain ⟨r0, r1, r2, r3, r4, r5, r6, r7, r8⟩ := (RB1.out.alloc _).ext x2
  have E2 : Ext w w2 := (E1.alloc _).trans x2
  have hk : w1.heap.size < w2.heap.size := Nat.lt_of_lt_of_le (by simp) x2.lay.2.2
  obtain ⟨s0, s1, s2, s3, s4, s5, s6, s7, s8⟩ : H4 w2 w1.heap.size (.int .i64 P0) (.int .i64 P1) (.int .i64 P2) (.int .i64 P3) := (h4_at rfl).ext x2
  have ne1 : w2.heap.size ≠ w.heap.size + 1 := by omega
  have ne2 : ¬ w.heap.size + 1 = w2.heap.size := by omega
  clear x2
  go_wp2_with fail
  exact bodyPost_ret (v := .tuple #[.agg #[.int .i64 u0, .int .i64 u1, .int .i64 u2, .int .i64 u3], .int .i64 ue]) (by simp [results, Tryz.results58, go_sem, r0, r1, r2, r3, r8]) rfl ⟨rfl, by repeat (first | with_reducible assumption | with_reducible exact Ext.refl _ | with_reducible refine Ext.drew ?_ | with_reducible refine Ext.drewN ?_ _ | with_reducible refine Ext.alloc ?_ _ | with_reducible refine Ext.set ?_ (by first | exact Nat.le_refl _ | (dsimp only; omega) | (simp; done)) _)⟩
end Go.Proofs.YtmbdcgijjpcppaaGreat

namespace Go.Proofs.YtmbdcgijjpcppaaGreat
open Go.RowKit Go.Shelf
theorem H3.farA {w : World} {b g o : Nat} {u v x y : Value} (h : H3 w b u v x) (hb : b ≠ g) : H3 (w.setCell ⟨g, o, none⟩ y) b u v x := by
  obtain ⟨h0, h1, h2, f0, f1, f2, hz⟩ := h
  have k : ∀ i, (w.setCell ⟨g, o, none⟩ y).cell? ⟨b, i, none⟩ = w.cell? ⟨b, i, none⟩ := fun i => World.cell?_setCell_other _ _ _ _ (by intro e; have := congrArg Addr.block e; dsimp only at this; omega)
  refine ⟨by rw [k]; exact h0, by rw [k]; exact h1, by rw [k]; exact h2, ?_, ?_, ?_, ?_⟩ <;> simp [go_sem, f0, f1, f2, hz]

theorem H3.set0 {w : World} {b : Nat} {u v x : Value} (h : H3 w b u v x) (u' : Value) : H3 (w.setCell ⟨b, 0, none⟩ u') b u' v x := by
  obtain ⟨h0, h1, h2, f0, f1, f2, hb⟩ := h
  refine ⟨?_, ?_, ?_, ?_, ?_, ?_, ?_⟩ <;> simp [go_sem, h0, h1, h2, f0, f1, f2, hb]
theorem H3.set1 {w : World} {b : Nat} {u v x : Value} (h : H3 w b u v x) (v' : Value) : H3 (w.setCell ⟨b, 1, none⟩ v') b u v' x := by
  obtain ⟨h0, h1, h2, f0, f1, f2, hb⟩ := h
  refine ⟨?_, ?_, ?_, ?_, ?_, ?_, ?_⟩ <;> simp [go_sem, h0, h1, h2, f0, f1, f2, hb]
theorem H3.set2 {w : World} {b : Nat} {u v x : Value} (h : H3 w b u v x) (x' : Value) : H3 (w.setCell ⟨b, 2, none⟩ x') b u v x' := by
  obtain ⟨h0, h1, h2, f0, f1, f2, hb⟩ := h
  refine ⟨?_, ?_, ?_, ?_, ?_, ?_, ?_⟩ <;> simp [go_sem, h0, h1, h2, f0, f1, f2, hb]
/-- three answers, one behind the other: all of it fails, if one does -/
def thr (r0 e0 r1 e1 r2 e2 : Int) : Value :=
  if e0 = 0 then if e1 = 0 then if e2 = 0 then .tuple #[.agg #[.int .i64 r0, .int .i64 r1, .int .i64 r2], .int .i64 0] else .tuple #[.agg #[.int .i64 0, .int .i64 0, .int .i64 0], .int .i64 e2] else .tuple #[.agg #[.int .i64 0, .int .i64 0, .int .i64 0], .int .i64 e1] else .tuple #[.agg #[.int .i64 0, .int .i64 0, .int .i64 0], .int .i64 e0]
end Go.Proofs.YtmbdcgijjpcppaaGreat

namespace Go.Proofs.YtmbdcgijjpcppaaGreat
open Go.RowKit Go.Shelf
def vres (s0 s1 s2 : Int) : Value := if ok3 s0 s1 s2 then .tuple #[.agg #[.int .i64 s0, .int .i64 s1, .int .i64 s2], .int .i64 0] else .tuple #[.agg #[.int .i64 0, .int .i64 0, .int .i64 0], .int .i64 2]
def vbad : Value := .tuple #[.agg #[.int .i64 0, .int .i64 0, .int .i64 0], .int .i64 1]
theorem fit_yes' {s : Int} (h : okW s = true) : fitR s = (s, 0) := by unfold fitR; rw [if_pos h]
theorem fit_no' {s : Int} (h : okW s = false) : fitR s = (0, 2) := by unfold fitR; rw [h]; rfl
theorem thr_fit (s0 s1 s2 : Int) : thr (fitR s0).1 (fitR s0).2 (fitR s1).1 (fitR s1).2 (fitR s2).1 (fitR s2).2 = vres s0 s1 s2 := by
  unfold vres ok3 thr
  cases h0 : okW s0
  · rw [fit_no' h0]; rfl
  · rw [fit_yes' h0]
    cases h1 : okW s1
    · rw [fit_no' h1]; rfl
    · rw [fit_yes' h1]
      cases h2 : okW s2
      · rw [fit_no' h2]; rfl
      · rw [fit_yes' h2]; rfl
theorem vres_shape (s0 s1 s2 : Int) : ∃ x y z e : Int, vres s0 s1 s2 = .tuple #[.agg #[.int .i64 x, .int .i64 y, .int .i64 z], .int .i64 e] := by
  unfold vres; split <;> exact ⟨_, _, _, _, rfl⟩
theorem ok3_parts {a b c : Int} (h : ok3 a b c = true) : okW a = true ∧ okW b = true ∧ okW c = true := by
  unfold ok3 at h; simp only [Bool.and_eq_true] at h; exact ⟨h.1, h.2.1, h.2.2⟩

end Go.Proofs.YtmbdcgijjpcppaaGreat

namespace Go.Proofs.YtmbdcgijjpcppaaGreat
open Go.RowKit Go.Shelf
set_option maxRecDepth 20000 in
set_option maxHeartbeats 8000000 in
theorem spun_raw (a b c d x y z p0 p1 p2 p3 r0 r1 r2 r3 t0 t1 t2 t3 : Int) (w : World) (HN : Hid (∀ w', Calls Tryz.prog 91 #[.agg #[.int .i64 a, .int .i64 b, .int .i64 c, .int .i64 d]] w' fun e w'' => e = .returned (.agg #[.int .i64 a, .int .i64 b, .int .i64 c, .int .i64 d]) ∧ Ext w' w'')) (HE : Hid (∀ w', Calls Tryz.prog 92 #[.agg #[.int .i64 a, .int .i64 b, .int .i64 c, .int .i64 d], .agg #[.int .i64 x, .int .i64 y, .int .i64 z]] w' fun e w'' => e = .returned (.agg #[.int .i64 p0, .int .i64 p1, .int .i64 p2, .int .i64 p3]) ∧ Ext w' w'')) (HR0 : Hid (∀ w', Calls Tryz.prog 93 #[.int .i64 p0, .int .i64 2147483648] w' fun e w'' => e = .returned (.tuple #[.int .i64 r0, .int .i64 0]) ∧ Ext w' w'')) (HR1 : Hid (∀ w', Calls Tryz.prog 93 #[.int .i64 p1, .int .i64 2147483648] w' fun e w'' => e = .returned (.tuple #[.int .i64 r1, .int .i64 0]) ∧ Ext w' w'')) (HR2 : Hid (∀ w', Calls Tryz.prog 93 #[.int .i64 p2, .int .i64 2147483648] w' fun e w'' => e = .returned (.tuple #[.int .i64 r2, .int .i64 0]) ∧ Ext w' w'')) (HR3 : Hid (∀ w', Calls Tryz.prog 93 #[.int .i64 p3, .int .i64 2147483648] w' fun e w'' => e = .returned (.tuple #[.int .i64 r3, .int .i64 0]) ∧ Ext w' w'')) (s0 : a + r0 = t0) (l0 : -9223372036854775808 ≤ t0) (m0 : t0 ≤ 9223372036854775807) (s1 : b + r1 = t1) (l1 : -9223372036854775808 ≤ t1) (m1 : t1 ≤ 9223372036854775807) (s2 : c + r2 = t2) (l2 : -9223372036854775808 ≤ t2) (m2 : t2 ≤ 9223372036854775807) (s3 : d + r3 = t3) (l3 : -9223372036854775808 ≤ t3) (m3 : t3 ≤ 9223372036854775807) :
    Calls Tryz.prog 50 #[.agg #[.int .i64 a, .int .i64 b, .int .i64 c, .int .i64 d], .agg #[.int .i64 x, .int .i64 y, .int .i64 z]] w fun e w' => e = .returned (.tuple #[.agg #[.int .i64 t0, .int .i64 t1, .int .i64 t2, .int .i64 t3], .int .i64 0]) ∧ Ext w w' := by
  have RB : Hid (HV (((w.alloc (.cells #[.int .i64 a, .int .i64 b, .int .i64 c, .int .i64 d] 24)).alloc (.cells #[.int .i64 x, .int .i64 y, .int .i64 z] 28)).alloc (.cells #[.int .i64 0, .int .i64 0, .int .i64 0, .int .i64 0] 24)) (w.heap.size + 1 + 1) [.int .i64 0, .int .i64 0, .int .i64 0, .int .i64 0]) := hv_at (by simp)
  have QB : Hid (HV (((w.alloc (.cells #[.int .i64 a, .int .i64 b, .int .i64 c, .int .i64 d] 24)).alloc (.cells #[.int .i64 x, .int .i64 y, .int .i64 z] 28)).alloc (.cells #[.int .i64 0, .int .i64 0, .int .i64 0, .int .i64 0] 24)) w.heap.size [.int .i64 a, .int .i64 b, .int .i64 c, .int .i64 d]) := HV.alloc (HV.alloc (hv_at rfl) _) _
  have VB : Hid (HV (((w.alloc (.cells #[.int .i64 a, .int .i64 b, .int .i64 c, .int .i64 d] 24)).alloc (.cells #[.int .i64 x, .int .i64 y, .int .i64 z] 28)).alloc (.cells #[.int .i64 0, .int .i64 0, .int .i64 0, .int .i64 0] 24)) (w.heap.size + 1) [.int .i64 x, .int .i64 y, .int .i64 z]) := HV.alloc (hv_at (by simp)) _
  have XB : Ext w (((w.alloc (.cells #[.int .i64 a, .int .i64 b, .int .i64 c, .int .i64 d] 24)).alloc (.cells #[.int .i64 x, .int .i64 y, .int .i64 z] 28)).alloc (.cells #[.int .i64 0, .int .i64 0, .int .i64 0, .int .i64 0] 24)) := (((Ext.refl _).alloc _).alloc _).alloc _
  obtain ⟨i0, i1, i2, i3⟩ := ix4 124 rfl p0 p1 p2 p3
  go_enter Tryz.func50, Tryz.ntmps50
  go_wp2_with fail
  refine (HN.out _).mono ?_
  rintro e w1 ⟨rfl, x1⟩
  have N1 : Hid (HV (w1.alloc (.cells #[.int .i64 a, .int .i64 b, .int .i64 c, .int .i64 d] 124)) w1.heap.size [.int .i64 a, .int .i64 b, .int .i64 c, .int .i64 d]) := hv_at rfl
  have RB1 : Hid (HV (w1.alloc (.cells #[.int .i64 a, .int .i64 b, .int .i64 c, .int .i64 d] 124)) (w.heap.size + 1 + 1) [.int .i64 0, .int .i64 0, .int .i64 0, .int .i64 0]) := (RB.out.ext x1).alloc _
  have QB1 : Hid (HV w1 w.heap.size [.int .i64 a, .int .i64 b, .int .i64 c, .int .i64 d]) := QB.out.ext x1
  have VB1 : Hid (HV w1 (w.heap.size + 1) [.int .i64 x, .int .i64 y, .int .i64 z]) := VB.out.ext x1
  have X1 : Ext w (w1.alloc (.cells #[.int .i64 a, .int .i64 b, .int .i64 c, .int .i64 d] 124)) := (XB.trans x1).alloc _
  have hlt : w.heap.size + 1 + 1 < w1.heap.size := (RB.out.ext x1).1
  have hle : w.heap.size ≤ w1.heap.size := by omega
  have ne : w.heap.size + 1 + 1 ≠ w1.heap.size := by omega
  obtain ⟨b0, b1, b2, b3⟩ := QB1.out.k4
  obtain ⟨v0, v1, v2⟩ := VB1.out.k3
  have bl := QB1.out.1
  have vl := VB1.out.1
  clear x1 RB QB VB XB
  go_wp2_with fail
  refine (HE.out _).mono ?_
  rintro e w2 ⟨rfl, x2⟩
  have N2 : Hid (HV w2 w1.heap.size [.int .i64 a, .int .i64 b, .int .i64 c, .int .i64 d]) := N1.out.ext x2
  have RB2 : Hid (HV w2 (w.heap.size + 1 + 1) [.int .i64 0, .int .i64 0, .int .i64 0, .int .i64 0]) := RB1.out.ext x2
  have X2 : Ext w w2 := X1.trans x2
  clear x2 N1 RB1 QB1 VB1 X1 b0 b1 b2 b3 v0 v1 v2 bl vl
  generalize w1.heap.size = g at *
  go_wp2_with fail
  refine wp_loop_rounds 6 ?_
  generalize hwk : w2 = k0 at *
  clear hwk
  rw [rounds_succ]
  go_wp2_with (go_at_call 93; refine (HR0.out _).mono ?_; rintro e q0 ⟨rfl, y0⟩; obtain ⟨n0, n1, n2, n3⟩ := (N2.out.ext y0).k4; obtain ⟨f0, f1, f2, f3⟩ := (N2.out.ext y0).z4; have nl := (N2.out.ext y0).1)
  have N1k : Hid (HV (q0.setCell ⟨g, 0, none⟩ (.int .i64 t0)) g [.int .i64 t0, .int .i64 b, .int .i64 c, .int .i64 d]) := (N2.out.ext y0).set 0 _
  have RB1k : Hid (HV (q0.setCell ⟨g, 0, none⟩ (.int .i64 t0)) (w.heap.size + 1 + 1) [.int .i64 0, .int .i64 0, .int .i64 0, .int .i64 0]) := (RB2.out.ext y0).far ne
  have X1k : Ext w (q0.setCell ⟨g, 0, none⟩ (.int .i64 t0)) := Ext.set (X2.trans y0) hle _
  clear n0 n1 n2 n3 f0 f1 f2 f3 nl y0 N2 RB2 X2
  generalize q0.setCell ⟨g, 0, none⟩ (.int .i64 t0) = k1 at *
  rw [rounds_succ]
  go_wp2_with (go_at_call 93; refine (HR1.out _).mono ?_; rintro e q1 ⟨rfl, y1⟩; obtain ⟨n0, n1, n2, n3⟩ := (N1k.out.ext y1).k4; obtain ⟨f0, f1, f2, f3⟩ := (N1k.out.ext y1).z4; have nl := (N1k.out.ext y1).1)
  have N2k : Hid (HV (q1.setCell ⟨g, 1, none⟩ (.int .i64 t1)) g [.int .i64 t0, .int .i64 t1, .int .i64 c, .int .i64 d]) := (N1k.out.ext y1).set 1 _
  have RB2k : Hid (HV (q1.setCell ⟨g, 1, none⟩ (.int .i64 t1)) (w.heap.size + 1 + 1) [.int .i64 0, .int .i64 0, .int .i64 0, .int .i64 0]) := (RB1k.out.ext y1).far ne
  have X2k : Ext w (q1.setCell ⟨g, 1, none⟩ (.int .i64 t1)) := Ext.set (X1k.trans y1) hle _
  clear n0 n1 n2 n3 f0 f1 f2 f3 nl y1 N1k RB1k X1k
  generalize q1.setCell ⟨g, 1, none⟩ (.int .i64 t1) = k2 at *
  rw [rounds_succ]
  go_wp2_with (go_at_call 93; refine (HR2.out _).mono ?_; rintro e q2 ⟨rfl, y2⟩; obtain ⟨n0, n1, n2, n3⟩ := (N2k.out.ext y2).k4; obtain ⟨f0, f1, f2, f3⟩ := (N2k.out.ext y2).z4; have nl := (N2k.out.ext y2).1)
  have N3k : Hid (HV (q2.setCell ⟨g, 2, none⟩ (.int .i64 t2)) g [.int .i64 t0, .int .i64 t1, .int .i64 t2, .int .i64 d]) := (N2k.out.ext y2).set 2 _
  have RB3k : Hid (HV (q2.setCell ⟨g, 2, none⟩ (.int .i64 t2)) (w.heap.size + 1 + 1) [.int .i64 0, .int .i64 0, .int .i64 0, .int .i64 0]) := (RB2k.out.ext y2).far ne
  have X3k : Ext w (q2.setCell ⟨g, 2, none⟩ (.int .i64 t2)) := Ext.set (X2k.trans y2) hle _
  clear n0 n1 n2 n3 f0 f1 f2 f3 nl y2 N2k RB2k X2k
  generalize q2.setCell ⟨g, 2, none⟩ (.int .i64 t2) = k3 at *
  rw [rounds_succ]
  go_wp2_with (go_at_call 93; refine (HR3.out _).mono ?_; rintro e q3 ⟨rfl, y3⟩; obtain ⟨n0, n1, n2, n3⟩ := (N3k.out.ext y3).k4; obtain ⟨f0, f1, f2, f3⟩ := (N3k.out.ext y3).z4; have nl := (N3k.out.ext y3).1)
  have N4k : Hid (HV (q3.setCell ⟨g, 3, none⟩ (.int .i64 t3)) g [.int .i64 t0, .int .i64 t1, .int .i64 t2, .int .i64 t3]) := (N3k.out.ext y3).set 3 _
  have RB4k : Hid (HV (q3.setCell ⟨g, 3, none⟩ (.int .i64 t3)) (w.heap.size + 1 + 1) [.int .i64 0, .int .i64 0, .int .i64 0, .int .i64 0]) := (RB3k.out.ext y3).far ne
  have X4k : Ext w (q3.setCell ⟨g, 3, none⟩ (.int .i64 t3)) := Ext.set (X3k.trans y3) hle _
  clear n0 n1 n2 n3 f0 f1 f2 f3 nl y3 N3k RB3k X3k
  generalize q3.setCell ⟨g, 3, none⟩ (.int .i64 t3) = k4 at *
  obtain ⟨n0, n1, n2, n3⟩ := N4k.out.k4
  obtain ⟨r0, r1, r2, r3⟩ := RB4k.out.k4
  obtain ⟨z0, z1, z2, z3⟩ := RB4k.out.z4
  have nl := N4k.out.1
  have rl := RB4k.out.1
  rw [rounds_succ]
  go_wp2_with fail
  exact bodyPost_ret (v := .tuple #[.agg #[.int .i64 t0, .int .i64 t1, .int .i64 t2, .int .i64 t3], .int .i64 0]) (by simp [results, Tryz.results50, go_sem, r0, r1, r2, r3]) rfl ⟨rfl, by repeat (first | with_reducible assumption | with_reducible exact Ext.refl _ | with_reducible refine Ext.drew ?_ | with_reducible refine Ext.drewN ?_ _ | with_reducible refine Ext.alloc ?_ _ | with_reducible refine Ext.set ?_ (by first | exact Nat.le_refl _ | (dsimp only; omega) | (simp; done)) _)⟩
/-- near gravity's length -/
def gat (n : Int) : Bool := decide (8580819 ≤ n) && decide (n ≤ 11032481)
theorem gat_iff {n : Int} : gat n = true ↔ 8580819 ≤ n ∧ n ≤ 11032481 := by unfold gat; simp
set_option maxRecDepth 20000 in
set_option maxHeartbeats 8000000 in
theorem grav_bad (x y z n : Int) (w : World) (HN : Hid (∀ w', Calls Tryz.prog 94 #[.agg #[.int .i64 x, .int .i64 y, .int .i64 z]] w' fun e w'' => e = .returned (.tuple #[.int .i64 n, .int .i64 2]) ∧ Ext w' w'')) :
    Calls Tryz.prog 53 #[.agg #[.int .i64 x, .int .i64 y, .int .i64 z]] w fun e w' => e = .returned (.bool false) ∧ Ext w w' := by
  go_enter Tryz.func53, Tryz.ntmps53
  go_wp2_with (go_at_call 94; refine (HN.out _).mono ?_; rintro e w1 ⟨rfl, x1⟩)
  go_ret
  exact ⟨by first | rfl | (simp; omega), Ext.trans ((Ext.refl w).alloc _) x1⟩
set_option maxRecDepth 20000 in
set_option maxHeartbeats 8000000 in
theorem grav_low (x y z n : Int) (w : World) (HN : Hid (∀ w', Calls Tryz.prog 94 #[.agg #[.int .i64 x, .int .i64 y, .int .i64 z]] w' fun e w'' => e = .returned (.tuple #[.int .i64 n, .int .i64 0]) ∧ Ext w' w'')) (h : n < 8580819) :
    Calls Tryz.prog 53 #[.agg #[.int .i64 x, .int .i64 y, .int .i64 z]] w fun e w' => e = .returned (.bool false) ∧ Ext w w' := by
  go_enter Tryz.func53, Tryz.ntmps53
  go_wp2_with (go_at_call 94; refine (HN.out _).mono ?_; rintro e w1 ⟨rfl, x1⟩)
  go_ret
  exact ⟨by first | rfl | (simp; omega), Ext.trans ((Ext.refl w).alloc _) x1⟩
set_option maxRecDepth 20000 in
set_option maxHeartbeats 8000000 in
theorem grav_high (x y z n : Int) (w : World) (HN : Hid (∀ w', Calls Tryz.prog 94 #[.agg #[.int .i64 x, .int .i64 y, .int .i64 z]] w' fun e w'' => e = .returned (.tuple #[.int .i64 n, .int .i64 0]) ∧ Ext w' w'')) (h0 : 8580819 ≤ n) (h : 11032481 < n) :
    Calls Tryz.prog 53 #[.agg #[.int .i64 x, .int .i64 y, .int .i64 z]] w fun e w' => e = .returned (.bool false) ∧ Ext w w' := by
  go_enter Tryz.func53, Tryz.ntmps53
  go_wp2_with (go_at_call 94; refine (HN.out _).mono ?_; rintro e w1 ⟨rfl, x1⟩)
  go_ret
  exact ⟨by first | rfl | (simp; omega), Ext.trans ((Ext.refl w).alloc _) x1⟩
set_option maxRecDepth 20000 in
set_option maxHeartbeats 8000000 in
theorem grav_ok (x y z n : Int) (w : World) (HN : Hid (∀ w', Calls Tryz.prog 94 #[.agg #[.int .i64 x, .int .i64 y, .int .i64 z]] w' fun e w'' => e = .returned (.tuple #[.int .i64 n, .int .i64 0]) ∧ Ext w' w'')) (h0 : 8580819 ≤ n) (h : n ≤ 11032481) :
    Calls Tryz.prog 53 #[.agg #[.int .i64 x, .int .i64 y, .int .i64 z]] w fun e w' => e = .returned (.bool true) ∧ Ext w w' := by
  go_enter Tryz.func53, Tryz.ntmps53
  go_wp2_with (go_at_call 94; refine (HN.out _).mono ?_; rintro e w1 ⟨rfl, x1⟩)
  go_ret
  exact ⟨by first | rfl | (simp; omega), Ext.trans ((Ext.refl w).alloc _) x1⟩
theorem grav_any (x y z n : Int) (w : World) (HN : Hid (∀ w', Calls Tryz.prog 94 #[.agg #[.int .i64 x, .int .i64 y, .int .i64 z]] w' fun e w'' => e = .returned (.tuple #[.int .i64 (fitR n).1, .int .i64 (fitR n).2]) ∧ Ext w' w'')) :
    Calls Tryz.prog 53 #[.agg #[.int .i64 x, .int .i64 y, .int .i64 z]] w fun e w' => e = .returned (.bool (gat n)) ∧ Ext w w' := by
  cases hk : okW n
  · have e : gat n = false := Bool.eq_false_iff.2 (fun h => by
      have := gat_iff.1 h
      unfold okW at hk; simp at hk; omega)
    rw [fit_no' hk] at HN
    rw [e]; exact grav_bad x y z _ w HN
  · rw [fit_yes' hk] at HN
    by_cases h1 : n < 8580819
    · have e : gat n = false := Bool.eq_false_iff.2 (fun h => by have := gat_iff.1 h; omega)
      rw [e]; exact grav_low x y z n w HN h1
    · by_cases h2 : 11032481 < n
      · have e : gat n = false := Bool.eq_false_iff.2 (fun h => by have := gat_iff.1 h; omega)
        rw [e]; exact grav_high x y z n w HN (by omega) h2
      · have e : gat n = true := gat_iff.2 ⟨by omega, by omega⟩
        rw [e]; exact grav_ok x y z n w HN (by omega) (by omega)
set_option maxRecDepth 20000 in
set_option maxHeartbeats 8000000 in
theorem upward_raw (a b c d x y z s0 s1 s2 m0 m1 m2 o0 o1 o2 c0 c1 c2 : Int) (w : World) (HB : Hid (∀ w', Calls Tryz.prog 95 #[.agg #[.int .i64 a, .int .i64 b, .int .i64 c, .int .i64 d], .agg #[.int .i64 0, .int .i64 0, .int .i64 1073741824]] w' fun e w'' => e = .returned (.tuple #[.agg #[.int .i64 s0, .int .i64 s1, .int .i64 s2], .int .i64 0]) ∧ Ext w' w'')) (HU : Hid (∀ w', Calls Tryz.prog 96 #[.agg #[.int .i64 x, .int .i64 y, .int .i64 z]] w' fun e w'' => e = .returned (.tuple #[.agg #[.int .i64 m0, .int .i64 m1, .int .i64 m2], .int .i64 0]) ∧ Ext w' w'')) (HC : Hid (∀ w', Calls Tryz.prog 97 #[.agg #[.int .i64 m0, .int .i64 m1, .int .i64 m2], .agg #[.int .i64 s0, .int .i64 s1, .int .i64 s2]] w' fun e w'' => e = .returned (.tuple #[.agg #[.int .i64 o0, .int .i64 o1, .int .i64 o2], .int .i64 0]) ∧ Ext w' w'')) (HS : Hid (∀ w', Calls Tryz.prog 98 #[.agg #[.int .i64 o0, .int .i64 o1, .int .i64 o2], .int .i64 8388608] w' fun e w'' => e = .returned (.tuple #[.agg #[.int .i64 c0, .int .i64 c1, .int .i64 c2], .int .i64 0]) ∧ Ext w' w'')) :
    Calls Tryz.prog 54 #[.agg #[.int .i64 a, .int .i64 b, .int .i64 c, .int .i64 d], .agg #[.int .i64 x, .int .i64 y, .int .i64 z]] w fun e w' => e = .returned (.tuple #[.agg #[.int .i64 c0, .int .i64 c1, .int .i64 c2], .int .i64 0]) ∧ Ext w w' := by
  have RB : Hid (HV (((w.alloc (.cells #[.int .i64 a, .int .i64 b, .int .i64 c, .int .i64 d] 24)).alloc (.cells #[.int .i64 x, .int .i64 y, .int .i64 z] 28)).alloc (.cells #[.int .i64 0, .int .i64 0, .int .i64 0] 28)) (w.heap.size + 1 + 1) [.int .i64 0, .int .i64 0, .int .i64 0]) := hv_at (by simp)
  have VB : Hid (HV (((w.alloc (.cells #[.int .i64 a, .int .i64 b, .int .i64 c, .int .i64 d] 24)).alloc (.cells #[.int .i64 x, .int .i64 y, .int .i64 z] 28)).alloc (.cells #[.int .i64 0, .int .i64 0, .int .i64 0] 28)) (w.heap.size + 1) [.int .i64 x, .int .i64 y, .int .i64 z]) := HV.alloc (hv_at (by simp)) _
  have XB : Ext w (((w.alloc (.cells #[.int .i64 a, .int .i64 b, .int .i64 c, .int .i64 d] 24)).alloc (.cells #[.int .i64 x, .int .i64 y, .int .i64 z] 28)).alloc (.cells #[.int .i64 0, .int .i64 0, .int .i64 0] 28)) := (((Ext.refl _).alloc _).alloc _).alloc _
  go_enter Tryz.func54, Tryz.ntmps54
  go_wp2_with fail
  refine (HB.out _).mono ?_
  rintro e w1 ⟨rfl, x1⟩
  have S1 : Hid (HV (w1.alloc (.cells #[.int .i64 s0, .int .i64 s1, .int .i64 s2] 28)) w1.heap.size [.int .i64 s0, .int .i64 s1, .int .i64 s2]) := hv_at rfl
  have RB1 : Hid (HV (w1.alloc (.cells #[.int .i64 s0, .int .i64 s1, .int .i64 s2] 28)) (w.heap.size + 1 + 1) [.int .i64 0, .int .i64 0, .int .i64 0]) := (RB.out.ext x1).alloc _
  obtain ⟨v0, v1, v2⟩ := (VB.out.ext x1).k3
  have vl := (VB.out.ext x1).1
  have X1 : Ext w (w1.alloc (.cells #[.int .i64 s0, .int .i64 s1, .int .i64 s2] 28)) := (XB.trans x1).alloc _
  clear x1 RB VB XB
  go_wp2_with fail
  refine (HU.out _).mono ?_
  rintro e w2 ⟨rfl, x2⟩
  generalize hg1 : w1.heap.size = g1 at *
  have M2 : Hid (HV (w2.alloc (.cells #[.int .i64 m0, .int .i64 m1, .int .i64 m2] 28)) w2.heap.size [.int .i64 m0, .int .i64 m1, .int .i64 m2]) := hv_at rfl
  obtain ⟨s3, s4, s5⟩ := (S1.out.ext x2).k3
  have sl := (S1.out.ext x2).1
  have RB2 : Hid (HV (w2.alloc (.cells #[.int .i64 m0, .int .i64 m1, .int .i64 m2] 28)) (w.heap.size + 1 + 1) [.int .i64 0, .int .i64 0, .int .i64 0]) := (RB1.out.ext x2).alloc _
  have X2 : Ext w (w2.alloc (.cells #[.int .i64 m0, .int .i64 m1, .int .i64 m2] 28)) := (X1.trans x2).alloc _
  clear x2 S1 RB1 X1 v0 v1 v2 vl
  go_wp2_with fail
  refine (HC.out _).mono ?_
  rintro e w3 ⟨rfl, x3⟩
  have RB3 : Hid (HV (w3.alloc (.cells #[.int .i64 o0, .int .i64 o1, .int .i64 o2] 28)) (w.heap.size + 1 + 1) [.int .i64 0, .int .i64 0, .int .i64 0]) := (RB2.out.ext x3).alloc _
  have X3 : Ext w (w3.alloc (.cells #[.int .i64 o0, .int .i64 o1, .int .i64 o2] 28)) := (X2.trans x3).alloc _
  clear x3 M2 RB2 X2 s3 s4 s5 sl
  go_wp2_with fail
  refine (HS.out _).mono ?_
  rintro e w4 ⟨rfl, x4⟩
  obtain ⟨r0, r1, r2⟩ := (RB3.out.ext x4).k3
  obtain ⟨z0, z1, z2⟩ := (RB3.out.ext x4).z3
  have rl := (RB3.out.ext x4).1
  have X4 : Ext w w4 := X3.trans x4
  clear x4 RB3 X3
  go_wp2_with fail
  exact bodyPost_ret (v := .tuple #[.agg #[.int .i64 c0, .int .i64 c1, .int .i64 c2], .int .i64 0]) (by simp [results, Tryz.results54, go_sem, r0, r1, r2]) rfl ⟨rfl, by repeat (first | with_reducible assumption | with_reducible exact Ext.refl _ | with_reducible refine Ext.drew ?_ | with_reducible refine Ext.drewN ?_ _ | with_reducible refine Ext.alloc ?_ _ | with_reducible refine Ext.set ?_ (by first | exact Nat.le_refl _ | (dsimp only; omega) | (simp; done)) _)⟩
set_option maxRecDepth 20000 in
set_option maxHeartbeats 8000000 in
theorem northward_raw (x y z s0 s1 s2 c : Int) (w : World) (HU : Hid (∀ w', Calls Tryz.prog 96 #[.agg #[.int .i64 x, .int .i64 y, .int .i64 z]] w' fun e w'' => e = .returned (.tuple #[.agg #[.int .i64 s0, .int .i64 s1, .int .i64 s2], .int .i64 0]) ∧ Ext w' w'')) (HM : Hid (∀ w', Calls Tryz.prog 102 #[.int .i64 s0, .int .i64 8388608] w' fun e w'' => e = .returned (.tuple #[.int .i64 c, .int .i64 0]) ∧ Ext w' w'')) :
    Calls Tryz.prog 57 #[.agg #[.int .i64 x, .int .i64 y, .int .i64 z]] w fun e w' => e = .returned (.tuple #[.int .i64 c, .int .i64 0]) ∧ Ext w w' := by
  have XB : Ext w (w.alloc (.cells #[.int .i64 x, .int .i64 y, .int .i64 z] 28)) := (Ext.refl _).alloc _
  go_enter Tryz.func57, Tryz.ntmps57
  go_wp2_with fail
  refine (HU.out _).mono ?_
  rintro e w1 ⟨rfl, x1⟩
  have X1 : Ext w (w1.alloc (.cells #[.int .i64 s0, .int .i64 s1, .int .i64 s2] 28)) := (XB.trans x1).alloc _
  clear x1 XB
  go_wp2_with fail
  refine (HM.out _).mono ?_
  rintro e w2 ⟨rfl, x2⟩
  have X2 : Ext w w2 := X1.trans x2
  clear x2 X1
  go_wp2_with fail
  go_ret2
  exact ⟨rfl, X2⟩
end Go.Proofs.YtmbdcgijjpcppaaGreat

namespace Go.Proofs.YtmbdcgijjpcppaaGreat
open Go.RowKit Go.Shelf
/-- four answers, one behind the other: all of it fails, if one does -/
def thr4 (r0 e0 r1 e1 r2 e2 r3 e3 : Int) : Value :=
  if e0 = 0 then if e1 = 0 then if e2 = 0 then if e3 = 0 then .tuple #[.agg #[.int .i64 r0, .int .i64 r1, .int .i64 r2, .int .i64 r3], .int .i64 0] else .tuple #[.agg #[.int .i64 0, .int .i64 0, .int .i64 0, .int .i64 0], .int .i64 e3] else .tuple #[.agg #[.int .i64 0, .int .i64 0, .int .i64 0, .int .i64 0], .int .i64 e2] else .tuple #[.agg #[.int .i64 0, .int .i64 0, .int .i64 0, .int .i64 0], .int .i64 e1] else .tuple #[.agg #[.int .i64 0, .int .i64 0, .int .i64 0, .int .i64 0], .int .i64 e0]
/-- four numbers as words, or refused -/
def qres (s0 s1 s2 s3 : Int) : Value := if ok4 s0 s1 s2 s3 then .tuple #[.agg #[.int .i64 s0, .int .i64 s1, .int .i64 s2, .int .i64 s3], .int .i64 0] else .tuple #[.agg #[.int .i64 0, .int .i64 0, .int .i64 0, .int .i64 0], .int .i64 2]
theorem fit4_yes {s : Int} (h : okW s = true) : fitR s = (s, 0) := by unfold fitR; rw [if_pos h]
theorem fit4_no {s : Int} (h : okW s = false) : fitR s = (0, 2) := by unfold fitR; rw [h]; rfl
theorem thr4_fit (s0 s1 s2 s3 : Int) : thr4 (fitR s0).1 (fitR s0).2 (fitR s1).1 (fitR s1).2 (fitR s2).1 (fitR s2).2 (fitR s3).1 (fitR s3).2 = qres s0 s1 s2 s3 := by
  unfold thr4 qres ok4
  cases h0 : okW s0
  · rw [fit4_no h0]; rfl
  · rw [fit4_yes h0]
    cases h1 : okW s1
    · rw [fit4_no h1]; rfl
    · rw [fit4_yes h1]
      cases h2 : okW s2
      · rw [fit4_no h2]; rfl
      · rw [fit4_yes h2]
        cases h3 : okW s3
        · rw [fit4_no h3]; rfl
        · rw [fit4_yes h3]; rfl
theorem qres_shape (s0 s1 s2 s3 : Int) : ∃ x y z t e : Int, qres s0 s1 s2 s3 = .tuple #[.agg #[.int .i64 x, .int .i64 y, .int .i64 z, .int .i64 t], .int .i64 e] := by
  unfold qres; split
  · exact ⟨_, _, _, _, _, rfl⟩
  · exact ⟨_, _, _, _, _, rfl⟩
end Go.Proofs.YtmbdcgijjpcppaaGreat
