/- What the statements of layer 15 share. -/
import Derived.Test.YtmbdcgijjpcppaaGreatMg33
import Derived.Deep.RegionHeld3
import Derived.Deep.DeepCutAuto
namespace Go.Proofs.YtmbdcgijjpcppaaGreat
open Go.RowKit Go.Shelf
set_option maxHeartbeats 400000 in
theorem num15_any (v : Int) (w : World) :
    Calls Tryz.prog 13 #[.int .i64 v] w fun e w' => e = .returned (.int .i64 v) ∧ w' = w := by
  go_enter Tryz.func13, Tryz.ntmps13
  go_wp2
  go_ret
  exact ⟨rfl, rfl⟩
/-- a number brought to from -m to m -/
def brt (m v : Int) : Int := v % 18446744073709551616 % (2 * m + 1) - m
theorem brt_bounds (m v : Int) (h : 0 ≤ m) : -m ≤ brt m v ∧ brt m v ≤ m := by
  have h1 := Int.emod_nonneg (v % 18446744073709551616) (show 2 * m + 1 ≠ 0 by omega)
  have h2 := Int.emod_lt_of_pos (v % 18446744073709551616) (show 0 < 2 * m + 1 by omega)
  unfold brt
  omega


set_option maxHeartbeats 1000000 in
theorem brought_1073741824 (v : Int) (w : World) :
    Calls Tryz.prog 60 #[.int .i64 v, .int .i64 1073741824] w fun e w' => e = .returned (.int .i64 (brt 1073741824 v)) ∧ w' = w := by
  have hb := brt_bounds 1073741824 v (by omega)
  have hd : Hid (brt 1073741824 v = v % 18446744073709551616 % 2147483649 - 1073741824) := rfl
  obtain ⟨X, hX, hX0, hX1⟩ : ∃ X : Int, IntKind.u64.wrap v = X ∧ 0 ≤ X ∧ X ≤ 18446744073709551615 := ⟨_, rfl, by rw [IntKind.wrap_u64]; omega, by rw [IntKind.wrap_u64]; omega⟩
  have hE : Hid (X % 2147483649 - 1073741824 = brt 1073741824 v) := by
    show _ = _
    rw [hd.out, ← hX, IntKind.wrap_u64]
  have h1 : 0 ≤ X % 2147483649 := by omega
  have h2 : X % 2147483649 ≤ 2147483648 := by omega
  clear hd hb
  go_enter Tryz.func60, Tryz.ntmps60
  go_wp2_with fail
  go_ret
  exact ⟨ret_int hE.out, rfl⟩

set_option maxHeartbeats 4000000 in
theorem brvec_1073741824 (a0 a1 a2 : Int) (w : World) :
    Calls Tryz.prog 22 #[.agg #[.int .i64 a0, .int .i64 a1, .int .i64 a2], .int .i64 1073741824] w fun e w' => e = .returned (.agg #[.int .i64 (brt 1073741824 a0), .int .i64 (brt 1073741824 a1), .int .i64 (brt 1073741824 a2)]) ∧ Ext w w' := by
  have B0 : Hid (∀ w', Calls Tryz.prog 60 #[.int .i64 a0, .int .i64 1073741824] w' fun e w'' => e = .returned (.int .i64 (brt 1073741824 a0)) ∧ w'' = w') := fun w' => brought_1073741824 a0 w'
  have B1 : Hid (∀ w', Calls Tryz.prog 60 #[.int .i64 a1, .int .i64 1073741824] w' fun e w'' => e = .returned (.int .i64 (brt 1073741824 a1)) ∧ w'' = w') := fun w' => brought_1073741824 a1 w'
  have B2 : Hid (∀ w', Calls Tryz.prog 60 #[.int .i64 a2, .int .i64 1073741824] w' fun e w'' => e = .returned (.int .i64 (brt 1073741824 a2)) ∧ w'' = w') := fun w' => brought_1073741824 a2 w'
  generalize brt 1073741824 a0 = r0 at *
  generalize brt 1073741824 a1 = r1 at *
  generalize brt 1073741824 a2 = r2 at *
  have ne1 : w.heap.size ≠ w.heap.size + 1 := by omega
  have H0 : H3 ((w.alloc (.cells #[.int .i64 a0, .int .i64 a1, .int .i64 a2] 28)).alloc (.cells #[.int .i64 0, .int .i64 0, .int .i64 0] 28)).drew w.heap.size (.int .i64 a0) (.int .i64 a1) (.int .i64 a2) := H3.drew (H3.alloc (h3_at rfl) _)
  obtain ⟨p0, p1, p2, p3, p4, p5, p6⟩ := H0
  go_enter Tryz.func22, Tryz.ntmps22
  go_wp2_with fail
  go_region_held (fun w' => w'.cell? ⟨w.heap.size, 0, none⟩ = some (.int .i64 a0) ∧ w'.cell? ⟨w.heap.size, 1, none⟩ = some (.int .i64 a1) ∧ w'.cell? ⟨w.heap.size, 2, none⟩ = some (.int .i64 a2)) (first | (go_keep; done) | (simp [go_sem]; done)) (first | (go_at_call_of 60 (Value.int IntKind.i64 a0); refine (B0.out _).mono ?_; rintro e wx ⟨rfl, hwx⟩; have hwy := hwx.symm; clear hwx; subst hwy) | (go_at_call_of 60 (Value.int IntKind.i64 a1); refine (B1.out _).mono ?_; rintro e wx ⟨rfl, hwx⟩; have hwy := hwx.symm; clear hwx; subst hwy) | (go_at_call_of 60 (Value.int IntKind.i64 a2); refine (B2.out _).mono ?_; rintro e wx ⟨rfl, hwx⟩; have hwy := hwx.symm; clear hwx; subst hwy))
  all_goals
    go_wp2_with fail
    exact bodyPost_ret (v := .agg #[.int .i64 r0, .int .i64 r1, .int .i64 r2]) (by simp [results, Tryz.results22, go_sem]) rfl ⟨rfl, by repeat (first | with_reducible assumption | with_reducible exact Ext.refl _ | with_reducible refine Ext.drew ?_ | with_reducible refine Ext.drewN ?_ _ | with_reducible refine Ext.alloc ?_ _ | with_reducible refine Ext.set ?_ (by first | exact Nat.le_refl _ | (dsimp only; omega) | (simp; done)) _)⟩


set_option maxHeartbeats 1000000 in
theorem brought_1048576 (v : Int) (w : World) :
    Calls Tryz.prog 60 #[.int .i64 v, .int .i64 1048576] w fun e w' => e = .returned (.int .i64 (brt 1048576 v)) ∧ w' = w := by
  have hb := brt_bounds 1048576 v (by omega)
  have hd : Hid (brt 1048576 v = v % 18446744073709551616 % 2097153 - 1048576) := rfl
  obtain ⟨X, hX, hX0, hX1⟩ : ∃ X : Int, IntKind.u64.wrap v = X ∧ 0 ≤ X ∧ X ≤ 18446744073709551615 := ⟨_, rfl, by rw [IntKind.wrap_u64]; omega, by rw [IntKind.wrap_u64]; omega⟩
  have hE : Hid (X % 2097153 - 1048576 = brt 1048576 v) := by
    show _ = _
    rw [hd.out, ← hX, IntKind.wrap_u64]
  have h1 : 0 ≤ X % 2097153 := by omega
  have h2 : X % 2097153 ≤ 2097152 := by omega
  clear hd hb
  go_enter Tryz.func60, Tryz.ntmps60
  go_wp2_with fail
  go_ret
  exact ⟨ret_int hE.out, rfl⟩

set_option maxHeartbeats 4000000 in
theorem brvec_1048576 (a0 a1 a2 : Int) (w : World) :
    Calls Tryz.prog 22 #[.agg #[.int .i64 a0, .int .i64 a1, .int .i64 a2], .int .i64 1048576] w fun e w' => e = .returned (.agg #[.int .i64 (brt 1048576 a0), .int .i64 (brt 1048576 a1), .int .i64 (brt 1048576 a2)]) ∧ Ext w w' := by
  have B0 : Hid (∀ w', Calls Tryz.prog 60 #[.int .i64 a0, .int .i64 1048576] w' fun e w'' => e = .returned (.int .i64 (brt 1048576 a0)) ∧ w'' = w') := fun w' => brought_1048576 a0 w'
  have B1 : Hid (∀ w', Calls Tryz.prog 60 #[.int .i64 a1, .int .i64 1048576] w' fun e w'' => e = .returned (.int .i64 (brt 1048576 a1)) ∧ w'' = w') := fun w' => brought_1048576 a1 w'
  have B2 : Hid (∀ w', Calls Tryz.prog 60 #[.int .i64 a2, .int .i64 1048576] w' fun e w'' => e = .returned (.int .i64 (brt 1048576 a2)) ∧ w'' = w') := fun w' => brought_1048576 a2 w'
  generalize brt 1048576 a0 = r0 at *
  generalize brt 1048576 a1 = r1 at *
  generalize brt 1048576 a2 = r2 at *
  have ne1 : w.heap.size ≠ w.heap.size + 1 := by omega
  have H0 : H3 ((w.alloc (.cells #[.int .i64 a0, .int .i64 a1, .int .i64 a2] 28)).alloc (.cells #[.int .i64 0, .int .i64 0, .int .i64 0] 28)).drew w.heap.size (.int .i64 a0) (.int .i64 a1) (.int .i64 a2) := H3.drew (H3.alloc (h3_at rfl) _)
  obtain ⟨p0, p1, p2, p3, p4, p5, p6⟩ := H0
  go_enter Tryz.func22, Tryz.ntmps22
  go_wp2_with fail
  go_region_held (fun w' => w'.cell? ⟨w.heap.size, 0, none⟩ = some (.int .i64 a0) ∧ w'.cell? ⟨w.heap.size, 1, none⟩ = some (.int .i64 a1) ∧ w'.cell? ⟨w.heap.size, 2, none⟩ = some (.int .i64 a2)) (first | (go_keep; done) | (simp [go_sem]; done)) (first | (go_at_call_of 60 (Value.int IntKind.i64 a0); refine (B0.out _).mono ?_; rintro e wx ⟨rfl, hwx⟩; have hwy := hwx.symm; clear hwx; subst hwy) | (go_at_call_of 60 (Value.int IntKind.i64 a1); refine (B1.out _).mono ?_; rintro e wx ⟨rfl, hwx⟩; have hwy := hwx.symm; clear hwx; subst hwy) | (go_at_call_of 60 (Value.int IntKind.i64 a2); refine (B2.out _).mono ?_; rintro e wx ⟨rfl, hwx⟩; have hwy := hwx.symm; clear hwx; subst hwy))
  all_goals
    go_wp2_with fail
    exact bodyPost_ret (v := .agg #[.int .i64 r0, .int .i64 r1, .int .i64 r2]) (by simp [results, Tryz.results22, go_sem]) rfl ⟨rfl, by repeat (first | with_reducible assumption | with_reducible exact Ext.refl _ | with_reducible refine Ext.drew ?_ | with_reducible refine Ext.drewN ?_ _ | with_reducible refine Ext.alloc ?_ _ | with_reducible refine Ext.set ?_ (by first | exact Nat.le_refl _ | (dsimp only; omega) | (simp; done)) _)⟩


set_option maxHeartbeats 1000000 in
theorem brought_19613300 (v : Int) (w : World) :
    Calls Tryz.prog 60 #[.int .i64 v, .int .i64 19613300] w fun e w' => e = .returned (.int .i64 (brt 19613300 v)) ∧ w' = w := by
  have hb := brt_bounds 19613300 v (by omega)
  have hd : Hid (brt 19613300 v = v % 18446744073709551616 % 39226601 - 19613300) := rfl
  obtain ⟨X, hX, hX0, hX1⟩ : ∃ X : Int, IntKind.u64.wrap v = X ∧ 0 ≤ X ∧ X ≤ 18446744073709551615 := ⟨_, rfl, by rw [IntKind.wrap_u64]; omega, by rw [IntKind.wrap_u64]; omega⟩
  have hE : Hid (X % 39226601 - 19613300 = brt 19613300 v) := by
    show _ = _
    rw [hd.out, ← hX, IntKind.wrap_u64]
  have h1 : 0 ≤ X % 39226601 := by omega
  have h2 : X % 39226601 ≤ 39226600 := by omega
  clear hd hb
  go_enter Tryz.func60, Tryz.ntmps60
  go_wp2_with fail
  go_ret
  exact ⟨ret_int hE.out, rfl⟩

set_option maxHeartbeats 4000000 in
theorem brvec_19613300 (a0 a1 a2 : Int) (w : World) :
    Calls Tryz.prog 22 #[.agg #[.int .i64 a0, .int .i64 a1, .int .i64 a2], .int .i64 19613300] w fun e w' => e = .returned (.agg #[.int .i64 (brt 19613300 a0), .int .i64 (brt 19613300 a1), .int .i64 (brt 19613300 a2)]) ∧ Ext w w' := by
  have B0 : Hid (∀ w', Calls Tryz.prog 60 #[.int .i64 a0, .int .i64 19613300] w' fun e w'' => e = .returned (.int .i64 (brt 19613300 a0)) ∧ w'' = w') := fun w' => brought_19613300 a0 w'
  have B1 : Hid (∀ w', Calls Tryz.prog 60 #[.int .i64 a1, .int .i64 19613300] w' fun e w'' => e = .returned (.int .i64 (brt 19613300 a1)) ∧ w'' = w') := fun w' => brought_19613300 a1 w'
  have B2 : Hid (∀ w', Calls Tryz.prog 60 #[.int .i64 a2, .int .i64 19613300] w' fun e w'' => e = .returned (.int .i64 (brt 19613300 a2)) ∧ w'' = w') := fun w' => brought_19613300 a2 w'
  generalize brt 19613300 a0 = r0 at *
  generalize brt 19613300 a1 = r1 at *
  generalize brt 19613300 a2 = r2 at *
  have ne1 : w.heap.size ≠ w.heap.size + 1 := by omega
  have H0 : H3 ((w.alloc (.cells #[.int .i64 a0, .int .i64 a1, .int .i64 a2] 28)).alloc (.cells #[.int .i64 0, .int .i64 0, .int .i64 0] 28)).drew w.heap.size (.int .i64 a0) (.int .i64 a1) (.int .i64 a2) := H3.drew (H3.alloc (h3_at rfl) _)
  obtain ⟨p0, p1, p2, p3, p4, p5, p6⟩ := H0
  go_enter Tryz.func22, Tryz.ntmps22
  go_wp2_with fail
  go_region_held (fun w' => w'.cell? ⟨w.heap.size, 0, none⟩ = some (.int .i64 a0) ∧ w'.cell? ⟨w.heap.size, 1, none⟩ = some (.int .i64 a1) ∧ w'.cell? ⟨w.heap.size, 2, none⟩ = some (.int .i64 a2)) (first | (go_keep; done) | (simp [go_sem]; done)) (first | (go_at_call_of 60 (Value.int IntKind.i64 a0); refine (B0.out _).mono ?_; rintro e wx ⟨rfl, hwx⟩; have hwy := hwx.symm; clear hwx; subst hwy) | (go_at_call_of 60 (Value.int IntKind.i64 a1); refine (B1.out _).mono ?_; rintro e wx ⟨rfl, hwx⟩; have hwy := hwx.symm; clear hwx; subst hwy) | (go_at_call_of 60 (Value.int IntKind.i64 a2); refine (B2.out _).mono ?_; rintro e wx ⟨rfl, hwx⟩; have hwy := hwx.symm; clear hwx; subst hwy))
  all_goals
    go_wp2_with fail
    exact bodyPost_ret (v := .agg #[.int .i64 r0, .int .i64 r1, .int .i64 r2]) (by simp [results, Tryz.results22, go_sem]) rfl ⟨rfl, by repeat (first | with_reducible assumption | with_reducible exact Ext.refl _ | with_reducible refine Ext.drew ?_ | with_reducible refine Ext.drewN ?_ _ | with_reducible refine Ext.alloc ?_ _ | with_reducible refine Ext.set ?_ (by first | exact Nat.le_refl _ | (dsimp only; omega) | (simp; done)) _)⟩


set_option maxHeartbeats 1000000 in
theorem brought_9806650 (v : Int) (w : World) :
    Calls Tryz.prog 60 #[.int .i64 v, .int .i64 9806650] w fun e w' => e = .returned (.int .i64 (brt 9806650 v)) ∧ w' = w := by
  have hb := brt_bounds 9806650 v (by omega)
  have hd : Hid (brt 9806650 v = v % 18446744073709551616 % 19613301 - 9806650) := rfl
  obtain ⟨X, hX, hX0, hX1⟩ : ∃ X : Int, IntKind.u64.wrap v = X ∧ 0 ≤ X ∧ X ≤ 18446744073709551615 := ⟨_, rfl, by rw [IntKind.wrap_u64]; omega, by rw [IntKind.wrap_u64]; omega⟩
  have hE : Hid (X % 19613301 - 9806650 = brt 9806650 v) := by
    show _ = _
    rw [hd.out, ← hX, IntKind.wrap_u64]
  have h1 : 0 ≤ X % 19613301 := by omega
  have h2 : X % 19613301 ≤ 19613300 := by omega
  clear hd hb
  go_enter Tryz.func60, Tryz.ntmps60
  go_wp2_with fail
  go_ret
  exact ⟨ret_int hE.out, rfl⟩

set_option maxHeartbeats 4000000 in
theorem brvec_9806650 (a0 a1 a2 : Int) (w : World) :
    Calls Tryz.prog 22 #[.agg #[.int .i64 a0, .int .i64 a1, .int .i64 a2], .int .i64 9806650] w fun e w' => e = .returned (.agg #[.int .i64 (brt 9806650 a0), .int .i64 (brt 9806650 a1), .int .i64 (brt 9806650 a2)]) ∧ Ext w w' := by
  have B0 : Hid (∀ w', Calls Tryz.prog 60 #[.int .i64 a0, .int .i64 9806650] w' fun e w'' => e = .returned (.int .i64 (brt 9806650 a0)) ∧ w'' = w') := fun w' => brought_9806650 a0 w'
  have B1 : Hid (∀ w', Calls Tryz.prog 60 #[.int .i64 a1, .int .i64 9806650] w' fun e w'' => e = .returned (.int .i64 (brt 9806650 a1)) ∧ w'' = w') := fun w' => brought_9806650 a1 w'
  have B2 : Hid (∀ w', Calls Tryz.prog 60 #[.int .i64 a2, .int .i64 9806650] w' fun e w'' => e = .returned (.int .i64 (brt 9806650 a2)) ∧ w'' = w') := fun w' => brought_9806650 a2 w'
  generalize brt 9806650 a0 = r0 at *
  generalize brt 9806650 a1 = r1 at *
  generalize brt 9806650 a2 = r2 at *
  have ne1 : w.heap.size ≠ w.heap.size + 1 := by omega
  have H0 : H3 ((w.alloc (.cells #[.int .i64 a0, .int .i64 a1, .int .i64 a2] 28)).alloc (.cells #[.int .i64 0, .int .i64 0, .int .i64 0] 28)).drew w.heap.size (.int .i64 a0) (.int .i64 a1) (.int .i64 a2) := H3.drew (H3.alloc (h3_at rfl) _)
  obtain ⟨p0, p1, p2, p3, p4, p5, p6⟩ := H0
  go_enter Tryz.func22, Tryz.ntmps22
  go_wp2_with fail
  go_region_held (fun w' => w'.cell? ⟨w.heap.size, 0, none⟩ = some (.int .i64 a0) ∧ w'.cell? ⟨w.heap.size, 1, none⟩ = some (.int .i64 a1) ∧ w'.cell? ⟨w.heap.size, 2, none⟩ = some (.int .i64 a2)) (first | (go_keep; done) | (simp [go_sem]; done)) (first | (go_at_call_of 60 (Value.int IntKind.i64 a0); refine (B0.out _).mono ?_; rintro e wx ⟨rfl, hwx⟩; have hwy := hwx.symm; clear hwx; subst hwy) | (go_at_call_of 60 (Value.int IntKind.i64 a1); refine (B1.out _).mono ?_; rintro e wx ⟨rfl, hwx⟩; have hwy := hwx.symm; clear hwx; subst hwy) | (go_at_call_of 60 (Value.int IntKind.i64 a2); refine (B2.out _).mono ?_; rintro e wx ⟨rfl, hwx⟩; have hwy := hwx.symm; clear hwx; subst hwy))
  all_goals
    go_wp2_with fail
    exact bodyPost_ret (v := .agg #[.int .i64 r0, .int .i64 r1, .int .i64 r2]) (by simp [results, Tryz.results22, go_sem]) rfl ⟨rfl, by repeat (first | with_reducible assumption | with_reducible exact Ext.refl _ | with_reducible refine Ext.drew ?_ | with_reducible refine Ext.drewN ?_ _ | with_reducible refine Ext.alloc ?_ _ | with_reducible refine Ext.set ?_ (by first | exact Nat.le_refl _ | (dsimp only; omega) | (simp; done)) _)⟩


set_option maxHeartbeats 1000000 in
theorem brought_1099511627776 (v : Int) (w : World) :
    Calls Tryz.prog 60 #[.int .i64 v, .int .i64 1099511627776] w fun e w' => e = .returned (.int .i64 (brt 1099511627776 v)) ∧ w' = w := by
  have hb := brt_bounds 1099511627776 v (by omega)
  have hd : Hid (brt 1099511627776 v = v % 18446744073709551616 % 2199023255553 - 1099511627776) := rfl
  obtain ⟨X, hX, hX0, hX1⟩ : ∃ X : Int, IntKind.u64.wrap v = X ∧ 0 ≤ X ∧ X ≤ 18446744073709551615 := ⟨_, rfl, by rw [IntKind.wrap_u64]; omega, by rw [IntKind.wrap_u64]; omega⟩
  have hE : Hid (X % 2199023255553 - 1099511627776 = brt 1099511627776 v) := by
    show _ = _
    rw [hd.out, ← hX, IntKind.wrap_u64]
  have h1 : 0 ≤ X % 2199023255553 := by omega
  have h2 : X % 2199023255553 ≤ 2199023255552 := by omega
  clear hd hb
  go_enter Tryz.func60, Tryz.ntmps60
  go_wp2_with fail
  go_ret
  exact ⟨ret_int hE.out, rfl⟩

set_option maxHeartbeats 4000000 in
theorem brvec_1099511627776 (a0 a1 a2 : Int) (w : World) :
    Calls Tryz.prog 22 #[.agg #[.int .i64 a0, .int .i64 a1, .int .i64 a2], .int .i64 1099511627776] w fun e w' => e = .returned (.agg #[.int .i64 (brt 1099511627776 a0), .int .i64 (brt 1099511627776 a1), .int .i64 (brt 1099511627776 a2)]) ∧ Ext w w' := by
  have B0 : Hid (∀ w', Calls Tryz.prog 60 #[.int .i64 a0, .int .i64 1099511627776] w' fun e w'' => e = .returned (.int .i64 (brt 1099511627776 a0)) ∧ w'' = w') := fun w' => brought_1099511627776 a0 w'
  have B1 : Hid (∀ w', Calls Tryz.prog 60 #[.int .i64 a1, .int .i64 1099511627776] w' fun e w'' => e = .returned (.int .i64 (brt 1099511627776 a1)) ∧ w'' = w') := fun w' => brought_1099511627776 a1 w'
  have B2 : Hid (∀ w', Calls Tryz.prog 60 #[.int .i64 a2, .int .i64 1099511627776] w' fun e w'' => e = .returned (.int .i64 (brt 1099511627776 a2)) ∧ w'' = w') := fun w' => brought_1099511627776 a2 w'
  generalize brt 1099511627776 a0 = r0 at *
  generalize brt 1099511627776 a1 = r1 at *
  generalize brt 1099511627776 a2 = r2 at *
  have ne1 : w.heap.size ≠ w.heap.size + 1 := by omega
  have H0 : H3 ((w.alloc (.cells #[.int .i64 a0, .int .i64 a1, .int .i64 a2] 28)).alloc (.cells #[.int .i64 0, .int .i64 0, .int .i64 0] 28)).drew w.heap.size (.int .i64 a0) (.int .i64 a1) (.int .i64 a2) := H3.drew (H3.alloc (h3_at rfl) _)
  obtain ⟨p0, p1, p2, p3, p4, p5, p6⟩ := H0
  go_enter Tryz.func22, Tryz.ntmps22
  go_wp2_with fail
  go_region_held (fun w' => w'.cell? ⟨w.heap.size, 0, none⟩ = some (.int .i64 a0) ∧ w'.cell? ⟨w.heap.size, 1, none⟩ = some (.int .i64 a1) ∧ w'.cell? ⟨w.heap.size, 2, none⟩ = some (.int .i64 a2)) (first | (go_keep; done) | (simp [go_sem]; done)) (first | (go_at_call_of 60 (Value.int IntKind.i64 a0); refine (B0.out _).mono ?_; rintro e wx ⟨rfl, hwx⟩; have hwy := hwx.symm; clear hwx; subst hwy) | (go_at_call_of 60 (Value.int IntKind.i64 a1); refine (B1.out _).mono ?_; rintro e wx ⟨rfl, hwx⟩; have hwy := hwx.symm; clear hwx; subst hwy) | (go_at_call_of 60 (Value.int IntKind.i64 a2); refine (B2.out _).mono ?_; rintro e wx ⟨rfl, hwx⟩; have hwy := hwx.symm; clear hwx; subst hwy))
  all_goals
    go_wp2_with fail
    exact bodyPost_ret (v := .agg #[.int .i64 r0, .int .i64 r1, .int .i64 r2]) (by simp [results, Tryz.results22, go_sem]) rfl ⟨rfl, by repeat (first | with_reducible assumption | with_reducible exact Ext.refl _ | with_reducible refine Ext.drew ?_ | with_reducible refine Ext.drewN ?_ _ | with_reducible refine Ext.alloc ?_ _ | with_reducible refine Ext.set ?_ (by first | exact Nat.le_refl _ | (dsimp only; omega) | (simp; done)) _)⟩


set_option maxHeartbeats 1000000 in
theorem within_1001 (v : Int) (w : World) :
    Calls Tryz.prog 23 #[.int .i64 v, .int .i64 1001] w fun e w' => e = .returned (.int .i64 (v % 18446744073709551616 % 1001)) ∧ w' = w := by
  obtain ⟨X, hX, hX0, hX1⟩ : ∃ X : Int, IntKind.u64.wrap v = X ∧ 0 ≤ X ∧ X ≤ 18446744073709551615 := ⟨_, rfl, by rw [IntKind.wrap_u64]; omega, by rw [IntKind.wrap_u64]; omega⟩
  have hE : Hid (X % 1001 = v % 18446744073709551616 % 1001) := by
    show _ = _
    rw [← hX, IntKind.wrap_u64]
  have h1 : 0 ≤ X % 1001 := by omega
  have h2 : X % 1001 ≤ 1000 := by omega
  go_enter Tryz.func23, Tryz.ntmps23
  go_wp2_with fail
  go_ret
  exact ⟨ret_int hE.out, rfl⟩
/-- a list of things of n numbers each: cell j of entry i holds the number Z i j -/
def NL (n : Nat) (w : World) (b off len : Nat) (Z : Nat → Nat → Int) : Prop :=
  ∀ i, i < len → ∀ j, j < n → w.cell? ⟨b, off + i * n + j, none⟩ = some (.int .i64 (Z i j)) ∧ -9223372036854775808 ≤ Z i j ∧ Z i j ≤ 9223372036854775807
theorem NL.ext {n : Nat} {w w' : World} {b off len : Nat} {Z : Nat → Nat → Int} (h : NL n w b off len Z) (hx : Ext w w') : NL n w' b off len Z := by
  intro i hi j hj
  obtain ⟨h1, h2⟩ := h i hi j hj
  refine ⟨?_, h2⟩
  rw [(hx.lay).1 b _ (cell_lt h1)]
  exact h1
theorem NL.blk {n : Nat} {w : World} {b off len : Nat} {Z : Nat → Nat → Int} (h : NL n w b off len Z) {k : Nat} (hk : k < len) (hn : 0 < n) : b < w.heap.size := cell_lt (h k hk 0 hn).1
theorem NL.row8 {w : World} {b off len : Nat} {Z : Nat → Nat → Int} (h : NL 8 w b off len Z) {k : Nat} (hk : k < len) : w.rangeAt b (off + k * 8) [.int .i64 (Z k 0), .int .i64 (Z k 1), .int .i64 (Z k 2), .int .i64 (Z k 3), .int .i64 (Z k 4), .int .i64 (Z k 5), .int .i64 (Z k 6), .int .i64 (Z k 7)] := fun j v hv => by
  have hj : j < 8 := (List.getElem?_eq_some_iff.1 hv).1
  refine ((h k hk j hj).1).trans ?_
  rw [← hv]
  match j, hj with
  | 0, _ => rfl
  | 1, _ => rfl
  | 2, _ => rfl
  | 3, _ => rfl
  | 4, _ => rfl
  | 5, _ => rfl
  | 6, _ => rfl
  | 7, _ => rfl
/-- as long as 1, but for roundings of its own -/
def isU (a b c d : Int) : Prop := 1152921504606846976 - 2147483657 ≤ a * a + b * b + c * c + d * d ∧ a * a + b * b + c * c + d * d ≤ 1152921504606846976 + 2147483656
theorem unitq_isU {a b c d u0 u1 u2 u3 : Int} (h : ¬ (a = 0 ∧ b = 0 ∧ c = 0 ∧ d = 0)) (hu : UnitQ a b c d u0 u1 u2 u3) : isU u0 u1 u2 u3 := by
  obtain ⟨k0, k1, k2, k3, h0, h1, h2, h3, e0, e1, e2, e3⟩ := hu
  have n0 := sq4_pos h
  have s := unit_sum (sq4 a b c d) _ _ _ _ k0 k1 k2 k3 n0 (by unfold sq4; rfl) h0 h1 h2 h3
  have f0 := sgd_sq a k0
  have f1 := sgd_sq b k1
  have f2 := sgd_sq c k2
  have f3 := sgd_sq d k3
  rw [← e0] at f0; rw [← e1] at f1; rw [← e2] at f2; rw [← e3] at f3
  unfold isU
  rw [f0, f1, f2, f3]; omega
set_option maxHeartbeats 4000000 in
theorem qUnit_zero (w : World) : Calls Tryz.prog 61 #[.agg #[.int .i64 0, .int .i64 0, .int .i64 0, .int .i64 0]] w fun e w' => e = .returned (.tuple #[.agg #[.int .i64 0, .int .i64 0, .int .i64 0, .int .i64 0], .int .i64 3]) ∧ Ext w w' := by
  have K := qCheck_any 0 0 0 0
  have hk : chk4 0 0 0 0 = 0 := by decide
  rw [hk] at K
  have HK : Hid (∀ w', Calls Tryz.prog 103 #[.agg #[.int .i64 0, .int .i64 0, .int .i64 0, .int .i64 0]] w' fun e w'' => e = .returned (.int .i64 0) ∧ Ext w' w'') := K
  clear K hk
  have he := eqQ 0 0 0 0 0 0 0 0
  go_enter Tryz.func61, Tryz.ntmps61
  go_wp2_with fail
  refine (HK.out _).mono ?_
  rintro e w1 ⟨rfl, x1⟩
  have QB : Hid (H4 w1 w.heap.size (.int .i64 0) (.int .i64 0) (.int .i64 0) (.int .i64 0)) := (H4.alloc (h4_at rfl) _).ext x1
  have RB : Hid (H4 w1 (w.heap.size + 1) (.int .i64 0) (.int .i64 0) (.int .i64 0) (.int .i64 0)) := (h4_at (by simp)).ext x1
  have X1 : Ext w w1 := Ext.trans (by repeat (first | with_reducible assumption | with_reducible exact Ext.refl _ | with_reducible refine Ext.drew ?_ | with_reducible refine Ext.drewN ?_ _ | with_reducible refine Ext.alloc ?_ _ | with_reducible refine Ext.set ?_ (by first | exact Nat.le_refl _ | (dsimp only; omega) | (simp; done)) _)) x1
  clear x1
  obtain ⟨s0, s1, s2, s3, s4, s5, s6, s7, s8⟩ := QB.out
  obtain ⟨r0, r1, r2, r3, r4, r5, r6, r7, r8⟩ := RB.out
  go_wp2_with fail
  exact bodyPost_ret (v := .tuple #[.agg #[.int .i64 0, .int .i64 0, .int .i64 0, .int .i64 0], .int .i64 3]) (by simp [results, Tryz.results61, go_sem, r0, r1, r2, r3]) rfl ⟨rfl, by repeat (first | with_reducible assumption | with_reducible exact Ext.refl _ | with_reducible refine Ext.drew ?_ | with_reducible refine Ext.drewN ?_ _ | with_reducible refine Ext.alloc ?_ _ | with_reducible refine Ext.set ?_ (by first | exact Nat.le_refl _ | (dsimp only; omega) | (simp; done)) _)⟩
set_option maxRecDepth 20000 in
set_option maxHeartbeats 8000000 in
theorem lunit_raw (a b c d A0 A1 A2 A3 u0 u1 u2 u3 ee : Int) (ok : Bool) (w : World) (H0 : Hid (∀ w', Calls Tryz.prog 60 #[.int .i64 a, .int .i64 1073741824] w' fun e w'' => e = .returned (.int .i64 A0) ∧ w'' = w')) (H1 : Hid (∀ w', Calls Tryz.prog 60 #[.int .i64 b, .int .i64 1073741824] w' fun e w'' => e = .returned (.int .i64 A1) ∧ w'' = w')) (H2 : Hid (∀ w', Calls Tryz.prog 60 #[.int .i64 c, .int .i64 1073741824] w' fun e w'' => e = .returned (.int .i64 A2) ∧ w'' = w')) (H3 : Hid (∀ w', Calls Tryz.prog 60 #[.int .i64 d, .int .i64 1073741824] w' fun e w'' => e = .returned (.int .i64 A3) ∧ w'' = w')) (HE : Hid ((ee == 0) = ok))
    (HU : Hid (∀ w', Calls Tryz.prog 61 #[.agg #[.int .i64 A0, .int .i64 A1, .int .i64 A2, .int .i64 A3]] w' fun e w'' => e = .returned (.tuple #[.agg #[.int .i64 u0, .int .i64 u1, .int .i64 u2, .int .i64 u3], .int .i64 ee]) ∧ Ext w' w'')) :
    Calls Tryz.prog 21 #[.agg #[.int .i64 a, .int .i64 b, .int .i64 c, .int .i64 d]] w fun e w' => e = .returned (.tuple #[.agg #[.int .i64 u0, .int .i64 u1, .int .i64 u2, .int .i64 u3], .bool ok]) ∧ Ext w w' := by
  have FX : Hid (Ext w w) := Ext.refl w
  have KS : Hid (∀ (X : World) (y0 y1 y2 y3 : Value), Ext w X → Ext w ((((X.setCell ⟨w.heap.size + 1, 0, none⟩ y0).setCell ⟨w.heap.size + 1, 1, none⟩ y1).setCell ⟨w.heap.size + 1, 2, none⟩ y2).setCell ⟨w.heap.size + 1, 3, none⟩ y3)) := fun X y0 y1 y2 y3 h => (((h.set (p := ⟨w.heap.size + 1, 0, none⟩) (Nat.le_succ _) y0).set (p := ⟨w.heap.size + 1, 1, none⟩) (Nat.le_succ _) y1).set (p := ⟨w.heap.size + 1, 2, none⟩) (Nat.le_succ _) y2).set (p := ⟨w.heap.size + 1, 3, none⟩) (Nat.le_succ _) y3
  have SZ : (w.alloc (.cells #[.int .i64 a, .int .i64 b, .int .i64 c, .int .i64 d] 24)).heap.size = w.heap.size + 1 := by simp
  go_enter Tryz.func21, Tryz.ntmps21
  go_upto_region 1 with fail
  have Lq : Hid (w.heap.size ≤ w.heap.size) := FX.out.size
  have Lr : Hid (w.heap.size ≤ w.heap.size + 1) := Nat.le_trans FX.out.size (Nat.le_add_right _ _)
  have Fq : Hid (HV ((w.alloc (.cells #[.int .i64 a, .int .i64 b, .int .i64 c, .int .i64 d] 24)).alloc (.cells #[.int .i64 0, .int .i64 0, .int .i64 0, .int .i64 0] 26)) w.heap.size [.int .i64 a, .int .i64 b, .int .i64 c, .int .i64 d]) := ((hv_at rfl).alloc _)
  have Fr : Hid (HV ((w.alloc (.cells #[.int .i64 a, .int .i64 b, .int .i64 c, .int .i64 d] 24)).alloc (.cells #[.int .i64 0, .int .i64 0, .int .i64 0, .int .i64 0] 26)) (w.heap.size + 1) [.int .i64 0, .int .i64 0, .int .i64 0, .int .i64 0]) := (hv_at (by simp))
  have FX : Hid (Ext w ((w.alloc (.cells #[.int .i64 a, .int .i64 b, .int .i64 c, .int .i64 d] 24)).alloc (.cells #[.int .i64 0, .int .i64 0, .int .i64 0, .int .i64 0] 26))) := ((FX.out.alloc _).alloc _)
  generalize ((w.alloc (.cells #[.int .i64 a, .int .i64 b, .int .i64 c, .int .i64 d] 24)).alloc (.cells #[.int .i64 0, .int .i64 0, .int .i64 0, .int .i64 0] 26)) = wx1 at *
  generalize w.heap.size = nq at *
  have ltqr : nq < nq + 1 := by omega
  generalize nq + 1 = nr at *
  clear SZ
  go_cut [4] (fun v4 wx => ∃ g : Nat, v4 = .pointer (some ⟨g, 0, none⟩) ∧ Hid (wx1.heap.size ≤ g) ∧ Hid (HV wx g [.int .i64 A0, .int .i64 A1, .int .i64 A2, .int .i64 A3]) ∧ Hid (Ext wx1 wx))
  case first =>
    have qq0 : wx1.cell? ⟨nq, 0, none⟩ = some (.int .i64 a) := Fq.out.c 0 rfl
    have qq1 : wx1.cell? ⟨nq, 1, none⟩ = some (.int .i64 b) := Fq.out.c 1 rfl
    have qq2 : wx1.cell? ⟨nq, 2, none⟩ = some (.int .i64 c) := Fq.out.c 2 rfl
    have qq3 : wx1.cell? ⟨nq, 3, none⟩ = some (.int .i64 d) := Fq.out.c 3 rfl
    have bq : nq < wx1.heap.size := Fq.out.1
    have mq1 := Nat.ne_of_lt bq
    have mq2 := Nat.ne_of_gt bq
    go_region_held3 (fun w' => w'.cell? ⟨nq, 0, none⟩ = some (.int .i64 a) ∧ w'.cell? ⟨nq, 1, none⟩ = some (.int .i64 b) ∧ w'.cell? ⟨nq, 2, none⟩ = some (.int .i64 c) ∧ w'.cell? ⟨nq, 3, none⟩ = some (.int .i64 d)) (first | (go_keep; done) | (refine ⟨?_, ?_, ?_, ?_⟩ <;> (rw [World.cell?_setCell_far _ _ _ _ (by dsimp only; omega), World.cell?_setCell_far _ _ _ _ (by dsimp only; omega), World.cell?_setCell_far _ _ _ _ (by dsimp only; omega), World.cell?_setCell_far _ _ _ _ (by dsimp only; omega)]; with_reducible assumption)) | skip) (first | (go_at_call_of 60 (Value.int IntKind.i64 a); refine (H0.out _).mono ?_; rintro e wx ⟨rfl, hwx⟩; have hwy := hwx.symm; clear hwx; subst hwy) | (go_at_call_of 60 (Value.int IntKind.i64 b); refine (H1.out _).mono ?_; rintro e wx ⟨rfl, hwx⟩; have hwy := hwx.symm; clear hwx; subst hwy) | (go_at_call_of 60 (Value.int IntKind.i64 c); refine (H2.out _).mono ?_; rintro e wx ⟨rfl, hwx⟩; have hwy := hwx.symm; clear hwx; subst hwy) | (go_at_call_of 60 (Value.int IntKind.i64 d); refine (H3.out _).mono ?_; rintro e wx ⟨rfl, hwx⟩; have hwy := hwx.symm; clear hwx; subst hwy))
    all_goals
      go_wp2_with fail
      go_meet
      have hg : wx1.heap.size ≤ wx1.heap.size := Nat.le_refl _
      have hy : Ext wx1 (wx1.alloc (.cells #[.int .i64 A0, .int .i64 A1, .int .i64 A2, .int .i64 A3] 24)) := (Ext.refl wx1).alloc _
      first | exact ⟨wx1.heap.size, rfl, hg, hv_at rfl, hy⟩ | exact ⟨wx1.heap.size, rfl, hg, hv_at rfl, hy.drew⟩ | exact ⟨wx1.heap.size, rfl, hg, HV.drew (hv_at rfl), hy.drew⟩
  case rest =>
    obtain ⟨np, rfl, Lp, Fp, hx⟩ := hcut
    have hx := hx.out
    have ltqp : nq < np := Nat.lt_of_lt_of_le Fq.out.1 Lp.out
    have ltrp : nr < np := Nat.lt_of_lt_of_le Fr.out.1 Lp.out
    have Lp : Hid (w.heap.size ≤ np) := Nat.le_trans FX.out.size Lp.out
    have Fq : Hid (HV wc nq [.int .i64 a, .int .i64 b, .int .i64 c, .int .i64 d]) := Fq.out.ext hx
    have Fr : Hid (HV wc nr [.int .i64 0, .int .i64 0, .int .i64 0, .int .i64 0]) := Fr.out.ext hx
    have FX : Hid (Ext w wc) := FX.out.trans hx
    clear hx
    generalize wc = wx2 at *
    have qp0 : wx2.cell? ⟨np, 0, none⟩ = some (.int .i64 A0) := Fp.out.c 0 rfl
    have qp1 : wx2.cell? ⟨np, 1, none⟩ = some (.int .i64 A1) := Fp.out.c 1 rfl
    have qp2 : wx2.cell? ⟨np, 2, none⟩ = some (.int .i64 A2) := Fp.out.c 2 rfl
    have qp3 : wx2.cell? ⟨np, 3, none⟩ = some (.int .i64 A3) := Fp.out.c 3 rfl
    go_upto_region 3 with (first | (go_at_call 61; refine (HU.out _).mono ?_; rintro e u5 ⟨rfl, x5⟩))
    have Fq : Hid (HV u5 nq [.int .i64 a, .int .i64 b, .int .i64 c, .int .i64 d]) := Fq.out.ext x5
    have Fr : Hid (HV u5 nr [.int .i64 0, .int .i64 0, .int .i64 0, .int .i64 0]) := Fr.out.ext x5
    have Fp : Hid (HV u5 np [.int .i64 A0, .int .i64 A1, .int .i64 A2, .int .i64 A3]) := Fp.out.ext x5
    have FX : Hid (Ext w u5) := FX.out.trans x5
    clear qp0 qp1 qp2 qp3 x5 HU
    have ltqu : nq < u5.heap.size := Fq.out.1
    have ltru : nr < u5.heap.size := Fr.out.1
    have ltpu : np < u5.heap.size := Fp.out.1
    have Lu : Hid (w.heap.size ≤ u5.heap.size) := FX.out.size
    have Fq : Hid (HV (u5.alloc (.cells #[.int .i64 u0, .int .i64 u1, .int .i64 u2, .int .i64 u3] 24)) nq [.int .i64 a, .int .i64 b, .int .i64 c, .int .i64 d]) := Fq.out.alloc _
    have Fr : Hid (HV (u5.alloc (.cells #[.int .i64 u0, .int .i64 u1, .int .i64 u2, .int .i64 u3] 24)) nr [.int .i64 0, .int .i64 0, .int .i64 0, .int .i64 0]) := Fr.out.alloc _
    have Fp : Hid (HV (u5.alloc (.cells #[.int .i64 u0, .int .i64 u1, .int .i64 u2, .int .i64 u3] 24)) np [.int .i64 A0, .int .i64 A1, .int .i64 A2, .int .i64 A3]) := Fp.out.alloc _
    have Fu : Hid (HV (u5.alloc (.cells #[.int .i64 u0, .int .i64 u1, .int .i64 u2, .int .i64 u3] 24)) u5.heap.size [.int .i64 u0, .int .i64 u1, .int .i64 u2, .int .i64 u3]) := hv_at rfl
    have FX : Hid (Ext w (u5.alloc (.cells #[.int .i64 u0, .int .i64 u1, .int .i64 u2, .int .i64 u3] 24))) := FX.out.alloc _
    generalize (u5.alloc (.cells #[.int .i64 u0, .int .i64 u1, .int .i64 u2, .int .i64 u3] 24)) = wx3 at *
    generalize u5.heap.size = nu at *
    have qu0 : wx3.cell? ⟨nu, 0, none⟩ = some (.int .i64 u0) := Fu.out.c 0 rfl
    have qu1 : wx3.cell? ⟨nu, 1, none⟩ = some (.int .i64 u1) := Fu.out.c 1 rfl
    have qu2 : wx3.cell? ⟨nu, 2, none⟩ = some (.int .i64 u2) := Fu.out.c 2 rfl
    have qu3 : wx3.cell? ⟨nu, 3, none⟩ = some (.int .i64 u3) := Fu.out.c 3 rfl
    have r0 := Fr.out.c 0 rfl
    have f0 := Fr.out.f 0 rfl
    have q0 := Fu.out.c 0 rfl
    have r1 := Fr.out.c 1 rfl
    have f1 := Fr.out.f 1 rfl
    have q1 := Fu.out.c 1 rfl
    have r2 := Fr.out.c 2 rfl
    have f2 := Fr.out.f 2 rfl
    have q2 := Fu.out.c 2 rfl
    have r3 := Fr.out.c 3 rfl
    have f3 := Fr.out.f 3 rfl
    have q3 := Fu.out.c 3 rfl
    have br : nr < wx3.heap.size := Fr.out.1
    have mr1 := Nat.ne_of_lt ltru
    have mr2 := Nat.ne_of_gt ltru
    have he := HE.out
    go_region_with (first | (go_at_call 13; refine (num15_any _ _).mono ?_; rintro e wx ⟨rfl, hwx⟩; have hwy := hwx.symm; clear hwx; subst hwy))
    all_goals
      go_wp2_with fail
      exact bodyPost_ret (v := .tuple #[.agg #[.int .i64 u0, .int .i64 u1, .int .i64 u2, .int .i64 u3], .bool ok]) (by simp [results, Tryz.results21, go_sem, r0, r1, r2, r3]) rfl ⟨rfl, by first | exact KS.out _ _ _ _ _ FX.out | exact (KS.out _ _ _ _ _ FX.out).drew | exact KS.out _ _ _ _ _ FX.out.drew⟩
theorem lunit_any (a b c d : Int) : ∃ (u0 u1 u2 u3 : Int) (ok : Bool), (∀ w, Calls Tryz.prog 21 #[.agg #[.int .i64 a, .int .i64 b, .int .i64 c, .int .i64 d]] w fun e w' => e = .returned (.tuple #[.agg #[.int .i64 u0, .int .i64 u1, .int .i64 u2, .int .i64 u3], .bool ok]) ∧ Ext w w') ∧ (ok = true → isU u0 u1 u2 u3 ∧ okO u0 u1 u2 u3 = true) := by
  have B := fun v w' => brought_1073741824 v w'
  have bd := fun v => brt_bounds 1073741824 v (by decide)
  by_cases hz : brt 1073741824 a = 0 ∧ brt 1073741824 b = 0 ∧ brt 1073741824 c = 0 ∧ brt 1073741824 d = 0
  · refine ⟨0, 0, 0, 0, false, fun w => ?_, fun h => by cases h⟩
    refine lunit_raw a b c d 0 0 0 0 0 0 0 0 3 false w (fun w' => ?_) (fun w' => ?_) (fun w' => ?_) (fun w' => ?_) (by show _ = _; decide) (fun w' => qUnit_zero w')
    · have h := B a w'; rw [hz.1] at h; exact h
    · have h := B b w'; rw [hz.2.1] at h; exact h
    · have h := B c w'; rw [hz.2.2.1] at h; exact h
    · have h := B d w'; rw [hz.2.2.2] at h; exact h
  · obtain ⟨u0, u1, u2, u3, hu⟩ := unitq_ex hz
    have a1 := bd a; have a2 := bd b; have a3 := bd c; have a4 := bd d
    exact ⟨u0, u1, u2, u3, true, fun w => lunit_raw a b c d _ _ _ _ u0 u1 u2 u3 0 true w (fun w' => B a w') (fun w' => B b w') (fun w' => B c w') (fun w' => B d w') (by show _ = _; decide) (fun w' => qunit_told w' (ok4_of (by omega) (by omega) (by omega) (by omega)) hz hu), fun _ => ⟨unitq_isU hz hu, unitq_okO hz hu⟩⟩
theorem up_fresh : UpD 1073741824 0 0 0 0 0 9806650 1073741824 0 0 0 := by
  refine ⟨9806650, ?_, .inr ⟨by decide, 0, 0, 0, ⟨0, 0, 1073741824, ⟨0, 0, 1073741824, ?_, ?_, ?_, by decide, by decide, by decide⟩, ?_, ?_, ?_⟩, ⟨1073741824, 0, 0, 0, ?_, ?_, ?_, ?_, by decide +kernel, by decide +kernel, by decide +kernel, by decide +kernel⟩⟩⟩
  · unfold RootQ; decide +kernel
  · unfold RootQ; decide +kernel
  · unfold RootQ; decide +kernel
  · unfold RootQ; decide +kernel
  · decide +kernel
  · decide +kernel
  · decide +kernel
  · unfold RootQ; decide +kernel
  · unfold RootQ; decide +kernel
  · unfold RootQ; decide +kernel
  · unfold RootQ; decide +kernel
theorem eqF (x y z u a b c d : Int) (w : World) : (Op.equalIn 10000 26 (.agg #[.int .i64 x, .int .i64 y, .int .i64 z, .int .i64 u]) (.agg #[.int .i64 a, .int .i64 b, .int .i64 c, .int .i64 d])).run Tryz.prog w = .ok (x == a && (y == b && (z == c && u == d))) w := by
  by_cases hx : x = a <;> by_cases hy : y = b <;> by_cases hz : z = c <;> by_cases hu : u = d <;> simp [go_sem, hx, hy, hz, hu]
set_option maxRecDepth 20000 in
set_option maxHeartbeats 4000000 in
theorem wakes15_any (w : World) : Calls Tryz.prog 20 #[] w fun e w' => e = .returned (.bool true) ∧ Ext w w' := by
  have HF : Hid (∀ w, Calls Tryz.prog 18 #[] w fun e w' => e = .returned (.agg #[.int .i64 1073741824, .int .i64 0, .int .i64 0, .int .i64 0]) ∧ Ext w w') := fresh_any
  have HA : Hid (∀ w, Calls Tryz.prog 16 #[.agg #[.int .i64 1073741824, .int .i64 0, .int .i64 0, .int .i64 0], .agg #[.int .i64 0, .int .i64 0, .int .i64 9806650]] w fun e w' => e = .returned (.tuple #[.agg #[.int .i64 1073741824, .int .i64 0, .int .i64 0, .int .i64 0], .int .i64 0]) ∧ Ext w w') := fun w => up_told w (by decide) (by decide) up_fresh
  have he := eqF 1073741824 0 0 0 1073741824 0 0 0
  go_enter Tryz.func20, Tryz.ntmps20
  go_wp2_with fail
  refine (HF.out _).mono ?_
  rintro e w1 ⟨rfl, x1⟩
  go_wp2_with fail
  refine (HA.out _).mono ?_
  rintro e w2 ⟨rfl, x2⟩
  go_upto_region 2 with fail
  have F1 : Hid (HV (w2.alloc (.cells #[.int .i64 1073741824, .int .i64 0, .int .i64 0, .int .i64 0] 26)) w2.heap.size [.int .i64 1073741824, .int .i64 0, .int .i64 0, .int .i64 0]) := hv_at rfl
  have FX : Hid (Ext w (w2.alloc (.cells #[.int .i64 1073741824, .int .i64 0, .int .i64 0, .int .i64 0] 26))) := (x1.trans x2).alloc _
  generalize (w2.alloc (.cells #[.int .i64 1073741824, .int .i64 0, .int .i64 0, .int .i64 0] 26)) = w3 at *
  generalize w2.heap.size = n1 at *
  clear x1 x2
  obtain ⟨q0, q1, q2, q3⟩ := F1.out.k4
  go_wp2_with (go_at_call 13; refine (num15_any _ _).mono ?_; rintro e wx ⟨rfl, hwx⟩; have hwy := hwx.symm; clear hwx; subst hwy)
  go_ret
  exact ⟨by first | rfl | simp, FX.out⟩
end Go.Proofs.YtmbdcgijjpcppaaGreat
