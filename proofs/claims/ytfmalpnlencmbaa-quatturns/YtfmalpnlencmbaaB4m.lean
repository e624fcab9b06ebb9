/- gimballaw0: Brought, Vec; near. -/
import Derived.Test.YtfmalpnlencmbaaMg29
import Derived.Deep.RegionHeld
namespace Go.Proofs.Ytfmalpnlencmbaa
open Go.RowKit Go.Shelf

/-- a number brought to from -m to m -/
def brt (m v : Int) : Int := v % 18446744073709551616 % (2 * m + 1) - m
theorem brt_bounds (m v : Int) (h : 0 ≤ m) : -m ≤ brt m v ∧ brt m v ≤ m := by
  have h1 := Int.emod_nonneg (v % 18446744073709551616) (show 2 * m + 1 ≠ 0 by omega)
  have h2 := Int.emod_lt_of_pos (v % 18446744073709551616) (show 0 < 2 * m + 1 by omega)
  unfold brt
  omega

set_option maxHeartbeats 1000000 in
theorem brought_1073741824 (v : Int) (w : World) :
    Calls Try.prog 12 #[.int .i64 v, .int .i64 1073741824] w fun e w' => e = .returned (.int .i64 (brt 1073741824 v)) ∧ w' = w := by
  have hb := brt_bounds 1073741824 v (by omega)
  have hd : Hid (brt 1073741824 v = v % 18446744073709551616 % 2147483649 - 1073741824) := rfl
  obtain ⟨X, hX, hX0, hX1⟩ : ∃ X : Int, IntKind.u64.wrap v = X ∧ 0 ≤ X ∧ X ≤ 18446744073709551615 := ⟨_, rfl, by rw [IntKind.wrap_u64]; omega, by rw [IntKind.wrap_u64]; omega⟩
  have hE : Hid (X % 2147483649 - 1073741824 = brt 1073741824 v) := by
    show _ = _
    rw [hd.out, ← hX, IntKind.wrap_u64]
  have h1 : 0 ≤ X % 2147483649 := by omega
  have h2 : X % 2147483649 ≤ 2147483648 := by omega
  clear hd hb
  go_enter Try.func12, Try.ntmps12
  go_wp2_with fail
  go_ret
  exact ⟨ret_int hE.out, rfl⟩

set_option maxHeartbeats 4000000 in
theorem brvec_1073741824 (a0 a1 a2 : Int) (w : World) :
    Calls Try.prog 13 #[.agg #[.int .i64 a0, .int .i64 a1, .int .i64 a2], .int .i64 1073741824] w fun e w' => e = .returned (.agg #[.int .i64 (brt 1073741824 a0), .int .i64 (brt 1073741824 a1), .int .i64 (brt 1073741824 a2)]) ∧ Ext w w' := by
  have B0 : Hid (∀ w', Calls Try.prog 12 #[.int .i64 a0, .int .i64 1073741824] w' fun e w'' => e = .returned (.int .i64 (brt 1073741824 a0)) ∧ w'' = w') := fun w' => brought_1073741824 a0 w'
  have B1 : Hid (∀ w', Calls Try.prog 12 #[.int .i64 a1, .int .i64 1073741824] w' fun e w'' => e = .returned (.int .i64 (brt 1073741824 a1)) ∧ w'' = w') := fun w' => brought_1073741824 a1 w'
  have B2 : Hid (∀ w', Calls Try.prog 12 #[.int .i64 a2, .int .i64 1073741824] w' fun e w'' => e = .returned (.int .i64 (brt 1073741824 a2)) ∧ w'' = w') := fun w' => brought_1073741824 a2 w'
  generalize brt 1073741824 a0 = r0 at *
  generalize brt 1073741824 a1 = r1 at *
  generalize brt 1073741824 a2 = r2 at *
  have ne1 : w.heap.size ≠ w.heap.size + 1 := by omega
  have H0 : H3 ((w.alloc (.cells #[.int .i64 a0, .int .i64 a1, .int .i64 a2] 26)).alloc (.cells #[.int .i64 0, .int .i64 0, .int .i64 0] 26)).drew w.heap.size (.int .i64 a0) (.int .i64 a1) (.int .i64 a2) := H3.drew (H3.alloc (h3_at rfl) _)
  obtain ⟨p0, p1, p2, p3, p4, p5, p6⟩ := H0
  go_enter Try.func13, Try.ntmps13
  go_wp2_with fail
  go_region_held (fun w' => w'.cell? ⟨w.heap.size, 0, none⟩ = some (.int .i64 a0) ∧ w'.cell? ⟨w.heap.size, 1, none⟩ = some (.int .i64 a1) ∧ w'.cell? ⟨w.heap.size, 2, none⟩ = some (.int .i64 a2)) (first | (go_keep; done) | (simp [go_sem]; done)) (first | (go_at_call_of 12 (Value.int IntKind.i64 a0); refine (B0.out _).mono ?_; rintro e wx ⟨rfl, hwx⟩; have hwy := hwx.symm; clear hwx; subst hwy) | (go_at_call_of 12 (Value.int IntKind.i64 a1); refine (B1.out _).mono ?_; rintro e wx ⟨rfl, hwx⟩; have hwy := hwx.symm; clear hwx; subst hwy) | (go_at_call_of 12 (Value.int IntKind.i64 a2); refine (B2.out _).mono ?_; rintro e wx ⟨rfl, hwx⟩; have hwy := hwx.symm; clear hwx; subst hwy))
  all_goals
    go_wp2_with fail
    exact bodyPost_ret (v := .agg #[.int .i64 r0, .int .i64 r1, .int .i64 r2]) (by simp [results, Try.results13, go_sem]) rfl ⟨rfl, by repeat (first | with_reducible assumption | with_reducible exact Ext.refl _ | with_reducible refine Ext.drew ?_ | with_reducible refine Ext.drewN ?_ _ | with_reducible refine Ext.alloc ?_ _ | with_reducible refine Ext.set ?_ (by first | exact Nat.le_refl _ | (dsimp only; omega) | (simp; done)) _)⟩

set_option maxHeartbeats 1000000 in
theorem brought_2147483648 (v : Int) (w : World) :
    Calls Try.prog 12 #[.int .i64 v, .int .i64 2147483648] w fun e w' => e = .returned (.int .i64 (brt 2147483648 v)) ∧ w' = w := by
  have hb := brt_bounds 2147483648 v (by omega)
  have hd : Hid (brt 2147483648 v = v % 18446744073709551616 % 4294967297 - 2147483648) := rfl
  obtain ⟨X, hX, hX0, hX1⟩ : ∃ X : Int, IntKind.u64.wrap v = X ∧ 0 ≤ X ∧ X ≤ 18446744073709551615 := ⟨_, rfl, by rw [IntKind.wrap_u64]; omega, by rw [IntKind.wrap_u64]; omega⟩
  have hE : Hid (X % 4294967297 - 2147483648 = brt 2147483648 v) := by
    show _ = _
    rw [hd.out, ← hX, IntKind.wrap_u64]
  have h1 : 0 ≤ X % 4294967297 := by omega
  have h2 : X % 4294967297 ≤ 4294967296 := by omega
  clear hd hb
  go_enter Try.func12, Try.ntmps12
  go_wp2_with fail
  go_ret
  exact ⟨ret_int hE.out, rfl⟩

set_option maxHeartbeats 4000000 in
theorem brvec_2147483648 (a0 a1 a2 : Int) (w : World) :
    Calls Try.prog 13 #[.agg #[.int .i64 a0, .int .i64 a1, .int .i64 a2], .int .i64 2147483648] w fun e w' => e = .returned (.agg #[.int .i64 (brt 2147483648 a0), .int .i64 (brt 2147483648 a1), .int .i64 (brt 2147483648 a2)]) ∧ Ext w w' := by
  have B0 : Hid (∀ w', Calls Try.prog 12 #[.int .i64 a0, .int .i64 2147483648] w' fun e w'' => e = .returned (.int .i64 (brt 2147483648 a0)) ∧ w'' = w') := fun w' => brought_2147483648 a0 w'
  have B1 : Hid (∀ w', Calls Try.prog 12 #[.int .i64 a1, .int .i64 2147483648] w' fun e w'' => e = .returned (.int .i64 (brt 2147483648 a1)) ∧ w'' = w') := fun w' => brought_2147483648 a1 w'
  have B2 : Hid (∀ w', Calls Try.prog 12 #[.int .i64 a2, .int .i64 2147483648] w' fun e w'' => e = .returned (.int .i64 (brt 2147483648 a2)) ∧ w'' = w') := fun w' => brought_2147483648 a2 w'
  generalize brt 2147483648 a0 = r0 at *
  generalize brt 2147483648 a1 = r1 at *
  generalize brt 2147483648 a2 = r2 at *
  have ne1 : w.heap.size ≠ w.heap.size + 1 := by omega
  have H0 : H3 ((w.alloc (.cells #[.int .i64 a0, .int .i64 a1, .int .i64 a2] 26)).alloc (.cells #[.int .i64 0, .int .i64 0, .int .i64 0] 26)).drew w.heap.size (.int .i64 a0) (.int .i64 a1) (.int .i64 a2) := H3.drew (H3.alloc (h3_at rfl) _)
  obtain ⟨p0, p1, p2, p3, p4, p5, p6⟩ := H0
  go_enter Try.func13, Try.ntmps13
  go_wp2_with fail
  go_region_held (fun w' => w'.cell? ⟨w.heap.size, 0, none⟩ = some (.int .i64 a0) ∧ w'.cell? ⟨w.heap.size, 1, none⟩ = some (.int .i64 a1) ∧ w'.cell? ⟨w.heap.size, 2, none⟩ = some (.int .i64 a2)) (first | (go_keep; done) | (simp [go_sem]; done)) (first | (go_at_call_of 12 (Value.int IntKind.i64 a0); refine (B0.out _).mono ?_; rintro e wx ⟨rfl, hwx⟩; have hwy := hwx.symm; clear hwx; subst hwy) | (go_at_call_of 12 (Value.int IntKind.i64 a1); refine (B1.out _).mono ?_; rintro e wx ⟨rfl, hwx⟩; have hwy := hwx.symm; clear hwx; subst hwy) | (go_at_call_of 12 (Value.int IntKind.i64 a2); refine (B2.out _).mono ?_; rintro e wx ⟨rfl, hwx⟩; have hwy := hwx.symm; clear hwx; subst hwy))
  all_goals
    go_wp2_with fail
    exact bodyPost_ret (v := .agg #[.int .i64 r0, .int .i64 r1, .int .i64 r2]) (by simp [results, Try.results13, go_sem]) rfl ⟨rfl, by repeat (first | with_reducible assumption | with_reducible exact Ext.refl _ | with_reducible refine Ext.drew ?_ | with_reducible refine Ext.drewN ?_ _ | with_reducible refine Ext.alloc ?_ _ | with_reducible refine Ext.set ?_ (by first | exact Nat.le_refl _ | (dsimp only; omega) | (simp; done)) _)⟩


set_option maxRecDepth 20000 in
set_option maxHeartbeats 4000000 in
theorem near_any (x0 x1 x2 y0 y1 y2 m : Int) (w : World) (hx0 : -1099511627776 ≤ x0 ∧ x0 ≤ 1099511627776) (hx1 : -1099511627776 ≤ x1 ∧ x1 ≤ 1099511627776) (hx2 : -1099511627776 ≤ x2 ∧ x2 ≤ 1099511627776) (hy0 : -1099511627776 ≤ y0 ∧ y0 ≤ 1099511627776) (hy1 : -1099511627776 ≤ y1 ∧ y1 ≤ 1099511627776) (hy2 : -1099511627776 ≤ y2 ∧ y2 ≤ 1099511627776)
    (h0 : x0 - y0 ≤ m ∧ y0 - x0 ≤ m) (h1 : x1 - y1 ≤ m ∧ y1 - x1 ≤ m) (h2 : x2 - y2 ≤ m ∧ y2 - x2 ≤ m) :
    Calls Try.prog 16 #[.agg #[.int .i64 x0, .int .i64 x1, .int .i64 x2], .agg #[.int .i64 y0, .int .i64 y1, .int .i64 y2], .int .i64 m] w fun e w' => e = .returned (.bool true) ∧ Ext w w' := by
  obtain ⟨p0, p1⟩ := hx0
  obtain ⟨p2, p3⟩ := hx1
  obtain ⟨p4, p5⟩ := hx2
  obtain ⟨q0, q1⟩ := hy0
  obtain ⟨q2, q3⟩ := hy1
  obtain ⟨q4, q5⟩ := hy2
  obtain ⟨a0, a1⟩ := h0
  obtain ⟨a2, a3⟩ := h1
  obtain ⟨a4, a5⟩ := h2
  go_enter Try.func16, Try.ntmps16
  go_wp2_with fail
  go_ret
  exact ⟨rfl, ((Ext.refl _).alloc _).alloc _⟩
end Go.Proofs.Ytfmalpnlencmbaa
