/- gimballaw0: Brought, Vec. -/
import Derived.Test.YtllgknodgmgemaaV11
import Derived.Test.YtllgknodgmgemaaL1
import Derived.Deep.RegionHeld
namespace Go.Proofs.Ytllgknodgmgemaa
open Go.RowKit Go.Shelf

/-- a number brought to from -m to m -/
def brt (m v : Int) : Int := v % 18446744073709551616 % (2 * m + 1) - m
theorem brt_bounds (m v : Int) (h : 0 ≤ m) : -m ≤ brt m v ∧ brt m v ≤ m := by
  have h1 := Int.emod_nonneg (v % 18446744073709551616) (show 2 * m + 1 ≠ 0 by omega)
  have h2 := Int.emod_lt_of_pos (v % 18446744073709551616) (show 0 < 2 * m + 1 by omega)
  unfold brt
  omega

set_option maxHeartbeats 1000000 in
theorem brought_1099511627776 (v : Int) (w : World) :
    Calls Try.prog 14 #[.int .i64 v, .int .i64 1099511627776] w fun e w' => e = .returned (.int .i64 (brt 1099511627776 v)) ∧ w' = w := by
  have hb := brt_bounds 1099511627776 v (by omega)
  have hd : Hid (brt 1099511627776 v = v % 18446744073709551616 % 2199023255553 - 1099511627776) := rfl
  obtain ⟨X, hX, hX0, hX1⟩ : ∃ X : Int, IntKind.u64.wrap v = X ∧ 0 ≤ X ∧ X ≤ 18446744073709551615 := ⟨_, rfl, by rw [IntKind.wrap_u64]; omega, by rw [IntKind.wrap_u64]; omega⟩
  have hE : Hid (X % 2199023255553 - 1099511627776 = brt 1099511627776 v) := by
    show _ = _
    rw [hd.out, ← hX, IntKind.wrap_u64]
  have h1 : 0 ≤ X % 2199023255553 := by omega
  have h2 : X % 2199023255553 ≤ 2199023255552 := by omega
  clear hd hb
  go_enter Try.func14, Try.ntmps14
  go_wp2_with fail
  go_ret
  exact ⟨ret_int hE.out, rfl⟩

set_option maxHeartbeats 4000000 in
theorem brvec_1099511627776 (a0 a1 a2 : Int) (w : World) :
    Calls Try.prog 5 #[.agg #[.int .i64 a0, .int .i64 a1, .int .i64 a2], .int .i64 1099511627776] w fun e w' => e = .returned (.agg #[.int .i64 (brt 1099511627776 a0), .int .i64 (brt 1099511627776 a1), .int .i64 (brt 1099511627776 a2)]) ∧ Ext w w' := by
  have B0 : Hid (∀ w', Calls Try.prog 14 #[.int .i64 a0, .int .i64 1099511627776] w' fun e w'' => e = .returned (.int .i64 (brt 1099511627776 a0)) ∧ w'' = w') := fun w' => brought_1099511627776 a0 w'
  have B1 : Hid (∀ w', Calls Try.prog 14 #[.int .i64 a1, .int .i64 1099511627776] w' fun e w'' => e = .returned (.int .i64 (brt 1099511627776 a1)) ∧ w'' = w') := fun w' => brought_1099511627776 a1 w'
  have B2 : Hid (∀ w', Calls Try.prog 14 #[.int .i64 a2, .int .i64 1099511627776] w' fun e w'' => e = .returned (.int .i64 (brt 1099511627776 a2)) ∧ w'' = w') := fun w' => brought_1099511627776 a2 w'
  generalize brt 1099511627776 a0 = r0 at *
  generalize brt 1099511627776 a1 = r1 at *
  generalize brt 1099511627776 a2 = r2 at *
  have ne1 : w.heap.size ≠ w.heap.size + 1 := by omega
  have H0 : H3 ((w.alloc (.cells #[.int .i64 a0, .int .i64 a1, .int .i64 a2] 24)).alloc (.cells #[.int .i64 0, .int .i64 0, .int .i64 0] 24)).drew w.heap.size (.int .i64 a0) (.int .i64 a1) (.int .i64 a2) := H3.drew (H3.alloc (h3_at rfl) _)
  obtain ⟨p0, p1, p2, p3, p4, p5, p6⟩ := H0
  go_enter Try.func5, Try.ntmps5
  go_wp2_with fail
  go_region_held (fun w' => w'.cell? ⟨w.heap.size, 0, none⟩ = some (.int .i64 a0) ∧ w'.cell? ⟨w.heap.size, 1, none⟩ = some (.int .i64 a1) ∧ w'.cell? ⟨w.heap.size, 2, none⟩ = some (.int .i64 a2)) (first | (go_keep; done) | (simp [go_sem]; done)) (first | (go_at_call_of 14 (Value.int IntKind.i64 a0); refine (B0.out _).mono ?_; rintro e wx ⟨rfl, hwx⟩; have hwy := hwx.symm; clear hwx; subst hwy) | (go_at_call_of 14 (Value.int IntKind.i64 a1); refine (B1.out _).mono ?_; rintro e wx ⟨rfl, hwx⟩; have hwy := hwx.symm; clear hwx; subst hwy) | (go_at_call_of 14 (Value.int IntKind.i64 a2); refine (B2.out _).mono ?_; rintro e wx ⟨rfl, hwx⟩; have hwy := hwx.symm; clear hwx; subst hwy))
  all_goals
    go_wp2_with fail
    exact bodyPost_ret (v := .agg #[.int .i64 r0, .int .i64 r1, .int .i64 r2]) (by simp [results, Try.results5, go_sem]) rfl ⟨rfl, by repeat (first | with_reducible assumption | with_reducible exact Ext.refl _ | with_reducible refine Ext.drew ?_ | with_reducible refine Ext.drewN ?_ _ | with_reducible refine Ext.alloc ?_ _ | with_reducible refine Ext.set ?_ (by first | exact Nat.le_refl _ | (dsimp only; omega) | (simp; done)) _)⟩

set_option maxHeartbeats 1000000 in
theorem brought_4294967296 (v : Int) (w : World) :
    Calls Try.prog 14 #[.int .i64 v, .int .i64 4294967296] w fun e w' => e = .returned (.int .i64 (brt 4294967296 v)) ∧ w' = w := by
  have hb := brt_bounds 4294967296 v (by omega)
  have hd : Hid (brt 4294967296 v = v % 18446744073709551616 % 8589934593 - 4294967296) := rfl
  obtain ⟨X, hX, hX0, hX1⟩ : ∃ X : Int, IntKind.u64.wrap v = X ∧ 0 ≤ X ∧ X ≤ 18446744073709551615 := ⟨_, rfl, by rw [IntKind.wrap_u64]; omega, by rw [IntKind.wrap_u64]; omega⟩
  have hE : Hid (X % 8589934593 - 4294967296 = brt 4294967296 v) := by
    show _ = _
    rw [hd.out, ← hX, IntKind.wrap_u64]
  have h1 : 0 ≤ X % 8589934593 := by omega
  have h2 : X % 8589934593 ≤ 8589934592 := by omega
  clear hd hb
  go_enter Try.func14, Try.ntmps14
  go_wp2_with fail
  go_ret
  exact ⟨ret_int hE.out, rfl⟩

set_option maxHeartbeats 4000000 in
theorem brvec_4294967296 (a0 a1 a2 : Int) (w : World) :
    Calls Try.prog 5 #[.agg #[.int .i64 a0, .int .i64 a1, .int .i64 a2], .int .i64 4294967296] w fun e w' => e = .returned (.agg #[.int .i64 (brt 4294967296 a0), .int .i64 (brt 4294967296 a1), .int .i64 (brt 4294967296 a2)]) ∧ Ext w w' := by
  have B0 : Hid (∀ w', Calls Try.prog 14 #[.int .i64 a0, .int .i64 4294967296] w' fun e w'' => e = .returned (.int .i64 (brt 4294967296 a0)) ∧ w'' = w') := fun w' => brought_4294967296 a0 w'
  have B1 : Hid (∀ w', Calls Try.prog 14 #[.int .i64 a1, .int .i64 4294967296] w' fun e w'' => e = .returned (.int .i64 (brt 4294967296 a1)) ∧ w'' = w') := fun w' => brought_4294967296 a1 w'
  have B2 : Hid (∀ w', Calls Try.prog 14 #[.int .i64 a2, .int .i64 4294967296] w' fun e w'' => e = .returned (.int .i64 (brt 4294967296 a2)) ∧ w'' = w') := fun w' => brought_4294967296 a2 w'
  generalize brt 4294967296 a0 = r0 at *
  generalize brt 4294967296 a1 = r1 at *
  generalize brt 4294967296 a2 = r2 at *
  have ne1 : w.heap.size ≠ w.heap.size + 1 := by omega
  have H0 : H3 ((w.alloc (.cells #[.int .i64 a0, .int .i64 a1, .int .i64 a2] 24)).alloc (.cells #[.int .i64 0, .int .i64 0, .int .i64 0] 24)).drew w.heap.size (.int .i64 a0) (.int .i64 a1) (.int .i64 a2) := H3.drew (H3.alloc (h3_at rfl) _)
  obtain ⟨p0, p1, p2, p3, p4, p5, p6⟩ := H0
  go_enter Try.func5, Try.ntmps5
  go_wp2_with fail
  go_region_held (fun w' => w'.cell? ⟨w.heap.size, 0, none⟩ = some (.int .i64 a0) ∧ w'.cell? ⟨w.heap.size, 1, none⟩ = some (.int .i64 a1) ∧ w'.cell? ⟨w.heap.size, 2, none⟩ = some (.int .i64 a2)) (first | (go_keep; done) | (simp [go_sem]; done)) (first | (go_at_call_of 14 (Value.int IntKind.i64 a0); refine (B0.out _).mono ?_; rintro e wx ⟨rfl, hwx⟩; have hwy := hwx.symm; clear hwx; subst hwy) | (go_at_call_of 14 (Value.int IntKind.i64 a1); refine (B1.out _).mono ?_; rintro e wx ⟨rfl, hwx⟩; have hwy := hwx.symm; clear hwx; subst hwy) | (go_at_call_of 14 (Value.int IntKind.i64 a2); refine (B2.out _).mono ?_; rintro e wx ⟨rfl, hwx⟩; have hwy := hwx.symm; clear hwx; subst hwy))
  all_goals
    go_wp2_with fail
    exact bodyPost_ret (v := .agg #[.int .i64 r0, .int .i64 r1, .int .i64 r2]) (by simp [results, Try.results5, go_sem]) rfl ⟨rfl, by repeat (first | with_reducible assumption | with_reducible exact Ext.refl _ | with_reducible refine Ext.drew ?_ | with_reducible refine Ext.drewN ?_ _ | with_reducible refine Ext.alloc ?_ _ | with_reducible refine Ext.set ?_ (by first | exact Nat.le_refl _ | (dsimp only; omega) | (simp; done)) _)⟩
end Go.Proofs.Ytllgknodgmgemaa
