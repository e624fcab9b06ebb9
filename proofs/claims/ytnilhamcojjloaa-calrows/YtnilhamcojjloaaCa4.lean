/- What the statements of layer 10 share: num, MayRaw, MayCal, Plain, Vec, Within, wakes. -/
import Derived.Test.YtnilhamcojjloaaCa3
import Derived.Test.YtnilhamcojjloaaMay
namespace Go.Proofs.Ytnilhamcojjloaa
open Go.RowKit Go.Shelf

set_option maxHeartbeats 400000 in
theorem num10_any (v : Int) (w : World) :
    Calls Try.prog 11 #[.int .i64 v] w fun e w' => e = .returned (.int .i64 v) ∧ w' = w := by
  go_enter Try.func11, Try.ntmps11
  go_wp2
  go_ret
  exact ⟨rfl, rfl⟩
set_option maxHeartbeats 400000 in
theorem in8_any (x a b : Int) (w : World) : Calls Try.prog 20 #[.int .i64 x, .int .i64 a, .int .i64 b] w fun e w' => e = .returned (.bool (inn x a b)) ∧ w' = w := by
  by_cases h1 : a ≤ x
  · by_cases h2 : x ≤ b
    · have e : Hid (inn x a b = true) := inn_iff.2 ⟨h1, h2⟩
      go_enter Try.func20, Try.ntmps20
      go_wp2
      go_ret
      rw [e.out]; exact ⟨rfl, rfl⟩
    · have e : Hid (inn x a b = false) := inn_not.2 (fun h => h2 h.2)
      go_enter Try.func20, Try.ntmps20
      go_wp2
      go_ret
      rw [e.out]; exact ⟨rfl, rfl⟩
  · have e : Hid (inn x a b = false) := inn_not.2 (fun h => h1 h.1)
    go_enter Try.func20, Try.ntmps20
    go_wp2
    go_ret
    rw [e.out]; exact ⟨rfl, rfl⟩
set_option maxRecDepth 20000 in
set_option maxHeartbeats 4000000 in
theorem mayraw_any (x y z t : Int) (w : World) : Calls Try.prog 8 #[.agg #[.int .i64 x, .int .i64 y, .int .i64 z, .int .i64 t]] w fun e w' => e = .returned (.bool (okR x y z t)) ∧ Ext w w' := by
  have HX : Hid (∀ w, Calls Try.prog 20 #[.int .i64 x, .int .i64 (-32768), .int .i64 32767] w fun e w' => e = .returned (.bool (inn x (-32768) 32767)) ∧ w' = w) := in8_any x _ _
  have HY : Hid (∀ w, Calls Try.prog 20 #[.int .i64 y, .int .i64 (-32768), .int .i64 32767] w fun e w' => e = .returned (.bool (inn y (-32768) 32767)) ∧ w' = w) := in8_any y _ _
  have HZ : Hid (∀ w, Calls Try.prog 20 #[.int .i64 z, .int .i64 (-32768), .int .i64 32767] w fun e w' => e = .returned (.bool (inn z (-32768) 32767)) ∧ w' = w) := in8_any z _ _
  have HT : Hid (∀ w, Calls Try.prog 20 #[.int .i64 t, .int .i64 (-128), .int .i64 127] w fun e w' => e = .returned (.bool (inn t (-128) 127)) ∧ w' = w) := in8_any t _ _
  have ex : Hid (okR x y z t = (inn x (-32768) 32767 && inn y (-32768) 32767 && inn z (-32768) 32767 && inn t (-128) 127)) := rfl
  generalize inn x (-32768) 32767 = p1 at *
  generalize inn y (-32768) 32767 = p2 at *
  generalize inn z (-32768) 32767 = p3 at *
  generalize inn t (-128) 127 = p4 at *
  generalize okR x y z t = R at *
  have hx : Ext w (w.alloc (.cells #[.int .i64 x, .int .i64 y, .int .i64 z, .int .i64 t] 29)) := (Ext.refl w).alloc _
  cases p1 <;> cases p2 <;> cases p3
  all_goals
    go_enter Try.func8, Try.ntmps8
    go_wp2_with (first | (go_at_call_of 20 (Value.int IntKind.i64 x); refine (HX.out _).mono ?_; rintro e wx ⟨rfl, hwx⟩; have hwy := hwx.symm; clear hwx; subst hwy) | (go_at_call_of 20 (Value.int IntKind.i64 y); refine (HY.out _).mono ?_; rintro e wx ⟨rfl, hwx⟩; have hwy := hwx.symm; clear hwx; subst hwy) | (go_at_call_of 20 (Value.int IntKind.i64 z); refine (HZ.out _).mono ?_; rintro e wx ⟨rfl, hwx⟩; have hwy := hwx.symm; clear hwx; subst hwy) | (go_at_call_of 20 (Value.int IntKind.i64 t); refine (HT.out _).mono ?_; rintro e wx ⟨rfl, hwx⟩; have hwy := hwx.symm; clear hwx; subst hwy))
    go_ret
    rw [ex.out]
    exact ⟨by first | rfl | simp, hx⟩
set_option maxHeartbeats 2000000 in
theorem mayv_any (x y z : Int) (w : World) :
    Calls Try.prog 19 #[.agg #[.int .i64 x, .int .i64 y, .int .i64 z]] w fun e w' => e = .returned (.bool (ok3 x y z)) ∧ Ext w w' := by
  have HM : Hid (∀ v w', Calls Try.prog 18 #[.int .i64 v] w' fun e w'' => e = .returned (.bool (okW v)) ∧ w'' = w') := may_any
  unfold ok3
  cases h0 : okW x
  · go_enter Try.func19, Try.ntmps19
    go_wp2_with (go_at_call 18; refine (HM.out _ _).mono ?_; rintro e wx ⟨rfl, hwx⟩; have hwy := hwx.symm; clear hwx; subst hwy)
    go_ret
    exact ⟨rfl, (Ext.refl _).alloc _⟩
  · cases h1 : okW y
    · go_enter Try.func19, Try.ntmps19
      go_wp2_with (go_at_call 18; refine (HM.out _ _).mono ?_; rintro e wx ⟨rfl, hwx⟩; have hwy := hwx.symm; clear hwx; subst hwy)
      go_ret
      exact ⟨rfl, (Ext.refl _).alloc _⟩
    · go_enter Try.func19, Try.ntmps19
      go_wp2_with (go_at_call 18; refine (HM.out _ _).mono ?_; rintro e wx ⟨rfl, hwx⟩; have hwy := hwx.symm; clear hwx; subst hwy)
      go_ret
      exact ⟨rfl, (Ext.refl _).alloc _⟩


/-- a number brought to from -m to m -/
def brt (m v : Int) : Int := v % 18446744073709551616 % (2 * m + 1) - m
theorem brt_bounds (m v : Int) (h : 0 ≤ m) : -m ≤ brt m v ∧ brt m v ≤ m := by
  have h1 := Int.emod_nonneg (v % 18446744073709551616) (show 2 * m + 1 ≠ 0 by omega)
  have h2 := Int.emod_lt_of_pos (v % 18446744073709551616) (show 0 < 2 * m + 1 by omega)
  unfold brt
  omega


set_option maxHeartbeats 1000000 in
theorem brought_1073741824 (v : Int) (w : World) :
    Calls Try.prog 33 #[.int .i64 v, .int .i64 1073741824] w fun e w' => e = .returned (.int .i64 (brt 1073741824 v)) ∧ w' = w := by
  have hb := brt_bounds 1073741824 v (by omega)
  have hd : Hid (brt 1073741824 v = v % 18446744073709551616 % 2147483649 - 1073741824) := rfl
  obtain ⟨X, hX, hX0, hX1⟩ : ∃ X : Int, IntKind.u64.wrap v = X ∧ 0 ≤ X ∧ X ≤ 18446744073709551615 := ⟨_, rfl, by rw [IntKind.wrap_u64]; omega, by rw [IntKind.wrap_u64]; omega⟩
  have hE : Hid (X % 2147483649 - 1073741824 = brt 1073741824 v) := by
    show _ = _
    rw [hd.out, ← hX, IntKind.wrap_u64]
  have h1 : 0 ≤ X % 2147483649 := by omega
  have h2 : X % 2147483649 ≤ 2147483648 := by omega
  clear hd hb
  go_enter Try.func33, Try.ntmps33
  go_wp2_with fail
  go_ret
  exact ⟨ret_int hE.out, rfl⟩

set_option maxHeartbeats 4000000 in
theorem brvec_1073741824 (a0 a1 a2 : Int) (w : World) :
    Calls Try.prog 16 #[.agg #[.int .i64 a0, .int .i64 a1, .int .i64 a2], .int .i64 1073741824] w fun e w' => e = .returned (.agg #[.int .i64 (brt 1073741824 a0), .int .i64 (brt 1073741824 a1), .int .i64 (brt 1073741824 a2)]) ∧ Ext w w' := by
  have B0 : Hid (∀ w', Calls Try.prog 33 #[.int .i64 a0, .int .i64 1073741824] w' fun e w'' => e = .returned (.int .i64 (brt 1073741824 a0)) ∧ w'' = w') := fun w' => brought_1073741824 a0 w'
  have B1 : Hid (∀ w', Calls Try.prog 33 #[.int .i64 a1, .int .i64 1073741824] w' fun e w'' => e = .returned (.int .i64 (brt 1073741824 a1)) ∧ w'' = w') := fun w' => brought_1073741824 a1 w'
  have B2 : Hid (∀ w', Calls Try.prog 33 #[.int .i64 a2, .int .i64 1073741824] w' fun e w'' => e = .returned (.int .i64 (brt 1073741824 a2)) ∧ w'' = w') := fun w' => brought_1073741824 a2 w'
  generalize brt 1073741824 a0 = r0 at *
  generalize brt 1073741824 a1 = r1 at *
  generalize brt 1073741824 a2 = r2 at *
  have ne1 : w.heap.size ≠ w.heap.size + 1 := by omega
  have H0 : H3 ((w.alloc (.cells #[.int .i64 a0, .int .i64 a1, .int .i64 a2] 24)).alloc (.cells #[.int .i64 0, .int .i64 0, .int .i64 0] 24)).drew w.heap.size (.int .i64 a0) (.int .i64 a1) (.int .i64 a2) := H3.drew (H3.alloc (h3_at rfl) _)
  obtain ⟨p0, p1, p2, p3, p4, p5, p6⟩ := H0
  go_enter Try.func16, Try.ntmps16
  go_wp2_with fail
  go_region_held (fun w' => w'.cell? ⟨w.heap.size, 0, none⟩ = some (.int .i64 a0) ∧ w'.cell? ⟨w.heap.size, 1, none⟩ = some (.int .i64 a1) ∧ w'.cell? ⟨w.heap.size, 2, none⟩ = some (.int .i64 a2)) (first | (go_keep; done) | (simp [go_sem]; done)) (first | (go_at_call_of 33 (Value.int IntKind.i64 a0); refine (B0.out _).mono ?_; rintro e wx ⟨rfl, hwx⟩; have hwy := hwx.symm; clear hwx; subst hwy) | (go_at_call_of 33 (Value.int IntKind.i64 a1); refine (B1.out _).mono ?_; rintro e wx ⟨rfl, hwx⟩; have hwy := hwx.symm; clear hwx; subst hwy) | (go_at_call_of 33 (Value.int IntKind.i64 a2); refine (B2.out _).mono ?_; rintro e wx ⟨rfl, hwx⟩; have hwy := hwx.symm; clear hwx; subst hwy))
  all_goals
    go_wp2_with fail
    exact bodyPost_ret (v := .agg #[.int .i64 r0, .int .i64 r1, .int .i64 r2]) (by simp [results, Try.results16, go_sem]) rfl ⟨rfl, by repeat (first | with_reducible assumption | with_reducible exact Ext.refl _ | with_reducible refine Ext.drew ?_ | with_reducible refine Ext.drewN ?_ _ | with_reducible refine Ext.alloc ?_ _ | with_reducible refine Ext.set ?_ (by first | exact Nat.le_refl _ | (dsimp only; omega) | (simp; done)) _)⟩


set_option maxHeartbeats 1000000 in
theorem brought_1099511627776 (v : Int) (w : World) :
    Calls Try.prog 33 #[.int .i64 v, .int .i64 1099511627776] w fun e w' => e = .returned (.int .i64 (brt 1099511627776 v)) ∧ w' = w := by
  have hb := brt_bounds 1099511627776 v (by omega)
  have hd : Hid (brt 1099511627776 v = v % 18446744073709551616 % 2199023255553 - 1099511627776) := rfl
  obtain ⟨X, hX, hX0, hX1⟩ : ∃ X : Int, IntKind.u64.wrap v = X ∧ 0 ≤ X ∧ X ≤ 18446744073709551615 := ⟨_, rfl, by rw [IntKind.wrap_u64]; omega, by rw [IntKind.wrap_u64]; omega⟩
  have hE : Hid (X % 2199023255553 - 1099511627776 = brt 1099511627776 v) := by
    show _ = _
    rw [hd.out, ← hX, IntKind.wrap_u64]
  have h1 : 0 ≤ X % 2199023255553 := by omega
  have h2 : X % 2199023255553 ≤ 2199023255552 := by omega
  clear hd hb
  go_enter Try.func33, Try.ntmps33
  go_wp2_with fail
  go_ret
  exact ⟨ret_int hE.out, rfl⟩

set_option maxHeartbeats 4000000 in
theorem brvec_1099511627776 (a0 a1 a2 : Int) (w : World) :
    Calls Try.prog 16 #[.agg #[.int .i64 a0, .int .i64 a1, .int .i64 a2], .int .i64 1099511627776] w fun e w' => e = .returned (.agg #[.int .i64 (brt 1099511627776 a0), .int .i64 (brt 1099511627776 a1), .int .i64 (brt 1099511627776 a2)]) ∧ Ext w w' := by
  have B0 : Hid (∀ w', Calls Try.prog 33 #[.int .i64 a0, .int .i64 1099511627776] w' fun e w'' => e = .returned (.int .i64 (brt 1099511627776 a0)) ∧ w'' = w') := fun w' => brought_1099511627776 a0 w'
  have B1 : Hid (∀ w', Calls Try.prog 33 #[.int .i64 a1, .int .i64 1099511627776] w' fun e w'' => e = .returned (.int .i64 (brt 1099511627776 a1)) ∧ w'' = w') := fun w' => brought_1099511627776 a1 w'
  have B2 : Hid (∀ w', Calls Try.prog 33 #[.int .i64 a2, .int .i64 1099511627776] w' fun e w'' => e = .returned (.int .i64 (brt 1099511627776 a2)) ∧ w'' = w') := fun w' => brought_1099511627776 a2 w'
  generalize brt 1099511627776 a0 = r0 at *
  generalize brt 1099511627776 a1 = r1 at *
  generalize brt 1099511627776 a2 = r2 at *
  have ne1 : w.heap.size ≠ w.heap.size + 1 := by omega
  have H0 : H3 ((w.alloc (.cells #[.int .i64 a0, .int .i64 a1, .int .i64 a2] 24)).alloc (.cells #[.int .i64 0, .int .i64 0, .int .i64 0] 24)).drew w.heap.size (.int .i64 a0) (.int .i64 a1) (.int .i64 a2) := H3.drew (H3.alloc (h3_at rfl) _)
  obtain ⟨p0, p1, p2, p3, p4, p5, p6⟩ := H0
  go_enter Try.func16, Try.ntmps16
  go_wp2_with fail
  go_region_held (fun w' => w'.cell? ⟨w.heap.size, 0, none⟩ = some (.int .i64 a0) ∧ w'.cell? ⟨w.heap.size, 1, none⟩ = some (.int .i64 a1) ∧ w'.cell? ⟨w.heap.size, 2, none⟩ = some (.int .i64 a2)) (first | (go_keep; done) | (simp [go_sem]; done)) (first | (go_at_call_of 33 (Value.int IntKind.i64 a0); refine (B0.out _).mono ?_; rintro e wx ⟨rfl, hwx⟩; have hwy := hwx.symm; clear hwx; subst hwy) | (go_at_call_of 33 (Value.int IntKind.i64 a1); refine (B1.out _).mono ?_; rintro e wx ⟨rfl, hwx⟩; have hwy := hwx.symm; clear hwx; subst hwy) | (go_at_call_of 33 (Value.int IntKind.i64 a2); refine (B2.out _).mono ?_; rintro e wx ⟨rfl, hwx⟩; have hwy := hwx.symm; clear hwx; subst hwy))
  all_goals
    go_wp2_with fail
    exact bodyPost_ret (v := .agg #[.int .i64 r0, .int .i64 r1, .int .i64 r2]) (by simp [results, Try.results16, go_sem]) rfl ⟨rfl, by repeat (first | with_reducible assumption | with_reducible exact Ext.refl _ | with_reducible refine Ext.drew ?_ | with_reducible refine Ext.drewN ?_ _ | with_reducible refine Ext.alloc ?_ _ | with_reducible refine Ext.set ?_ (by first | exact Nat.le_refl _ | (dsimp only; omega) | (simp; done)) _)⟩


set_option maxHeartbeats 1000000 in
theorem within_256 (v : Int) (w : World) :
    Calls Try.prog 17 #[.int .i64 v, .int .i64 256] w fun e w' => e = .returned (.int .i64 (v % 256)) ∧ w' = w := by
  obtain ⟨X, hX, hX0, hX1⟩ : ∃ X : Int, IntKind.u64.wrap v = X ∧ 0 ≤ X ∧ X ≤ 18446744073709551615 := ⟨_, rfl, by rw [IntKind.wrap_u64]; omega, by rw [IntKind.wrap_u64]; omega⟩
  have hE : Hid (X % 256 = v % 256) := by
    show _ = _
    rw [← hX, IntKind.wrap_u64]; omega
  have h1 : 0 ≤ X % 256 := by omega
  have h2 : X % 256 ≤ 255 := by omega
  go_enter Try.func17, Try.ntmps17
  go_wp2_with fail
  go_ret
  exact ⟨ret_int hE.out, rfl⟩
set_option maxRecDepth 20000 in
set_option maxHeartbeats 1000000 in
theorem plain_any (w : World) : Calls Try.prog 13 #[] w fun e w' => e = .returned (.agg #[.int .i64 0, .int .i64 0, .int .i64 0, .int .i64 0, .int .i64 0, .int .i64 0, .int .i64 0, .int .i64 1073741824, .int .i64 0, .int .i64 0, .int .i64 0, .int .i64 1073741824, .int .i64 0, .int .i64 0, .int .i64 0, .int .i64 1073741824]) ∧ Ext w w' := by
  go_enter Try.func13, Try.ntmps13
  go_wp2_with fail
  exact bodyPost_ret (v := .agg #[.int .i64 0, .int .i64 0, .int .i64 0, .int .i64 0, .int .i64 0, .int .i64 0, .int .i64 0, .int .i64 1073741824, .int .i64 0, .int .i64 0, .int .i64 0, .int .i64 1073741824, .int .i64 0, .int .i64 0, .int .i64 0, .int .i64 1073741824]) (by simp [results, Try.results13, go_sem]) rfl ⟨rfl, by repeat (first | with_reducible assumption | with_reducible exact Ext.refl _ | with_reducible refine Ext.drew ?_ | with_reducible refine Ext.drewN ?_ _ | with_reducible refine Ext.alloc ?_ _ | with_reducible refine Ext.set ?_ (by first | exact Nat.le_refl _ | (dsimp only; omega) | (simp; done)) _)⟩
set_option maxRecDepth 20000 in
set_option maxHeartbeats 1000000 in
theorem rplain_any (w : World) : Calls Try.prog 14 #[] w fun e w' => e = .returned (.agg #[.int .i64 0, .int .i64 0, .int .i64 0, .int .i64 0, .int .i64 0, .int .i64 0, .int .i64 0, .int .i64 1073741824, .int .i64 0, .int .i64 0, .int .i64 0, .int .i64 1073741824, .int .i64 0, .int .i64 0, .int .i64 0, .int .i64 1073741824]) ∧ Ext w w' := by
  go_enter Try.func14, Try.ntmps14
  go_wp2_with fail
  exact bodyPost_ret (v := .agg #[.int .i64 0, .int .i64 0, .int .i64 0, .int .i64 0, .int .i64 0, .int .i64 0, .int .i64 0, .int .i64 1073741824, .int .i64 0, .int .i64 0, .int .i64 0, .int .i64 1073741824, .int .i64 0, .int .i64 0, .int .i64 0, .int .i64 1073741824]) (by simp [results, Try.results14, go_sem]) rfl ⟨rfl, by repeat (first | with_reducible assumption | with_reducible exact Ext.refl _ | with_reducible refine Ext.drew ?_ | with_reducible refine Ext.drewN ?_ _ | with_reducible refine Ext.alloc ?_ _ | with_reducible refine Ext.set ?_ (by first | exact Nat.le_refl _ | (dsimp only; omega) | (simp; done)) _)⟩

/-- a matrix with a on its diagonal -/
def dg (a : Int) : Nat → Int
  | 0 => a
  | 4 => a
  | 8 => a
  | _ => 0
theorem nearQ_whole (z : Int) : nearQ (z * 1073741824) = z := by
  unfold nearQ oddQ; omega
theorem okW_of {a : Int} (h1 : -35184372088832 < a) (h2 : a < 35184372088832) : okW a = true := by
  unfold okW; simp; omega
theorem vres_ok {s0 s1 s2 : Int} (h : ok3 s0 s1 s2 = true) : vres s0 s1 s2 = .tuple #[.agg #[.int .i64 s0, .int .i64 s1, .int .i64 s2], .int .i64 0] := by unfold vres; rw [if_pos h]
theorem okM_dg {a : Int} (h : okW a = true) : okM (dg a) = true := by
  have h0 : okW 0 = true := by decide
  unfold okM dg; simp only [h, h0]; rfl
theorem rowU_dg (k : Int) (u : Nat → Int) (i : Nat) (hi : i < 3) : nearQ (rowU (dg (k * 1073741824)) u i) = k * u i := by
  have e : rowU (dg (k * 1073741824)) u i = k * u i * 1073741824 := by
    rw [rowU_eq]
    match i, hi with
    | 0, _ => show u 0 * (k * 1073741824) + u 1 * 0 + u 2 * 0 = _; rw [Int.mul_zero, Int.mul_zero, Int.add_zero, Int.add_zero, ← Int.mul_assoc, Int.mul_comm (u 0) k]
    | 1, _ => show u 0 * 0 + u 1 * (k * 1073741824) + u 2 * 0 = _; rw [Int.mul_zero, Int.mul_zero, Int.add_zero, Int.zero_add, ← Int.mul_assoc, Int.mul_comm (u 1) k]
    | 2, _ => show u 0 * 0 + u 1 * 0 + u 2 * (k * 1073741824) = _; rw [Int.mul_zero, Int.mul_zero, Int.add_zero, Int.zero_add, ← Int.mul_assoc, Int.mul_comm (u 2) k]
  rw [e, nearQ_whole]
/-- what the matrix with k on its diagonal tells -/
theorem calR_dg (k : Int) (b0 b1 b2 h0 h1 h2 rf x y z t : Int) (hk : k = 1 ∨ k = 2) (hr : okR x y z t = true) (hf : -128 ≤ rf ∧ rf ≤ 127) (hb : ok3 b0 b1 b2 = true) (hh : ok3 h0 h1 h2 = true)
    (hw : ok3 (k * clr x b0 h0 (t - rf)) (k * clr y b1 h1 (t - rf)) (k * clr z b2 h2 (t - rf)) = true) :
    calR b0 b1 b2 h0 h1 h2 rf (dg (k * 1073741824)) x y z t = .tuple #[.agg #[.int .i64 (k * clr x b0 h0 (t - rf)), .int .i64 (k * clr y b1 h1 (t - rf)), .int .i64 (k * clr z b2 h2 (t - rf))], .int .i64 0] := by
  have hc : okC b0 b1 b2 h0 h1 h2 rf (dg (k * 1073741824)) = true := by
    unfold okC; rw [inn_iff.2 hf, hb, hh, okM_dg (okW_of (by omega) (by omega))]; rfl
  unfold calR
  rw [hc, hr, rowU_dg k _ 0 (by omega), rowU_dg k _ 1 (by omega), rowU_dg k _ 2 (by omega)]
  exact vres_ok hw
set_option maxRecDepth 20000 in
set_option maxHeartbeats 1000000 in
theorem wakes10_any (w : World) :
    Calls Try.prog 15 #[] w fun e w' => e = .returned (.bool true) ∧ Ext w w' := by
  have HA : Hid (∀ w', Calls Try.prog 10 #[.agg #[.int .i64 0, .int .i64 0, .int .i64 0, .int .i64 0, .int .i64 0, .int .i64 0, .int .i64 0, .int .i64 1073741824, .int .i64 0, .int .i64 0, .int .i64 0, .int .i64 1073741824, .int .i64 0, .int .i64 0, .int .i64 0, .int .i64 1073741824], .agg #[.int .i64 1, .int .i64 2, .int .i64 3, .int .i64 0]] w' fun e w'' => e = .returned (.tuple #[.agg #[.int .i64 1024, .int .i64 2048, .int .i64 3072], .int .i64 0]) ∧ Ext w' w'') := fun w' => by
    have h := cApply_any 0 0 0 0 0 0 0 (dg (1 * 1073741824)) 1 2 3 0 w'
    rw [calR_dg 1 0 0 0 0 0 0 0 1 2 3 0 (.inl rfl) (by decide) (by decide) (by decide) (by decide) (by decide)] at h
    exact h
  have HP : Hid _ := plain_any
  go_enter Try.func15, Try.ntmps15
  go_wp2_with fail
  refine (HP.out _).mono ?_
  rintro e w1 ⟨rfl, x1⟩
  go_wp2_with fail
  refine (HA.out _).mono ?_
  rintro e w2 ⟨rfl, x2⟩
  have X2 : Ext w w2 := x1.trans x2
  go_wp2_with (go_at_call 11; refine (num10_any _ _).mono ?_; rintro e wx ⟨rfl, hwx⟩; have hwy := hwx.symm; clear hwx; subst hwy)
  go_ret
  exact ⟨rfl, by repeat (first | with_reducible assumption | with_reducible exact Ext.refl _ | with_reducible refine Ext.drew ?_ | with_reducible refine Ext.drewN ?_ _ | with_reducible refine Ext.alloc ?_ _ | with_reducible refine Ext.set ?_ (by first | exact Nat.le_refl _ | (dsimp only; omega) | (simp; done)) _)⟩
end Go.Proofs.Ytnilhamcojjloaa
