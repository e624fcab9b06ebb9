/- What the statements of layer 18 share: num, Within, Vec, wakes. -/
import Derived.Test.YtojcndgoihkfnaaTp2m
import Derived.Test.YtojcndgoihkfnaaMaym
namespace Go.Proofs.Ytojcndgoihkfnaa
open Go.RowKit Go.Shelf
/-- a bool, or a number that a word of 64 bits may hold -/
def kd (b : Bool) (v : Value) : Prop := if b then ∃ x : Bool, v = .bool x else ∃ m : Int, v = .int .i64 m ∧ -9223372036854775808 ≤ m ∧ m ≤ 9223372036854775807
/-- a list of things of n cells each, of kinds k -/
def ML (n : Nat) (k : Nat → Bool) (w : World) (b off len : Nat) (C : Nat → Nat → Value) : Prop :=
  ∀ i, i < len → ∀ j, j < n → w.cell? ⟨b, off + i * n + j, none⟩ = some (C i j) ∧ kd (k j) (C i j)
theorem ML.ext {n : Nat} {k : Nat → Bool} {w w' : World} {b off len : Nat} {C : Nat → Nat → Value} (h : ML n k w b off len C) (hx : Ext w w') : ML n k w' b off len C := by
  intro i hi j hj
  obtain ⟨h1, h2⟩ := h i hi j hj
  refine ⟨?_, h2⟩
  rw [(hx.lay).1 b _ (cell_lt h1)]
  exact h1
theorem ML.num {n : Nat} {k : Nat → Bool} {w : World} {b off len : Nat} {C : Nat → Nat → Value} (h : ML n k w b off len C) {i : Nat} (hi : i < len) {j : Nat} (hj : j < n) (hk : k j = false) : ∃ m : Int, w.cell? ⟨b, off + i * n + j, none⟩ = some (.int .i64 m) ∧ -9223372036854775808 ≤ m ∧ m ≤ 9223372036854775807 := by
  obtain ⟨h1, h2⟩ := h i hi j hj
  unfold kd at h2
  rw [hk, if_neg (by simp)] at h2
  obtain ⟨m, e, hb⟩ := h2
  exact ⟨m, by rw [h1, e], hb⟩
theorem ML.bool {n : Nat} {k : Nat → Bool} {w : World} {b off len : Nat} {C : Nat → Nat → Value} (h : ML n k w b off len C) {i : Nat} (hi : i < len) {j : Nat} (hj : j < n) (hk : k j = true) : ∃ x : Bool, w.cell? ⟨b, off + i * n + j, none⟩ = some (.bool x) := by
  obtain ⟨h1, h2⟩ := h i hi j hj
  unfold kd at h2
  rw [hk, if_pos rfl] at h2
  obtain ⟨m, e⟩ := h2
  exact ⟨m, by rw [h1, e]⟩
set_option maxHeartbeats 400000 in
theorem num18_any (v : Int) (w : World) :
    Calls Try.prog 9 #[.int .i64 v] w fun e w' => e = .returned (.int .i64 v) ∧ w' = w := by
  go_enter Try.func9, Try.ntmps9
  go_wp2
  go_ret
  exact ⟨rfl, rfl⟩
set_option maxHeartbeats 2000000 in
theorem mayv_any (x y z : Int) (w : World) :
    Calls Try.prog 12 #[.agg #[.int .i64 x, .int .i64 y, .int .i64 z]] w fun e w' => e = .returned (.bool (ok3 x y z)) ∧ Ext w w' := by
  have HM : Hid (∀ v w', Calls Try.prog 23 #[.int .i64 v] w' fun e w'' => e = .returned (.bool (okW v)) ∧ w'' = w') := may_any
  unfold ok3
  cases h0 : okW x
  · go_enter Try.func12, Try.ntmps12
    go_wp2_with (go_at_call 23; refine (HM.out _ _).mono ?_; rintro e wx ⟨rfl, hwx⟩; have hwy := hwx.symm; clear hwx; subst hwy)
    go_ret
    exact ⟨rfl, (Ext.refl _).alloc _⟩
  · cases h1 : okW y
    · go_enter Try.func12, Try.ntmps12
      go_wp2_with (go_at_call 23; refine (HM.out _ _).mono ?_; rintro e wx ⟨rfl, hwx⟩; have hwy := hwx.symm; clear hwx; subst hwy)
      go_ret
      exact ⟨rfl, (Ext.refl _).alloc _⟩
    · go_enter Try.func12, Try.ntmps12
      go_wp2_with (go_at_call 23; refine (HM.out _ _).mono ?_; rintro e wx ⟨rfl, hwx⟩; have hwy := hwx.symm; clear hwx; subst hwy)
      go_ret
      exact ⟨rfl, (Ext.refl _).alloc _⟩


/-- a number brought to from -m to m -/
def brt (m v : Int) : Int := v % 18446744073709551616 % (2 * m + 1) - m
theorem brt_bounds (m v : Int) (h : 0 ≤ m) : -m ≤ brt m v ∧ brt m v ≤ m := by
  have h1 := Int.emod_nonneg (v % 18446744073709551616) (show 2 * m + 1 ≠ 0 by omega)
  have h2 := Int.emod_lt_of_pos (v % 18446744073709551616) (show 0 < 2 * m + 1 by omega)
  unfold brt
  omega


set_option maxHeartbeats 1000000 in
theorem brought_4903325 (v : Int) (w : World) :
    Calls Try.prog 15 #[.int .i64 v, .int .i64 4903325] w fun e w' => e = .returned (.int .i64 (brt 4903325 v)) ∧ w' = w := by
  have hb := brt_bounds 4903325 v (by omega)
  have hd : Hid (brt 4903325 v = v % 18446744073709551616 % 9806651 - 4903325) := rfl
  obtain ⟨X, hX, hX0, hX1⟩ : ∃ X : Int, IntKind.u64.wrap v = X ∧ 0 ≤ X ∧ X ≤ 18446744073709551615 := ⟨_, rfl, by rw [IntKind.wrap_u64]; omega, by rw [IntKind.wrap_u64]; omega⟩
  have hE : Hid (X % 9806651 - 4903325 = brt 4903325 v) := by
    show _ = _
    rw [hd.out, ← hX, IntKind.wrap_u64]
  have h1 : 0 ≤ X % 9806651 := by omega
  have h2 : X % 9806651 ≤ 9806650 := by omega
  clear hd hb
  go_enter Try.func15, Try.ntmps15
  go_wp2_with fail
  go_ret
  exact ⟨ret_int hE.out, rfl⟩

set_option maxHeartbeats 4000000 in
theorem brvec_4903325 (a0 a1 a2 : Int) (w : World) :
    Calls Try.prog 6 #[.agg #[.int .i64 a0, .int .i64 a1, .int .i64 a2], .int .i64 4903325] w fun e w' => e = .returned (.agg #[.int .i64 (brt 4903325 a0), .int .i64 (brt 4903325 a1), .int .i64 (brt 4903325 a2)]) ∧ Ext w w' := by
  have B0 : Hid (∀ w', Calls Try.prog 15 #[.int .i64 a0, .int .i64 4903325] w' fun e w'' => e = .returned (.int .i64 (brt 4903325 a0)) ∧ w'' = w') := fun w' => brought_4903325 a0 w'
  have B1 : Hid (∀ w', Calls Try.prog 15 #[.int .i64 a1, .int .i64 4903325] w' fun e w'' => e = .returned (.int .i64 (brt 4903325 a1)) ∧ w'' = w') := fun w' => brought_4903325 a1 w'
  have B2 : Hid (∀ w', Calls Try.prog 15 #[.int .i64 a2, .int .i64 4903325] w' fun e w'' => e = .returned (.int .i64 (brt 4903325 a2)) ∧ w'' = w') := fun w' => brought_4903325 a2 w'
  generalize brt 4903325 a0 = r0 at *
  generalize brt 4903325 a1 = r1 at *
  generalize brt 4903325 a2 = r2 at *
  have ne1 : w.heap.size ≠ w.heap.size + 1 := by omega
  have H0 : H3 ((w.alloc (.cells #[.int .i64 a0, .int .i64 a1, .int .i64 a2] 24)).alloc (.cells #[.int .i64 0, .int .i64 0, .int .i64 0] 24)).drew w.heap.size (.int .i64 a0) (.int .i64 a1) (.int .i64 a2) := H3.drew (H3.alloc (h3_at rfl) _)
  obtain ⟨p0, p1, p2, p3, p4, p5, p6⟩ := H0
  go_enter Try.func6, Try.ntmps6
  go_wp2_with fail
  go_region_held (fun w' => w'.cell? ⟨w.heap.size, 0, none⟩ = some (.int .i64 a0) ∧ w'.cell? ⟨w.heap.size, 1, none⟩ = some (.int .i64 a1) ∧ w'.cell? ⟨w.heap.size, 2, none⟩ = some (.int .i64 a2)) (first | (go_keep; done) | (simp [go_sem]; done)) (first | (go_at_call_of 15 (Value.int IntKind.i64 a0); refine (B0.out _).mono ?_; rintro e wx ⟨rfl, hwx⟩; have hwy := hwx.symm; clear hwx; subst hwy) | (go_at_call_of 15 (Value.int IntKind.i64 a1); refine (B1.out _).mono ?_; rintro e wx ⟨rfl, hwx⟩; have hwy := hwx.symm; clear hwx; subst hwy) | (go_at_call_of 15 (Value.int IntKind.i64 a2); refine (B2.out _).mono ?_; rintro e wx ⟨rfl, hwx⟩; have hwy := hwx.symm; clear hwx; subst hwy))
  all_goals
    go_wp2_with fail
    exact bodyPost_ret (v := .agg #[.int .i64 r0, .int .i64 r1, .int .i64 r2]) (by simp [results, Try.results6, go_sem]) rfl ⟨rfl, by repeat (first | with_reducible assumption | with_reducible exact Ext.refl _ | with_reducible refine Ext.drew ?_ | with_reducible refine Ext.drewN ?_ _ | with_reducible refine Ext.alloc ?_ _ | with_reducible refine Ext.set ?_ (by first | exact Nat.le_refl _ | (dsimp only; omega) | (simp; done)) _)⟩


set_option maxHeartbeats 1000000 in
theorem brought_19613300 (v : Int) (w : World) :
    Calls Try.prog 15 #[.int .i64 v, .int .i64 19613300] w fun e w' => e = .returned (.int .i64 (brt 19613300 v)) ∧ w' = w := by
  have hb := brt_bounds 19613300 v (by omega)
  have hd : Hid (brt 19613300 v = v % 18446744073709551616 % 39226601 - 19613300) := rfl
  obtain ⟨X, hX, hX0, hX1⟩ : ∃ X : Int, IntKind.u64.wrap v = X ∧ 0 ≤ X ∧ X ≤ 18446744073709551615 := ⟨_, rfl, by rw [IntKind.wrap_u64]; omega, by rw [IntKind.wrap_u64]; omega⟩
  have hE : Hid (X % 39226601 - 19613300 = brt 19613300 v) := by
    show _ = _
    rw [hd.out, ← hX, IntKind.wrap_u64]
  have h1 : 0 ≤ X % 39226601 := by omega
  have h2 : X % 39226601 ≤ 39226600 := by omega
  clear hd hb
  go_enter Try.func15, Try.ntmps15
  go_wp2_with fail
  go_ret
  exact ⟨ret_int hE.out, rfl⟩

set_option maxHeartbeats 4000000 in
theorem brvec_19613300 (a0 a1 a2 : Int) (w : World) :
    Calls Try.prog 6 #[.agg #[.int .i64 a0, .int .i64 a1, .int .i64 a2], .int .i64 19613300] w fun e w' => e = .returned (.agg #[.int .i64 (brt 19613300 a0), .int .i64 (brt 19613300 a1), .int .i64 (brt 19613300 a2)]) ∧ Ext w w' := by
  have B0 : Hid (∀ w', Calls Try.prog 15 #[.int .i64 a0, .int .i64 19613300] w' fun e w'' => e = .returned (.int .i64 (brt 19613300 a0)) ∧ w'' = w') := fun w' => brought_19613300 a0 w'
  have B1 : Hid (∀ w', Calls Try.prog 15 #[.int .i64 a1, .int .i64 19613300] w' fun e w'' => e = .returned (.int .i64 (brt 19613300 a1)) ∧ w'' = w') := fun w' => brought_19613300 a1 w'
  have B2 : Hid (∀ w', Calls Try.prog 15 #[.int .i64 a2, .int .i64 19613300] w' fun e w'' => e = .returned (.int .i64 (brt 19613300 a2)) ∧ w'' = w') := fun w' => brought_19613300 a2 w'
  generalize brt 19613300 a0 = r0 at *
  generalize brt 19613300 a1 = r1 at *
  generalize brt 19613300 a2 = r2 at *
  have ne1 : w.heap.size ≠ w.heap.size + 1 := by omega
  have H0 : H3 ((w.alloc (.cells #[.int .i64 a0, .int .i64 a1, .int .i64 a2] 24)).alloc (.cells #[.int .i64 0, .int .i64 0, .int .i64 0] 24)).drew w.heap.size (.int .i64 a0) (.int .i64 a1) (.int .i64 a2) := H3.drew (H3.alloc (h3_at rfl) _)
  obtain ⟨p0, p1, p2, p3, p4, p5, p6⟩ := H0
  go_enter Try.func6, Try.ntmps6
  go_wp2_with fail
  go_region_held (fun w' => w'.cell? ⟨w.heap.size, 0, none⟩ = some (.int .i64 a0) ∧ w'.cell? ⟨w.heap.size, 1, none⟩ = some (.int .i64 a1) ∧ w'.cell? ⟨w.heap.size, 2, none⟩ = some (.int .i64 a2)) (first | (go_keep; done) | (simp [go_sem]; done)) (first | (go_at_call_of 15 (Value.int IntKind.i64 a0); refine (B0.out _).mono ?_; rintro e wx ⟨rfl, hwx⟩; have hwy := hwx.symm; clear hwx; subst hwy) | (go_at_call_of 15 (Value.int IntKind.i64 a1); refine (B1.out _).mono ?_; rintro e wx ⟨rfl, hwx⟩; have hwy := hwx.symm; clear hwx; subst hwy) | (go_at_call_of 15 (Value.int IntKind.i64 a2); refine (B2.out _).mono ?_; rintro e wx ⟨rfl, hwx⟩; have hwy := hwx.symm; clear hwx; subst hwy))
  all_goals
    go_wp2_with fail
    exact bodyPost_ret (v := .agg #[.int .i64 r0, .int .i64 r1, .int .i64 r2]) (by simp [results, Try.results6, go_sem]) rfl ⟨rfl, by repeat (first | with_reducible assumption | with_reducible exact Ext.refl _ | with_reducible refine Ext.drew ?_ | with_reducible refine Ext.drewN ?_ _ | with_reducible refine Ext.alloc ?_ _ | with_reducible refine Ext.set ?_ (by first | exact Nat.le_refl _ | (dsimp only; omega) | (simp; done)) _)⟩


set_option maxHeartbeats 1000000 in
theorem within_90 (v : Int) (w : World) :
    Calls Try.prog 7 #[.int .i64 v, .int .i64 90] w fun e w' => e = .returned (.int .i64 (v % 18446744073709551616 % 90)) ∧ w' = w := by
  obtain ⟨X, hX, hX0, hX1⟩ : ∃ X : Int, IntKind.u64.wrap v = X ∧ 0 ≤ X ∧ X ≤ 18446744073709551615 := ⟨_, rfl, by rw [IntKind.wrap_u64]; omega, by rw [IntKind.wrap_u64]; omega⟩
  have hE : Hid (X % 90 = v % 18446744073709551616 % 90) := by
    show _ = _
    rw [← hX, IntKind.wrap_u64]
  have h1 : 0 ≤ X % 90 := by omega
  have h2 : X % 90 ≤ 89 := by omega
  go_enter Try.func7, Try.ntmps7
  go_wp2_with fail
  go_ret
  exact ⟨ret_int hE.out, rfl⟩
set_option maxHeartbeats 1000000 in
theorem within_3 (v : Int) (w : World) :
    Calls Try.prog 7 #[.int .i64 v, .int .i64 3] w fun e w' => e = .returned (.int .i64 (v % 18446744073709551616 % 3)) ∧ w' = w := by
  obtain ⟨X, hX, hX0, hX1⟩ : ∃ X : Int, IntKind.u64.wrap v = X ∧ 0 ≤ X ∧ X ≤ 18446744073709551615 := ⟨_, rfl, by rw [IntKind.wrap_u64]; omega, by rw [IntKind.wrap_u64]; omega⟩
  have hE : Hid (X % 3 = v % 18446744073709551616 % 3) := by
    show _ = _
    rw [← hX, IntKind.wrap_u64]
  have h1 : 0 ≤ X % 3 := by omega
  have h2 : X % 3 ≤ 2 := by omega
  go_enter Try.func7, Try.ntmps7
  go_wp2_with fail
  go_ret
  exact ⟨ret_int hE.out, rfl⟩
set_option maxHeartbeats 400000 in
theorem rtime_any (x : Int) (w : World) : Calls Try.prog 13 #[.int .i64 x] w fun e w' => e = .returned (.bool (okTm x)) ∧ w' = w := by
  by_cases h1 : 0 ≤ x
  · by_cases h2 : x ≤ 1099511627776
    · have e : Hid (okTm x = true) := okTm_iff.2 ⟨h1, h2⟩
      go_enter Try.func13, Try.ntmps13
      go_wp2
      go_ret
      rw [e.out]; exact ⟨rfl, rfl⟩
    · have e : Hid (okTm x = false) := Bool.eq_false_iff.2 (fun h => h2 (okTm_iff.1 h).2)
      go_enter Try.func13, Try.ntmps13
      go_wp2
      go_ret
      rw [e.out]; exact ⟨rfl, rfl⟩
  · have e : Hid (okTm x = false) := Bool.eq_false_iff.2 (fun h => h1 (okTm_iff.1 h).1)
    go_enter Try.func13, Try.ntmps13
    go_wp2
    go_ret
    rw [e.out]; exact ⟨rfl, rfl⟩
theorem take_told (x y z s p v0 v1 v2 n : Int) (k : Nat) (w : World) (h1 : okTp true x y z s p = true) (h2 : ok3 v0 v1 v2 = true) (h3 : okTm n = true) (h4 : s ≤ n + 1) (h6 : p ≤ n + 1) (hd : ok3 (v0 - x) (v1 - y) (v2 - z) = true) (hk : RootQ (sq3 (v0 - x) (v1 - y) (v2 - z)) 1 k) (hk2 : okW k = true) : Calls Try.prog 8 #[.agg #[.bool true, .int .i64 x, .int .i64 y, .int .i64 z, .int .i64 s, .int .i64 p], .agg #[.int .i64 v0, .int .i64 v1, .int .i64 v2], .int .i64 n] w fun e w' => e = .returned (.tuple #[.agg #[.bool true, .int .i64 v0, .int .i64 v1, .int .i64 v2, .int .i64 (rwS (phs s p k (n + 1)) s (n + 1)), .int .i64 (rwP (phs s p k (n + 1)) p (n + 1))], .int .i64 (rwK (phs s p k (n + 1))), .int .i64 0]) ∧ Ext w w' := by
  refine take_near x y z s p v0 v1 v2 n k w h1 h2 h3 h4 h6 (fun w => ?_)
  refine apart_yes v0 v1 v2 x y z (v0 - x) (v1 - y) (v2 - z) k 0 w (fun w => ?_) (fun w => ?_)
  · have h := vSub_yes v0 v1 v2 x y z w h2 (okTp_parts h1).1
    unfold vres at h
    rw [if_pos hd] at h
    exact h
  · have h := vNorm_yes (v0 - x) (v1 - y) (v2 - z) k w hd hk
    rw [fit_yes' hk2] at h
    exact h
theorem take_no (x y z s p v0 v1 v2 n : Int) (k : Nat) (w : World) (h1 : okTp true x y z s p = true) (h2 : ok3 v0 v1 v2 = true) (h3 : okTm n = true) (h4 : s ≤ n + 1) (h6 : p ≤ n + 1) (hk : RootQ (sq3 (v0 - x) (v1 - y) (v2 - z)) 1 k) (hk2 : ok3 (v0 - x) (v1 - y) (v2 - z) = false ∨ okW k = false) : Calls Try.prog 8 #[.agg #[.bool true, .int .i64 x, .int .i64 y, .int .i64 z, .int .i64 s, .int .i64 p], .agg #[.int .i64 v0, .int .i64 v1, .int .i64 v2], .int .i64 n] w fun e w' => e = .returned (.tuple #[.agg #[.bool false, .int .i64 0, .int .i64 0, .int .i64 0, .int .i64 0, .int .i64 0], .int .i64 0, .int .i64 2]) ∧ Ext w w' := by
  refine take_far x y z s p v0 v1 v2 n w h1 h2 h3 h4 h6 (fun w => ?_)
  cases hd : ok3 (v0 - x) (v1 - y) (v2 - z)
  · refine apart_no v0 v1 v2 x y z w (fun w => ?_)
    have h := vSub_yes v0 v1 v2 x y z w h2 (okTp_parts h1).1
    unfold vres at h
    rw [if_neg (by rw [hd]; simp)] at h
    exact h
  · have hk3 : okW k = false := hk2.resolve_left (by rw [hd]; simp)
    refine apart_yes v0 v1 v2 x y z (v0 - x) (v1 - y) (v2 - z) 0 2 w (fun w => ?_) (fun w => ?_)
    · have h := vSub_yes v0 v1 v2 x y z w h2 (okTp_parts h1).1
      unfold vres at h
      rw [if_pos hd] at h
      exact h
    · have h := vNorm_yes (v0 - x) (v1 - y) (v2 - z) k w hd hk
      rw [fit_no' hk3] at h
      exact h
theorem okW_of {a : Int} (h1 : -35184372088832 < a) (h2 : a < 35184372088832) : okW a = true := by unfold okW; simp; omega
theorem ok3_of {a b c : Int} (h0 : -35184372088832 < a ∧ a < 35184372088832) (h1 : -35184372088832 < b ∧ b < 35184372088832) (h2 : -35184372088832 < c ∧ c < 35184372088832) : ok3 a b c = true := by
  unfold ok3; rw [okW_of h0.1 h0.2, okW_of h1.1 h1.2, okW_of h2.1 h2.2]; rfl
theorem okTp_of {x y z s p : Int} (h : ok3 x y z = true) (hs : 0 ≤ s ∧ s ≤ 1099511627777) (hp : 0 ≤ p ∧ p ≤ 1099511627777) : okTp true x y z s p = true := by
  have e : okTp true x y z s p = (ok3 x y z && okMk s && okMk p) := rfl
  rw [e, h, okMk_iff.2 hs, okMk_iff.2 hp]; rfl
/-- how far apart two vectors are at most -/
theorem far_most {a b c : Int} {k A B C N : Nat} (hk : RootQ (sq3 a b c) 1 k) (ha : a.natAbs ≤ A) (hb : b.natAbs ≤ B) (hc : c.natAbs ≤ C) (hn : A * A + B * B + C * C ≤ N * N) : k ≤ N := by
  refine rootQ_le (B := N) hk (by decide) ?_
  have m0 := Nat.mul_le_mul ha ha
  have m1 := Nat.mul_le_mul hb hb
  have m2 := Nat.mul_le_mul hc hc
  unfold sq3
  omega
set_option maxRecDepth 20000 in
set_option maxHeartbeats 4000000 in
theorem wakes18_any (w : World) : Calls Try.prog 10 #[] w fun e w' => e = .returned (.bool true) ∧ Ext w w' := by
  have HA : Hid (∀ w, Calls Try.prog 8 #[.agg #[.bool false, .int .i64 0, .int .i64 0, .int .i64 0, .int .i64 0, .int .i64 0], .agg #[.int .i64 5, .int .i64 0, .int .i64 0], .int .i64 3] w fun e w' => e = .returned (.tuple #[.agg #[.bool true, .int .i64 5, .int .i64 0, .int .i64 0, .int .i64 0, .int .i64 0], .int .i64 0, .int .i64 0]) ∧ Ext w w') := fun w => take_off 5 0 0 3 w (by kernel_rfl) (by kernel_rfl)
  have FX : Hid (Ext w w) := Ext.refl _
  go_enter Try.func10, Try.ntmps10
  go_wp2_with fail
  refine (HA.out _).mono ?_
  rintro e w1 ⟨rfl, x1⟩
  have FX : Hid (Ext w w1) := FX.out.trans x1
  clear x1 HA
  go_upto_region 2 with fail
  have Ls : Hid (w.heap.size ≤ w1.heap.size) := FX.out.size
  have Fs : Hid (HV (w1.alloc (.cells #[.bool true, .int .i64 5, .int .i64 0, .int .i64 0, .int .i64 0, .int .i64 0] 26)) w1.heap.size [.bool true, .int .i64 5, .int .i64 0, .int .i64 0, .int .i64 0, .int .i64 0]) := hv_at rfl
  have FX : Hid (Ext w (w1.alloc (.cells #[.bool true, .int .i64 5, .int .i64 0, .int .i64 0, .int .i64 0, .int .i64 0] 26))) := FX.out.alloc _
  generalize (w1.alloc (.cells #[.bool true, .int .i64 5, .int .i64 0, .int .i64 0, .int .i64 0, .int .i64 0] 26)) = wx1 at *
  generalize w1.heap.size = ns at *
  have qs0 : wx1.cell? ⟨ns, 0, none⟩ = some (.bool true) := Fs.out.c 0 rfl
  have qs1 : wx1.cell? ⟨ns, 1, none⟩ = some (.int .i64 5) := Fs.out.c 1 rfl
  have qs2 : wx1.cell? ⟨ns, 2, none⟩ = some (.int .i64 0) := Fs.out.c 2 rfl
  have qs3 : wx1.cell? ⟨ns, 3, none⟩ = some (.int .i64 0) := Fs.out.c 3 rfl
  have qs4 : wx1.cell? ⟨ns, 4, none⟩ = some (.int .i64 0) := Fs.out.c 4 rfl
  have qs5 : wx1.cell? ⟨ns, 5, none⟩ = some (.int .i64 0) := Fs.out.c 5 rfl
  go_wp2_with (go_at_call 9; refine (num18_any _ _).mono ?_; rintro e wx ⟨rfl, hwx⟩; have hwy := hwx.symm; clear hwx; subst hwy)
  go_ret
  exact ⟨rfl, FX.out⟩
end Go.Proofs.Ytojcndgoihkfnaa
