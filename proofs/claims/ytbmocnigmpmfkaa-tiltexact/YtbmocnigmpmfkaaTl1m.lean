/- tilt: states; Take. -/
import Derived.Test.YtbmocnigmpmfkaaTl0m
namespace Go.Proofs.Ytbmocnigmpmfkaa
open Go.RowKit
set_option maxRecDepth 20000 in
set_option maxHeartbeats 8000000 in
theorem istl_any (on : Bool) (x y z s : Int) (a : Bool) (w : World) : Calls Try.prog 16 #[.agg #[.bool on, .int .i64 x, .int .i64 y, .int .i64 z, .int .i64 s, .bool a]] w fun e w' => e = .returned (.bool (okTl on x y z s a)) ∧ Ext w w' := by
  have HC : Hid (∀ w, Calls Try.prog 17 #[.agg #[.int .i64 x, .int .i64 y, .int .i64 z]] w fun e w' => e = .returned (.bool (okD3 x y z)) ∧ Ext w w') := isdir_any x y z
  have HS : Hid (∀ w, Calls Try.prog 18 #[.int .i64 s] w fun e w' => e = .returned (.bool (okTm s)) ∧ w' = w) := istime_any s
  have B : Hid (HV (w.alloc (.cells #[.bool on, .int .i64 x, .int .i64 y, .int .i64 z, .int .i64 s, .bool a] 26)) w.heap.size [.bool on, .int .i64 x, .int .i64 y, .int .i64 z, .int .i64 s, .bool a]) := hv_at rfl
  have X0 : Hid (Ext w (w.alloc (.cells #[.bool on, .int .i64 x, .int .i64 y, .int .i64 z, .int .i64 s, .bool a] 26))) := (Ext.refl w).alloc _
  cases on
  · cases a
    · skip
      have er : okTl false x y z s false = (decide (x = 0 ∧ y = 0 ∧ z = 0 ∧ s = 0) && !false) := rfl
      rw [er]
      clear er
      go_enter Try.func16, Try.ntmps16
      go_upto_region 1 with fail
      generalize (w.alloc (.cells #[.bool false, .int .i64 x, .int .i64 y, .int .i64 z, .int .i64 s, .bool false] 26)) = wa at *
      have k0 : wa.cell? ⟨w.heap.size, 0, none⟩ = some (.bool false) := B.out.c 0 rfl
      have k1 : wa.cell? ⟨w.heap.size, 1, none⟩ = some (.int .i64 x) := B.out.c 1 rfl
      have k2 : wa.cell? ⟨w.heap.size, 2, none⟩ = some (.int .i64 y) := B.out.c 2 rfl
      have k3 : wa.cell? ⟨w.heap.size, 3, none⟩ = some (.int .i64 z) := B.out.c 3 rfl
      have k4 : wa.cell? ⟨w.heap.size, 4, none⟩ = some (.int .i64 s) := B.out.c 4 rfl
      have k5 : wa.cell? ⟨w.heap.size, 5, none⟩ = some (.bool false) := B.out.c 5 rfl
      go_wp2_with fail
      all_goals
        go_ret
        exact ⟨by simp [*], X0.out⟩
    · skip
      have er : okTl false x y z s true = (decide (x = 0 ∧ y = 0 ∧ z = 0 ∧ s = 0) && !true) := rfl
      rw [er]
      clear er
      go_enter Try.func16, Try.ntmps16
      go_upto_region 1 with fail
      generalize (w.alloc (.cells #[.bool false, .int .i64 x, .int .i64 y, .int .i64 z, .int .i64 s, .bool true] 26)) = wa at *
      have k0 : wa.cell? ⟨w.heap.size, 0, none⟩ = some (.bool false) := B.out.c 0 rfl
      have k1 : wa.cell? ⟨w.heap.size, 1, none⟩ = some (.int .i64 x) := B.out.c 1 rfl
      have k2 : wa.cell? ⟨w.heap.size, 2, none⟩ = some (.int .i64 y) := B.out.c 2 rfl
      have k3 : wa.cell? ⟨w.heap.size, 3, none⟩ = some (.int .i64 z) := B.out.c 3 rfl
      have k4 : wa.cell? ⟨w.heap.size, 4, none⟩ = some (.int .i64 s) := B.out.c 4 rfl
      have k5 : wa.cell? ⟨w.heap.size, 5, none⟩ = some (.bool true) := B.out.c 5 rfl
      go_wp2_with fail
      all_goals
        go_ret
        exact ⟨by simp [*], X0.out⟩
  · cases a
    · by_cases h0 : s = 0
      · subst h0
        have er : okTl true x y z 0 false = (okD3 x y z && okTm 0) := rfl
        rw [er]
        have e0 : okTm 0 = true := by decide
        rw [e0]
        clear er e0 HS
        have HS : Hid (∀ w, Calls Try.prog 18 #[.int .i64 0] w fun e w' => e = .returned (.bool true) ∧ w' = w) := fun w => by have h := istime_any 0 w; rw [show okTm 0 = true by decide] at h; exact h
        generalize okD3 x y z = q at *
        cases q
        · skip
          go_enter Try.func16, Try.ntmps16
          go_upto_region 1 with fail
          generalize (w.alloc (.cells #[.bool true, .int .i64 x, .int .i64 y, .int .i64 z, .int .i64 0, .bool false] 26)) = wa at *
          have k0 : wa.cell? ⟨w.heap.size, 0, none⟩ = some (.bool true) := B.out.c 0 rfl
          have k1 : wa.cell? ⟨w.heap.size, 1, none⟩ = some (.int .i64 x) := B.out.c 1 rfl
          have k2 : wa.cell? ⟨w.heap.size, 2, none⟩ = some (.int .i64 y) := B.out.c 2 rfl
          have k3 : wa.cell? ⟨w.heap.size, 3, none⟩ = some (.int .i64 z) := B.out.c 3 rfl
          have k4 : wa.cell? ⟨w.heap.size, 4, none⟩ = some (.int .i64 0) := B.out.c 4 rfl
          have k5 : wa.cell? ⟨w.heap.size, 5, none⟩ = some (.bool false) := B.out.c 5 rfl
          go_wp2_with (first | (go_at_call 17; refine (HC.out _).mono ?_; rintro e m1 ⟨rfl, z1⟩; have j4 : m1.cell? ⟨w.heap.size, 4, none⟩ = some (.int .i64 0) := (B.out.ext z1).c 4 rfl) | (go_at_call 18; refine (HS.out _).mono ?_; rintro e wx ⟨rfl, hwx⟩; have hwy := hwx.symm; clear hwx; subst hwy))
          go_ret
          exact ⟨by simp, X0.out.trans z1⟩
        · skip
          go_enter Try.func16, Try.ntmps16
          go_upto_region 1 with fail
          generalize (w.alloc (.cells #[.bool true, .int .i64 x, .int .i64 y, .int .i64 z, .int .i64 0, .bool false] 26)) = wa at *
          have k0 : wa.cell? ⟨w.heap.size, 0, none⟩ = some (.bool true) := B.out.c 0 rfl
          have k1 : wa.cell? ⟨w.heap.size, 1, none⟩ = some (.int .i64 x) := B.out.c 1 rfl
          have k2 : wa.cell? ⟨w.heap.size, 2, none⟩ = some (.int .i64 y) := B.out.c 2 rfl
          have k3 : wa.cell? ⟨w.heap.size, 3, none⟩ = some (.int .i64 z) := B.out.c 3 rfl
          have k4 : wa.cell? ⟨w.heap.size, 4, none⟩ = some (.int .i64 0) := B.out.c 4 rfl
          have k5 : wa.cell? ⟨w.heap.size, 5, none⟩ = some (.bool false) := B.out.c 5 rfl
          go_wp2_with (first | (go_at_call 17; refine (HC.out _).mono ?_; rintro e m1 ⟨rfl, z1⟩; have j4 : m1.cell? ⟨w.heap.size, 4, none⟩ = some (.int .i64 0) := (B.out.ext z1).c 4 rfl) | (go_at_call 18; refine (HS.out _).mono ?_; rintro e wx ⟨rfl, hwx⟩; have hwy := hwx.symm; clear hwx; subst hwy))
          go_ret
          exact ⟨by simp, X0.out.trans z1⟩
      · have er : okTl true x y z s false = false := by
          have e : okTl true x y z s false = ((false || decide (s = 0)) && (okD3 x y z && okTm s)) := rfl
          rw [e, decide_eq_false h0]; rfl
        rw [er]
        have d0 : (s != 0) = true := by simpa using h0
        clear er HC HS
        go_enter Try.func16, Try.ntmps16
        go_upto_region 1 with fail
        generalize (w.alloc (.cells #[.bool true, .int .i64 x, .int .i64 y, .int .i64 z, .int .i64 s, .bool false] 26)) = wa at *
        have k0 : wa.cell? ⟨w.heap.size, 0, none⟩ = some (.bool true) := B.out.c 0 rfl
        have k1 : wa.cell? ⟨w.heap.size, 1, none⟩ = some (.int .i64 x) := B.out.c 1 rfl
        have k2 : wa.cell? ⟨w.heap.size, 2, none⟩ = some (.int .i64 y) := B.out.c 2 rfl
        have k3 : wa.cell? ⟨w.heap.size, 3, none⟩ = some (.int .i64 z) := B.out.c 3 rfl
        have k4 : wa.cell? ⟨w.heap.size, 4, none⟩ = some (.int .i64 s) := B.out.c 4 rfl
        have k5 : wa.cell? ⟨w.heap.size, 5, none⟩ = some (.bool false) := B.out.c 5 rfl
        go_wp2_with fail
        go_ret
        exact ⟨rfl, X0.out⟩
    · have er : okTl true x y z s true = (okD3 x y z && okTm s) := rfl
      rw [er]
      clear er
      generalize okD3 x y z = q at *
      generalize okTm s = r at *
      cases q <;> cases r
      · skip
        go_enter Try.func16, Try.ntmps16
        go_upto_region 1 with fail
        generalize (w.alloc (.cells #[.bool true, .int .i64 x, .int .i64 y, .int .i64 z, .int .i64 s, .bool true] 26)) = wa at *
        have k0 : wa.cell? ⟨w.heap.size, 0, none⟩ = some (.bool true) := B.out.c 0 rfl
        have k1 : wa.cell? ⟨w.heap.size, 1, none⟩ = some (.int .i64 x) := B.out.c 1 rfl
        have k2 : wa.cell? ⟨w.heap.size, 2, none⟩ = some (.int .i64 y) := B.out.c 2 rfl
        have k3 : wa.cell? ⟨w.heap.size, 3, none⟩ = some (.int .i64 z) := B.out.c 3 rfl
        have k4 : wa.cell? ⟨w.heap.size, 4, none⟩ = some (.int .i64 s) := B.out.c 4 rfl
        have k5 : wa.cell? ⟨w.heap.size, 5, none⟩ = some (.bool true) := B.out.c 5 rfl
        go_wp2_with (first | (go_at_call 17; refine (HC.out _).mono ?_; rintro e m1 ⟨rfl, z1⟩; have j4 : m1.cell? ⟨w.heap.size, 4, none⟩ = some (.int .i64 s) := (B.out.ext z1).c 4 rfl) | (go_at_call 18; refine (HS.out _).mono ?_; rintro e wx ⟨rfl, hwx⟩; have hwy := hwx.symm; clear hwx; subst hwy))
        go_ret
        exact ⟨by simp, X0.out.trans z1⟩
      · skip
        go_enter Try.func16, Try.ntmps16
        go_upto_region 1 with fail
        generalize (w.alloc (.cells #[.bool true, .int .i64 x, .int .i64 y, .int .i64 z, .int .i64 s, .bool true] 26)) = wa at *
        have k0 : wa.cell? ⟨w.heap.size, 0, none⟩ = some (.bool true) := B.out.c 0 rfl
        have k1 : wa.cell? ⟨w.heap.size, 1, none⟩ = some (.int .i64 x) := B.out.c 1 rfl
        have k2 : wa.cell? ⟨w.heap.size, 2, none⟩ = some (.int .i64 y) := B.out.c 2 rfl
        have k3 : wa.cell? ⟨w.heap.size, 3, none⟩ = some (.int .i64 z) := B.out.c 3 rfl
        have k4 : wa.cell? ⟨w.heap.size, 4, none⟩ = some (.int .i64 s) := B.out.c 4 rfl
        have k5 : wa.cell? ⟨w.heap.size, 5, none⟩ = some (.bool true) := B.out.c 5 rfl
        go_wp2_with (first | (go_at_call 17; refine (HC.out _).mono ?_; rintro e m1 ⟨rfl, z1⟩; have j4 : m1.cell? ⟨w.heap.size, 4, none⟩ = some (.int .i64 s) := (B.out.ext z1).c 4 rfl) | (go_at_call 18; refine (HS.out _).mono ?_; rintro e wx ⟨rfl, hwx⟩; have hwy := hwx.symm; clear hwx; subst hwy))
        go_ret
        exact ⟨by simp, X0.out.trans z1⟩
      · skip
        go_enter Try.func16, Try.ntmps16
        go_upto_region 1 with fail
        generalize (w.alloc (.cells #[.bool true, .int .i64 x, .int .i64 y, .int .i64 z, .int .i64 s, .bool true] 26)) = wa at *
        have k0 : wa.cell? ⟨w.heap.size, 0, none⟩ = some (.bool true) := B.out.c 0 rfl
        have k1 : wa.cell? ⟨w.heap.size, 1, none⟩ = some (.int .i64 x) := B.out.c 1 rfl
        have k2 : wa.cell? ⟨w.heap.size, 2, none⟩ = some (.int .i64 y) := B.out.c 2 rfl
        have k3 : wa.cell? ⟨w.heap.size, 3, none⟩ = some (.int .i64 z) := B.out.c 3 rfl
        have k4 : wa.cell? ⟨w.heap.size, 4, none⟩ = some (.int .i64 s) := B.out.c 4 rfl
        have k5 : wa.cell? ⟨w.heap.size, 5, none⟩ = some (.bool true) := B.out.c 5 rfl
        go_wp2_with (first | (go_at_call 17; refine (HC.out _).mono ?_; rintro e m1 ⟨rfl, z1⟩; have j4 : m1.cell? ⟨w.heap.size, 4, none⟩ = some (.int .i64 s) := (B.out.ext z1).c 4 rfl) | (go_at_call 18; refine (HS.out _).mono ?_; rintro e wx ⟨rfl, hwx⟩; have hwy := hwx.symm; clear hwx; subst hwy))
        go_ret
        exact ⟨by simp, X0.out.trans z1⟩
      · skip
        go_enter Try.func16, Try.ntmps16
        go_upto_region 1 with fail
        generalize (w.alloc (.cells #[.bool true, .int .i64 x, .int .i64 y, .int .i64 z, .int .i64 s, .bool true] 26)) = wa at *
        have k0 : wa.cell? ⟨w.heap.size, 0, none⟩ = some (.bool true) := B.out.c 0 rfl
        have k1 : wa.cell? ⟨w.heap.size, 1, none⟩ = some (.int .i64 x) := B.out.c 1 rfl
        have k2 : wa.cell? ⟨w.heap.size, 2, none⟩ = some (.int .i64 y) := B.out.c 2 rfl
        have k3 : wa.cell? ⟨w.heap.size, 3, none⟩ = some (.int .i64 z) := B.out.c 3 rfl
        have k4 : wa.cell? ⟨w.heap.size, 4, none⟩ = some (.int .i64 s) := B.out.c 4 rfl
        have k5 : wa.cell? ⟨w.heap.size, 5, none⟩ = some (.bool true) := B.out.c 5 rfl
        go_wp2_with (first | (go_at_call 17; refine (HC.out _).mono ?_; rintro e m1 ⟨rfl, z1⟩; have j4 : m1.cell? ⟨w.heap.size, 4, none⟩ = some (.int .i64 s) := (B.out.ext z1).c 4 rfl) | (go_at_call 18; refine (HS.out _).mono ?_; rintro e wx ⟨rfl, hwx⟩; have hwy := hwx.symm; clear hwx; subst hwy))
        go_ret
        exact ⟨by simp, X0.out.trans z1⟩
set_option maxRecDepth 20000 in
set_option maxHeartbeats 16000000 in
theorem take_bad1 (on : Bool) (x y z s : Int) (a : Bool) (v0 v1 v2 n : Int) (w : World) (h1 : okTl on x y z s a = false) : Calls Try.prog 8 #[.agg #[.bool on, .int .i64 x, .int .i64 y, .int .i64 z, .int .i64 s, .bool a], .agg #[.int .i64 v0, .int .i64 v1, .int .i64 v2], .int .i64 n] w fun e w' => e = .returned (.tuple #[.agg #[.bool false, .int .i64 0, .int .i64 0, .int .i64 0, .int .i64 0, .bool false], .bool false, .int .i64 1]) ∧ Ext w w' := by
  have HI : Hid (∀ w, Calls Try.prog 16 #[.agg #[.bool on, .int .i64 x, .int .i64 y, .int .i64 z, .int .i64 s, .bool a]] w fun e w' => e = .returned (.bool (okTl on x y z s a)) ∧ Ext w w') := istl_any on x y z s a
  rw [h1] at HI
  clear h1
  have Ft : Hid (HV (((w.alloc (.cells #[.bool on, .int .i64 x, .int .i64 y, .int .i64 z, .int .i64 s, .bool a] 26)).alloc (.cells #[.int .i64 v0, .int .i64 v1, .int .i64 v2] 24)).alloc (.cells #[.bool false, .int .i64 0, .int .i64 0, .int .i64 0, .int .i64 0, .bool false] 26)) w.heap.size [.bool on, .int .i64 x, .int .i64 y, .int .i64 z, .int .i64 s, .bool a]) := ((hv_at rfl).alloc _).alloc _
  have Fv : Hid (HV (((w.alloc (.cells #[.bool on, .int .i64 x, .int .i64 y, .int .i64 z, .int .i64 s, .bool a] 26)).alloc (.cells #[.int .i64 v0, .int .i64 v1, .int .i64 v2] 24)).alloc (.cells #[.bool false, .int .i64 0, .int .i64 0, .int .i64 0, .int .i64 0, .bool false] 26)) (w.heap.size + 1) [.int .i64 v0, .int .i64 v1, .int .i64 v2]) := (hv_at (by simp)).alloc _
  have Fu : Hid (HV (((w.alloc (.cells #[.bool on, .int .i64 x, .int .i64 y, .int .i64 z, .int .i64 s, .bool a] 26)).alloc (.cells #[.int .i64 v0, .int .i64 v1, .int .i64 v2] 24)).alloc (.cells #[.bool false, .int .i64 0, .int .i64 0, .int .i64 0, .int .i64 0, .bool false] 26)) (w.heap.size + 2) [.bool false, .int .i64 0, .int .i64 0, .int .i64 0, .int .i64 0, .bool false]) := hv_at (by simp)
  have Lu : Hid (w.heap.size ≤ w.heap.size + 2) := Nat.le_add_right _ _
  have FX : Hid (Ext w (((w.alloc (.cells #[.bool on, .int .i64 x, .int .i64 y, .int .i64 z, .int .i64 s, .bool a] 26)).alloc (.cells #[.int .i64 v0, .int .i64 v1, .int .i64 v2] 24)).alloc (.cells #[.bool false, .int .i64 0, .int .i64 0, .int .i64 0, .int .i64 0, .bool false] 26))) := (((Ext.refl w).alloc _).alloc _).alloc _
  go_enter Try.func8, Try.ntmps8
  go_upto_region 1 with fail
  generalize (((w.alloc (.cells #[.bool on, .int .i64 x, .int .i64 y, .int .i64 z, .int .i64 s, .bool a] 26)).alloc (.cells #[.int .i64 v0, .int .i64 v1, .int .i64 v2] 24)).alloc (.cells #[.bool false, .int .i64 0, .int .i64 0, .int .i64 0, .int .i64 0, .bool false] 26)) = wa at *
  have qt0 : wa.cell? ⟨w.heap.size, 0, none⟩ = some (.bool on) := Ft.out.c 0 rfl
  have qt1 : wa.cell? ⟨w.heap.size, 1, none⟩ = some (.int .i64 x) := Ft.out.c 1 rfl
  have qt2 : wa.cell? ⟨w.heap.size, 2, none⟩ = some (.int .i64 y) := Ft.out.c 2 rfl
  have qt3 : wa.cell? ⟨w.heap.size, 3, none⟩ = some (.int .i64 z) := Ft.out.c 3 rfl
  have qt4 : wa.cell? ⟨w.heap.size, 4, none⟩ = some (.int .i64 s) := Ft.out.c 4 rfl
  have qt5 : wa.cell? ⟨w.heap.size, 5, none⟩ = some (.bool a) := Ft.out.c 5 rfl
  go_upto_region 2 with (first | (go_at_call 16; refine (HI.out _).mono ?_; rintro e w1 ⟨rfl, x1⟩))
  have Ft : Hid (HV w1 w.heap.size [.bool on, .int .i64 x, .int .i64 y, .int .i64 z, .int .i64 s, .bool a]) := Ft.out.ext x1
  have Fv : Hid (HV w1 (w.heap.size + 1) [.int .i64 v0, .int .i64 v1, .int .i64 v2]) := Fv.out.ext x1
  have Fu : Hid (HV w1 (w.heap.size + 2) [.bool false, .int .i64 0, .int .i64 0, .int .i64 0, .int .i64 0, .bool false]) := Fu.out.ext x1
  have FX : Hid (Ext w w1) := FX.out.trans x1
  clear qt0 qt1 qt2 qt3 qt4 qt5 x1 HI
  have o0 : w1.cell? ⟨(w.heap.size + 2), 0, none⟩ = some (.bool false) := Fu.out.c 0 rfl
  have z0 : w1.frozen? ⟨(w.heap.size + 2), 0, none⟩ = false := Fu.out.f 0 rfl
  have o1 : w1.cell? ⟨(w.heap.size + 2), 1, none⟩ = some (.int .i64 0) := Fu.out.c 1 rfl
  have z1 : w1.frozen? ⟨(w.heap.size + 2), 1, none⟩ = false := Fu.out.f 1 rfl
  have o2 : w1.cell? ⟨(w.heap.size + 2), 2, none⟩ = some (.int .i64 0) := Fu.out.c 2 rfl
  have z2 : w1.frozen? ⟨(w.heap.size + 2), 2, none⟩ = false := Fu.out.f 2 rfl
  have o3 : w1.cell? ⟨(w.heap.size + 2), 3, none⟩ = some (.int .i64 0) := Fu.out.c 3 rfl
  have z3 : w1.frozen? ⟨(w.heap.size + 2), 3, none⟩ = false := Fu.out.f 3 rfl
  have o4 : w1.cell? ⟨(w.heap.size + 2), 4, none⟩ = some (.int .i64 0) := Fu.out.c 4 rfl
  have z4 : w1.frozen? ⟨(w.heap.size + 2), 4, none⟩ = false := Fu.out.f 4 rfl
  have o5 : w1.cell? ⟨(w.heap.size + 2), 5, none⟩ = some (.bool false) := Fu.out.c 5 rfl
  have z5 : w1.frozen? ⟨(w.heap.size + 2), 5, none⟩ = false := Fu.out.f 5 rfl
  go_wp2_with fail
  refine bodyPost_ret (v := .tuple #[.agg #[.bool false, .int .i64 0, .int .i64 0, .int .i64 0, .int .i64 0, .bool false], .bool false, .int .i64 1]) (by simp [results, Try.results8, go_sem, *]) rfl ⟨rfl, ?_⟩
  exact (Ext.set (Ext.set (Ext.set (Ext.set (Ext.set (Ext.set FX.out Lu.out _) Lu.out _) Lu.out _) Lu.out _) Lu.out _) Lu.out _)
set_option maxRecDepth 20000 in
set_option maxHeartbeats 16000000 in
theorem take_bad2 (on : Bool) (x y z s : Int) (a : Bool) (v0 v1 v2 n : Int) (w : World) (h1 : okTl on x y z s a = true) (h2 : okD3 v0 v1 v2 = false) : Calls Try.prog 8 #[.agg #[.bool on, .int .i64 x, .int .i64 y, .int .i64 z, .int .i64 s, .bool a], .agg #[.int .i64 v0, .int .i64 v1, .int .i64 v2], .int .i64 n] w fun e w' => e = .returned (.tuple #[.agg #[.bool false, .int .i64 0, .int .i64 0, .int .i64 0, .int .i64 0, .bool false], .bool false, .int .i64 1]) ∧ Ext w w' := by
  have HI : Hid (∀ w, Calls Try.prog 16 #[.agg #[.bool on, .int .i64 x, .int .i64 y, .int .i64 z, .int .i64 s, .bool a]] w fun e w' => e = .returned (.bool (okTl on x y z s a)) ∧ Ext w w') := istl_any on x y z s a
  have HC : Hid (∀ w, Calls Try.prog 17 #[.agg #[.int .i64 v0, .int .i64 v1, .int .i64 v2]] w fun e w' => e = .returned (.bool (okD3 v0 v1 v2)) ∧ Ext w w') := isdir_any v0 v1 v2
  rw [h1] at HI
  rw [h2] at HC
  clear h1 h2
  have Ft : Hid (HV (((w.alloc (.cells #[.bool on, .int .i64 x, .int .i64 y, .int .i64 z, .int .i64 s, .bool a] 26)).alloc (.cells #[.int .i64 v0, .int .i64 v1, .int .i64 v2] 24)).alloc (.cells #[.bool false, .int .i64 0, .int .i64 0, .int .i64 0, .int .i64 0, .bool false] 26)) w.heap.size [.bool on, .int .i64 x, .int .i64 y, .int .i64 z, .int .i64 s, .bool a]) := ((hv_at rfl).alloc _).alloc _
  have Fv : Hid (HV (((w.alloc (.cells #[.bool on, .int .i64 x, .int .i64 y, .int .i64 z, .int .i64 s, .bool a] 26)).alloc (.cells #[.int .i64 v0, .int .i64 v1, .int .i64 v2] 24)).alloc (.cells #[.bool false, .int .i64 0, .int .i64 0, .int .i64 0, .int .i64 0, .bool false] 26)) (w.heap.size + 1) [.int .i64 v0, .int .i64 v1, .int .i64 v2]) := (hv_at (by simp)).alloc _
  have Fu : Hid (HV (((w.alloc (.cells #[.bool on, .int .i64 x, .int .i64 y, .int .i64 z, .int .i64 s, .bool a] 26)).alloc (.cells #[.int .i64 v0, .int .i64 v1, .int .i64 v2] 24)).alloc (.cells #[.bool false, .int .i64 0, .int .i64 0, .int .i64 0, .int .i64 0, .bool false] 26)) (w.heap.size + 2) [.bool false, .int .i64 0, .int .i64 0, .int .i64 0, .int .i64 0, .bool false]) := hv_at (by simp)
  have Lu : Hid (w.heap.size ≤ w.heap.size + 2) := Nat.le_add_right _ _
  have FX : Hid (Ext w (((w.alloc (.cells #[.bool on, .int .i64 x, .int .i64 y, .int .i64 z, .int .i64 s, .bool a] 26)).alloc (.cells #[.int .i64 v0, .int .i64 v1, .int .i64 v2] 24)).alloc (.cells #[.bool false, .int .i64 0, .int .i64 0, .int .i64 0, .int .i64 0, .bool false] 26))) := (((Ext.refl w).alloc _).alloc _).alloc _
  go_enter Try.func8, Try.ntmps8
  go_upto_region 1 with fail
  generalize (((w.alloc (.cells #[.bool on, .int .i64 x, .int .i64 y, .int .i64 z, .int .i64 s, .bool a] 26)).alloc (.cells #[.int .i64 v0, .int .i64 v1, .int .i64 v2] 24)).alloc (.cells #[.bool false, .int .i64 0, .int .i64 0, .int .i64 0, .int .i64 0, .bool false] 26)) = wa at *
  have qt0 : wa.cell? ⟨w.heap.size, 0, none⟩ = some (.bool on) := Ft.out.c 0 rfl
  have qt1 : wa.cell? ⟨w.heap.size, 1, none⟩ = some (.int .i64 x) := Ft.out.c 1 rfl
  have qt2 : wa.cell? ⟨w.heap.size, 2, none⟩ = some (.int .i64 y) := Ft.out.c 2 rfl
  have qt3 : wa.cell? ⟨w.heap.size, 3, none⟩ = some (.int .i64 z) := Ft.out.c 3 rfl
  have qt4 : wa.cell? ⟨w.heap.size, 4, none⟩ = some (.int .i64 s) := Ft.out.c 4 rfl
  have qt5 : wa.cell? ⟨w.heap.size, 5, none⟩ = some (.bool a) := Ft.out.c 5 rfl
  go_upto_region 2 with (first | (go_at_call 16; refine (HI.out _).mono ?_; rintro e w1 ⟨rfl, x1⟩; have a0 : w1.cell? ⟨(w.heap.size + 1), 0, none⟩ = some (.int .i64 v0) := (Fv.out.ext x1).c 0 rfl; have a1 : w1.cell? ⟨(w.heap.size + 1), 1, none⟩ = some (.int .i64 v1) := (Fv.out.ext x1).c 1 rfl; have a2 : w1.cell? ⟨(w.heap.size + 1), 2, none⟩ = some (.int .i64 v2) := (Fv.out.ext x1).c 2 rfl) | (go_at_call 17; refine (HC.out _).mono ?_; rintro e w2 ⟨rfl, x2⟩))
  have Ft : Hid (HV w2 w.heap.size [.bool on, .int .i64 x, .int .i64 y, .int .i64 z, .int .i64 s, .bool a]) := Ft.out.ext (x1.trans x2)
  have Fv : Hid (HV w2 (w.heap.size + 1) [.int .i64 v0, .int .i64 v1, .int .i64 v2]) := Fv.out.ext (x1.trans x2)
  have Fu : Hid (HV w2 (w.heap.size + 2) [.bool false, .int .i64 0, .int .i64 0, .int .i64 0, .int .i64 0, .bool false]) := Fu.out.ext (x1.trans x2)
  have FX : Hid (Ext w w2) := FX.out.trans (x1.trans x2)
  clear qt0 qt1 qt2 qt3 qt4 qt5 a0 a1 a2 HI HC
  clear x1 x2
  have o0 : w2.cell? ⟨(w.heap.size + 2), 0, none⟩ = some (.bool false) := Fu.out.c 0 rfl
  have z0 : w2.frozen? ⟨(w.heap.size + 2), 0, none⟩ = false := Fu.out.f 0 rfl
  have o1 : w2.cell? ⟨(w.heap.size + 2), 1, none⟩ = some (.int .i64 0) := Fu.out.c 1 rfl
  have z1 : w2.frozen? ⟨(w.heap.size + 2), 1, none⟩ = false := Fu.out.f 1 rfl
  have o2 : w2.cell? ⟨(w.heap.size + 2), 2, none⟩ = some (.int .i64 0) := Fu.out.c 2 rfl
  have z2 : w2.frozen? ⟨(w.heap.size + 2), 2, none⟩ = false := Fu.out.f 2 rfl
  have o3 : w2.cell? ⟨(w.heap.size + 2), 3, none⟩ = some (.int .i64 0) := Fu.out.c 3 rfl
  have z3 : w2.frozen? ⟨(w.heap.size + 2), 3, none⟩ = false := Fu.out.f 3 rfl
  have o4 : w2.cell? ⟨(w.heap.size + 2), 4, none⟩ = some (.int .i64 0) := Fu.out.c 4 rfl
  have z4 : w2.frozen? ⟨(w.heap.size + 2), 4, none⟩ = false := Fu.out.f 4 rfl
  have o5 : w2.cell? ⟨(w.heap.size + 2), 5, none⟩ = some (.bool false) := Fu.out.c 5 rfl
  have z5 : w2.frozen? ⟨(w.heap.size + 2), 5, none⟩ = false := Fu.out.f 5 rfl
  go_wp2_with fail
  refine bodyPost_ret (v := .tuple #[.agg #[.bool false, .int .i64 0, .int .i64 0, .int .i64 0, .int .i64 0, .bool false], .bool false, .int .i64 1]) (by simp [results, Try.results8, go_sem, *]) rfl ⟨rfl, ?_⟩
  exact (Ext.set (Ext.set (Ext.set (Ext.set (Ext.set (Ext.set FX.out Lu.out _) Lu.out _) Lu.out _) Lu.out _) Lu.out _) Lu.out _)
set_option maxRecDepth 20000 in
set_option maxHeartbeats 16000000 in
theorem take_bad3 (on : Bool) (x y z s : Int) (a : Bool) (v0 v1 v2 n : Int) (w : World) (h1 : okTl on x y z s a = true) (h2 : okD3 v0 v1 v2 = true) (h3 : okTm n = false) : Calls Try.prog 8 #[.agg #[.bool on, .int .i64 x, .int .i64 y, .int .i64 z, .int .i64 s, .bool a], .agg #[.int .i64 v0, .int .i64 v1, .int .i64 v2], .int .i64 n] w fun e w' => e = .returned (.tuple #[.agg #[.bool false, .int .i64 0, .int .i64 0, .int .i64 0, .int .i64 0, .bool false], .bool false, .int .i64 1]) ∧ Ext w w' := by
  have HI : Hid (∀ w, Calls Try.prog 16 #[.agg #[.bool on, .int .i64 x, .int .i64 y, .int .i64 z, .int .i64 s, .bool a]] w fun e w' => e = .returned (.bool (okTl on x y z s a)) ∧ Ext w w') := istl_any on x y z s a
  have HC : Hid (∀ w, Calls Try.prog 17 #[.agg #[.int .i64 v0, .int .i64 v1, .int .i64 v2]] w fun e w' => e = .returned (.bool (okD3 v0 v1 v2)) ∧ Ext w w') := isdir_any v0 v1 v2
  have HT : Hid (∀ w, Calls Try.prog 18 #[.int .i64 n] w fun e w' => e = .returned (.bool (okTm n)) ∧ w' = w) := istime_any n
  rw [h1] at HI
  rw [h2] at HC
  rw [h3] at HT
  clear h1 h2 h3
  have Ft : Hid (HV (((w.alloc (.cells #[.bool on, .int .i64 x, .int .i64 y, .int .i64 z, .int .i64 s, .bool a] 26)).alloc (.cells #[.int .i64 v0, .int .i64 v1, .int .i64 v2] 24)).alloc (.cells #[.bool false, .int .i64 0, .int .i64 0, .int .i64 0, .int .i64 0, .bool false] 26)) w.heap.size [.bool on, .int .i64 x, .int .i64 y, .int .i64 z, .int .i64 s, .bool a]) := ((hv_at rfl).alloc _).alloc _
  have Fv : Hid (HV (((w.alloc (.cells #[.bool on, .int .i64 x, .int .i64 y, .int .i64 z, .int .i64 s, .bool a] 26)).alloc (.cells #[.int .i64 v0, .int .i64 v1, .int .i64 v2] 24)).alloc (.cells #[.bool false, .int .i64 0, .int .i64 0, .int .i64 0, .int .i64 0, .bool false] 26)) (w.heap.size + 1) [.int .i64 v0, .int .i64 v1, .int .i64 v2]) := (hv_at (by simp)).alloc _
  have Fu : Hid (HV (((w.alloc (.cells #[.bool on, .int .i64 x, .int .i64 y, .int .i64 z, .int .i64 s, .bool a] 26)).alloc (.cells #[.int .i64 v0, .int .i64 v1, .int .i64 v2] 24)).alloc (.cells #[.bool false, .int .i64 0, .int .i64 0, .int .i64 0, .int .i64 0, .bool false] 26)) (w.heap.size + 2) [.bool false, .int .i64 0, .int .i64 0, .int .i64 0, .int .i64 0, .bool false]) := hv_at (by simp)
  have Lu : Hid (w.heap.size ≤ w.heap.size + 2) := Nat.le_add_right _ _
  have FX : Hid (Ext w (((w.alloc (.cells #[.bool on, .int .i64 x, .int .i64 y, .int .i64 z, .int .i64 s, .bool a] 26)).alloc (.cells #[.int .i64 v0, .int .i64 v1, .int .i64 v2] 24)).alloc (.cells #[.bool false, .int .i64 0, .int .i64 0, .int .i64 0, .int .i64 0, .bool false] 26))) := (((Ext.refl w).alloc _).alloc _).alloc _
  go_enter Try.func8, Try.ntmps8
  go_upto_region 1 with fail
  generalize (((w.alloc (.cells #[.bool on, .int .i64 x, .int .i64 y, .int .i64 z, .int .i64 s, .bool a] 26)).alloc (.cells #[.int .i64 v0, .int .i64 v1, .int .i64 v2] 24)).alloc (.cells #[.bool false, .int .i64 0, .int .i64 0, .int .i64 0, .int .i64 0, .bool false] 26)) = wa at *
  have qt0 : wa.cell? ⟨w.heap.size, 0, none⟩ = some (.bool on) := Ft.out.c 0 rfl
  have qt1 : wa.cell? ⟨w.heap.size, 1, none⟩ = some (.int .i64 x) := Ft.out.c 1 rfl
  have qt2 : wa.cell? ⟨w.heap.size, 2, none⟩ = some (.int .i64 y) := Ft.out.c 2 rfl
  have qt3 : wa.cell? ⟨w.heap.size, 3, none⟩ = some (.int .i64 z) := Ft.out.c 3 rfl
  have qt4 : wa.cell? ⟨w.heap.size, 4, none⟩ = some (.int .i64 s) := Ft.out.c 4 rfl
  have qt5 : wa.cell? ⟨w.heap.size, 5, none⟩ = some (.bool a) := Ft.out.c 5 rfl
  go_upto_region 2 with (first | (go_at_call 16; refine (HI.out _).mono ?_; rintro e w1 ⟨rfl, x1⟩; have a0 : w1.cell? ⟨(w.heap.size + 1), 0, none⟩ = some (.int .i64 v0) := (Fv.out.ext x1).c 0 rfl; have a1 : w1.cell? ⟨(w.heap.size + 1), 1, none⟩ = some (.int .i64 v1) := (Fv.out.ext x1).c 1 rfl; have a2 : w1.cell? ⟨(w.heap.size + 1), 2, none⟩ = some (.int .i64 v2) := (Fv.out.ext x1).c 2 rfl) | (go_at_call 17; refine (HC.out _).mono ?_; rintro e w2 ⟨rfl, x2⟩) | (go_at_call 18; refine (HT.out _).mono ?_; rintro e wx ⟨rfl, hwx⟩; have hwy := hwx.symm; clear hwx; subst hwy))
  have Ft : Hid (HV w2 w.heap.size [.bool on, .int .i64 x, .int .i64 y, .int .i64 z, .int .i64 s, .bool a]) := Ft.out.ext (x1.trans x2)
  have Fv : Hid (HV w2 (w.heap.size + 1) [.int .i64 v0, .int .i64 v1, .int .i64 v2]) := Fv.out.ext (x1.trans x2)
  have Fu : Hid (HV w2 (w.heap.size + 2) [.bool false, .int .i64 0, .int .i64 0, .int .i64 0, .int .i64 0, .bool false]) := Fu.out.ext (x1.trans x2)
  have FX : Hid (Ext w w2) := FX.out.trans (x1.trans x2)
  clear qt0 qt1 qt2 qt3 qt4 qt5 a0 a1 a2 HI HC HT
  clear x1 x2
  have o0 : w2.cell? ⟨(w.heap.size + 2), 0, none⟩ = some (.bool false) := Fu.out.c 0 rfl
  have z0 : w2.frozen? ⟨(w.heap.size + 2), 0, none⟩ = false := Fu.out.f 0 rfl
  have o1 : w2.cell? ⟨(w.heap.size + 2), 1, none⟩ = some (.int .i64 0) := Fu.out.c 1 rfl
  have z1 : w2.frozen? ⟨(w.heap.size + 2), 1, none⟩ = false := Fu.out.f 1 rfl
  have o2 : w2.cell? ⟨(w.heap.size + 2), 2, none⟩ = some (.int .i64 0) := Fu.out.c 2 rfl
  have z2 : w2.frozen? ⟨(w.heap.size + 2), 2, none⟩ = false := Fu.out.f 2 rfl
  have o3 : w2.cell? ⟨(w.heap.size + 2), 3, none⟩ = some (.int .i64 0) := Fu.out.c 3 rfl
  have z3 : w2.frozen? ⟨(w.heap.size + 2), 3, none⟩ = false := Fu.out.f 3 rfl
  have o4 : w2.cell? ⟨(w.heap.size + 2), 4, none⟩ = some (.int .i64 0) := Fu.out.c 4 rfl
  have z4 : w2.frozen? ⟨(w.heap.size + 2), 4, none⟩ = false := Fu.out.f 4 rfl
  have o5 : w2.cell? ⟨(w.heap.size + 2), 5, none⟩ = some (.bool false) := Fu.out.c 5 rfl
  have z5 : w2.frozen? ⟨(w.heap.size + 2), 5, none⟩ = false := Fu.out.f 5 rfl
  go_wp2_with fail
  refine bodyPost_ret (v := .tuple #[.agg #[.bool false, .int .i64 0, .int .i64 0, .int .i64 0, .int .i64 0, .bool false], .bool false, .int .i64 1]) (by simp [results, Try.results8, go_sem, *]) rfl ⟨rfl, ?_⟩
  exact (Ext.set (Ext.set (Ext.set (Ext.set (Ext.set (Ext.set FX.out Lu.out _) Lu.out _) Lu.out _) Lu.out _) Lu.out _) Lu.out _)
set_option maxRecDepth 20000 in
set_option maxHeartbeats 16000000 in
theorem take_bad4 (on : Bool) (x y z s : Int) (a : Bool) (v0 v1 v2 n : Int) (w : World) (h1 : okTl on x y z s a = true) (h2 : okD3 v0 v1 v2 = true) (h3 : okTm n = true) (h4 : n < s) : Calls Try.prog 8 #[.agg #[.bool on, .int .i64 x, .int .i64 y, .int .i64 z, .int .i64 s, .bool a], .agg #[.int .i64 v0, .int .i64 v1, .int .i64 v2], .int .i64 n] w fun e w' => e = .returned (.tuple #[.agg #[.bool false, .int .i64 0, .int .i64 0, .int .i64 0, .int .i64 0, .bool false], .bool false, .int .i64 1]) ∧ Ext w w' := by
  have HI : Hid (∀ w, Calls Try.prog 16 #[.agg #[.bool on, .int .i64 x, .int .i64 y, .int .i64 z, .int .i64 s, .bool a]] w fun e w' => e = .returned (.bool (okTl on x y z s a)) ∧ Ext w w') := istl_any on x y z s a
  have HC : Hid (∀ w, Calls Try.prog 17 #[.agg #[.int .i64 v0, .int .i64 v1, .int .i64 v2]] w fun e w' => e = .returned (.bool (okD3 v0 v1 v2)) ∧ Ext w w') := isdir_any v0 v1 v2
  have HT : Hid (∀ w, Calls Try.prog 18 #[.int .i64 n] w fun e w' => e = .returned (.bool (okTm n)) ∧ w' = w) := istime_any n
  have h5 : decide (n < s) = true := by simpa using h4
  clear h4
  rw [h1] at HI
  rw [h2] at HC
  rw [h3] at HT
  clear h1 h2 h3
  have Ft : Hid (HV (((w.alloc (.cells #[.bool on, .int .i64 x, .int .i64 y, .int .i64 z, .int .i64 s, .bool a] 26)).alloc (.cells #[.int .i64 v0, .int .i64 v1, .int .i64 v2] 24)).alloc (.cells #[.bool false, .int .i64 0, .int .i64 0, .int .i64 0, .int .i64 0, .bool false] 26)) w.heap.size [.bool on, .int .i64 x, .int .i64 y, .int .i64 z, .int .i64 s, .bool a]) := ((hv_at rfl).alloc _).alloc _
  have Fv : Hid (HV (((w.alloc (.cells #[.bool on, .int .i64 x, .int .i64 y, .int .i64 z, .int .i64 s, .bool a] 26)).alloc (.cells #[.int .i64 v0, .int .i64 v1, .int .i64 v2] 24)).alloc (.cells #[.bool false, .int .i64 0, .int .i64 0, .int .i64 0, .int .i64 0, .bool false] 26)) (w.heap.size + 1) [.int .i64 v0, .int .i64 v1, .int .i64 v2]) := (hv_at (by simp)).alloc _
  have Fu : Hid (HV (((w.alloc (.cells #[.bool on, .int .i64 x, .int .i64 y, .int .i64 z, .int .i64 s, .bool a] 26)).alloc (.cells #[.int .i64 v0, .int .i64 v1, .int .i64 v2] 24)).alloc (.cells #[.bool false, .int .i64 0, .int .i64 0, .int .i64 0, .int .i64 0, .bool false] 26)) (w.heap.size + 2) [.bool false, .int .i64 0, .int .i64 0, .int .i64 0, .int .i64 0, .bool false]) := hv_at (by simp)
  have Lu : Hid (w.heap.size ≤ w.heap.size + 2) := Nat.le_add_right _ _
  have FX : Hid (Ext w (((w.alloc (.cells #[.bool on, .int .i64 x, .int .i64 y, .int .i64 z, .int .i64 s, .bool a] 26)).alloc (.cells #[.int .i64 v0, .int .i64 v1, .int .i64 v2] 24)).alloc (.cells #[.bool false, .int .i64 0, .int .i64 0, .int .i64 0, .int .i64 0, .bool false] 26))) := (((Ext.refl w).alloc _).alloc _).alloc _
  go_enter Try.func8, Try.ntmps8
  go_upto_region 1 with fail
  generalize (((w.alloc (.cells #[.bool on, .int .i64 x, .int .i64 y, .int .i64 z, .int .i64 s, .bool a] 26)).alloc (.cells #[.int .i64 v0, .int .i64 v1, .int .i64 v2] 24)).alloc (.cells #[.bool false, .int .i64 0, .int .i64 0, .int .i64 0, .int .i64 0, .bool false] 26)) = wa at *
  have qt0 : wa.cell? ⟨w.heap.size, 0, none⟩ = some (.bool on) := Ft.out.c 0 rfl
  have qt1 : wa.cell? ⟨w.heap.size, 1, none⟩ = some (.int .i64 x) := Ft.out.c 1 rfl
  have qt2 : wa.cell? ⟨w.heap.size, 2, none⟩ = some (.int .i64 y) := Ft.out.c 2 rfl
  have qt3 : wa.cell? ⟨w.heap.size, 3, none⟩ = some (.int .i64 z) := Ft.out.c 3 rfl
  have qt4 : wa.cell? ⟨w.heap.size, 4, none⟩ = some (.int .i64 s) := Ft.out.c 4 rfl
  have qt5 : wa.cell? ⟨w.heap.size, 5, none⟩ = some (.bool a) := Ft.out.c 5 rfl
  go_upto_region 2 with (first | (go_at_call 16; refine (HI.out _).mono ?_; rintro e w1 ⟨rfl, x1⟩; have a0 : w1.cell? ⟨(w.heap.size + 1), 0, none⟩ = some (.int .i64 v0) := (Fv.out.ext x1).c 0 rfl; have a1 : w1.cell? ⟨(w.heap.size + 1), 1, none⟩ = some (.int .i64 v1) := (Fv.out.ext x1).c 1 rfl; have a2 : w1.cell? ⟨(w.heap.size + 1), 2, none⟩ = some (.int .i64 v2) := (Fv.out.ext x1).c 2 rfl) | (go_at_call 17; refine (HC.out _).mono ?_; rintro e w2 ⟨rfl, x2⟩; have b4 : w2.cell? ⟨w.heap.size, 4, none⟩ = some (.int .i64 s) := (Ft.out.ext (x1.trans x2)).c 4 rfl) | (go_at_call 18; refine (HT.out _).mono ?_; rintro e wx ⟨rfl, hwx⟩; have hwy := hwx.symm; clear hwx; subst hwy))
  have Ft : Hid (HV w2 w.heap.size [.bool on, .int .i64 x, .int .i64 y, .int .i64 z, .int .i64 s, .bool a]) := Ft.out.ext (x1.trans x2)
  have Fv : Hid (HV w2 (w.heap.size + 1) [.int .i64 v0, .int .i64 v1, .int .i64 v2]) := Fv.out.ext (x1.trans x2)
  have Fu : Hid (HV w2 (w.heap.size + 2) [.bool false, .int .i64 0, .int .i64 0, .int .i64 0, .int .i64 0, .bool false]) := Fu.out.ext (x1.trans x2)
  have FX : Hid (Ext w w2) := FX.out.trans (x1.trans x2)
  clear qt0 qt1 qt2 qt3 qt4 qt5 a0 a1 a2 HI HC HT b4
  clear x1 x2
  have o0 : w2.cell? ⟨(w.heap.size + 2), 0, none⟩ = some (.bool false) := Fu.out.c 0 rfl
  have z0 : w2.frozen? ⟨(w.heap.size + 2), 0, none⟩ = false := Fu.out.f 0 rfl
  have o1 : w2.cell? ⟨(w.heap.size + 2), 1, none⟩ = some (.int .i64 0) := Fu.out.c 1 rfl
  have z1 : w2.frozen? ⟨(w.heap.size + 2), 1, none⟩ = false := Fu.out.f 1 rfl
  have o2 : w2.cell? ⟨(w.heap.size + 2), 2, none⟩ = some (.int .i64 0) := Fu.out.c 2 rfl
  have z2 : w2.frozen? ⟨(w.heap.size + 2), 2, none⟩ = false := Fu.out.f 2 rfl
  have o3 : w2.cell? ⟨(w.heap.size + 2), 3, none⟩ = some (.int .i64 0) := Fu.out.c 3 rfl
  have z3 : w2.frozen? ⟨(w.heap.size + 2), 3, none⟩ = false := Fu.out.f 3 rfl
  have o4 : w2.cell? ⟨(w.heap.size + 2), 4, none⟩ = some (.int .i64 0) := Fu.out.c 4 rfl
  have z4 : w2.frozen? ⟨(w.heap.size + 2), 4, none⟩ = false := Fu.out.f 4 rfl
  have o5 : w2.cell? ⟨(w.heap.size + 2), 5, none⟩ = some (.bool false) := Fu.out.c 5 rfl
  have z5 : w2.frozen? ⟨(w.heap.size + 2), 5, none⟩ = false := Fu.out.f 5 rfl
  go_wp2_with fail
  refine bodyPost_ret (v := .tuple #[.agg #[.bool false, .int .i64 0, .int .i64 0, .int .i64 0, .int .i64 0, .bool false], .bool false, .int .i64 1]) (by simp [results, Try.results8, go_sem, *]) rfl ⟨rfl, ?_⟩
  exact (Ext.set (Ext.set (Ext.set (Ext.set (Ext.set (Ext.set FX.out Lu.out _) Lu.out _) Lu.out _) Lu.out _) Lu.out _) Lu.out _)
set_option maxRecDepth 20000 in
set_option maxHeartbeats 16000000 in
theorem take_off (v0 v1 v2 n : Int) (w : World) (h2 : okD3 v0 v1 v2 = true) (h3 : okTm n = true) : Calls Try.prog 8 #[.agg #[.bool false, .int .i64 0, .int .i64 0, .int .i64 0, .int .i64 0, .bool false], .agg #[.int .i64 v0, .int .i64 v1, .int .i64 v2], .int .i64 n] w fun e w' => e = .returned (.tuple #[.agg #[.bool true, .int .i64 v0, .int .i64 v1, .int .i64 v2, .int .i64 0, .bool false], .bool false, .int .i64 0]) ∧ Ext w w' := by
  have h1 : okTl false 0 0 0 0 false = true := by kernel_rfl
  have HI : Hid (∀ w, Calls Try.prog 16 #[.agg #[.bool false, .int .i64 0, .int .i64 0, .int .i64 0, .int .i64 0, .bool false]] w fun e w' => e = .returned (.bool (okTl false 0 0 0 0 false)) ∧ Ext w w') := istl_any false 0 0 0 0 false
  have HC : Hid (∀ w, Calls Try.prog 17 #[.agg #[.int .i64 v0, .int .i64 v1, .int .i64 v2]] w fun e w' => e = .returned (.bool (okD3 v0 v1 v2)) ∧ Ext w w') := isdir_any v0 v1 v2
  have HT : Hid (∀ w, Calls Try.prog 18 #[.int .i64 n] w fun e w' => e = .returned (.bool (okTm n)) ∧ w' = w) := istime_any n
  obtain ⟨n1, n2⟩ := okTm_iff.1 h3
  have h5 : decide (n < 0) = false := by simp; omega
  clear n1 n2
  have HN : Hid (∀ w, Calls Try.prog 19 #[.agg #[.int .i64 v0, .int .i64 v1, .int .i64 v2]] w fun e w' => e = .returned (.agg #[.bool true, .int .i64 v0, .int .i64 v1, .int .i64 v2, .int .i64 0, .bool false]) ∧ Ext w w') := near_any v0 v1 v2
  rw [h1] at HI
  rw [h2] at HC
  rw [h3] at HT
  clear h1 h2 h3
  have Ft : Hid (HV (((w.alloc (.cells #[.bool false, .int .i64 0, .int .i64 0, .int .i64 0, .int .i64 0, .bool false] 26)).alloc (.cells #[.int .i64 v0, .int .i64 v1, .int .i64 v2] 24)).alloc (.cells #[.bool false, .int .i64 0, .int .i64 0, .int .i64 0, .int .i64 0, .bool false] 26)) w.heap.size [.bool false, .int .i64 0, .int .i64 0, .int .i64 0, .int .i64 0, .bool false]) := ((hv_at rfl).alloc _).alloc _
  have Fv : Hid (HV (((w.alloc (.cells #[.bool false, .int .i64 0, .int .i64 0, .int .i64 0, .int .i64 0, .bool false] 26)).alloc (.cells #[.int .i64 v0, .int .i64 v1, .int .i64 v2] 24)).alloc (.cells #[.bool false, .int .i64 0, .int .i64 0, .int .i64 0, .int .i64 0, .bool false] 26)) (w.heap.size + 1) [.int .i64 v0, .int .i64 v1, .int .i64 v2]) := (hv_at (by simp)).alloc _
  have Fu : Hid (HV (((w.alloc (.cells #[.bool false, .int .i64 0, .int .i64 0, .int .i64 0, .int .i64 0, .bool false] 26)).alloc (.cells #[.int .i64 v0, .int .i64 v1, .int .i64 v2] 24)).alloc (.cells #[.bool false, .int .i64 0, .int .i64 0, .int .i64 0, .int .i64 0, .bool false] 26)) (w.heap.size + 2) [.bool false, .int .i64 0, .int .i64 0, .int .i64 0, .int .i64 0, .bool false]) := hv_at (by simp)
  have Lu : Hid (w.heap.size ≤ w.heap.size + 2) := Nat.le_add_right _ _
  have FX : Hid (Ext w (((w.alloc (.cells #[.bool false, .int .i64 0, .int .i64 0, .int .i64 0, .int .i64 0, .bool false] 26)).alloc (.cells #[.int .i64 v0, .int .i64 v1, .int .i64 v2] 24)).alloc (.cells #[.bool false, .int .i64 0, .int .i64 0, .int .i64 0, .int .i64 0, .bool false] 26))) := (((Ext.refl w).alloc _).alloc _).alloc _
  go_enter Try.func8, Try.ntmps8
  go_upto_region 1 with fail
  generalize (((w.alloc (.cells #[.bool false, .int .i64 0, .int .i64 0, .int .i64 0, .int .i64 0, .bool false] 26)).alloc (.cells #[.int .i64 v0, .int .i64 v1, .int .i64 v2] 24)).alloc (.cells #[.bool false, .int .i64 0, .int .i64 0, .int .i64 0, .int .i64 0, .bool false] 26)) = wa at *
  have qt0 : wa.cell? ⟨w.heap.size, 0, none⟩ = some (.bool false) := Ft.out.c 0 rfl
  have qt1 : wa.cell? ⟨w.heap.size, 1, none⟩ = some (.int .i64 0) := Ft.out.c 1 rfl
  have qt2 : wa.cell? ⟨w.heap.size, 2, none⟩ = some (.int .i64 0) := Ft.out.c 2 rfl
  have qt3 : wa.cell? ⟨w.heap.size, 3, none⟩ = some (.int .i64 0) := Ft.out.c 3 rfl
  have qt4 : wa.cell? ⟨w.heap.size, 4, none⟩ = some (.int .i64 0) := Ft.out.c 4 rfl
  have qt5 : wa.cell? ⟨w.heap.size, 5, none⟩ = some (.bool false) := Ft.out.c 5 rfl
  go_upto_region 3 with (first | (go_at_call 16; refine (HI.out _).mono ?_; rintro e w1 ⟨rfl, x1⟩; have a0 : w1.cell? ⟨(w.heap.size + 1), 0, none⟩ = some (.int .i64 v0) := (Fv.out.ext x1).c 0 rfl; have a1 : w1.cell? ⟨(w.heap.size + 1), 1, none⟩ = some (.int .i64 v1) := (Fv.out.ext x1).c 1 rfl; have a2 : w1.cell? ⟨(w.heap.size + 1), 2, none⟩ = some (.int .i64 v2) := (Fv.out.ext x1).c 2 rfl) | (go_at_call 17; refine (HC.out _).mono ?_; rintro e w2 ⟨rfl, x2⟩; have b4 : w2.cell? ⟨w.heap.size, 4, none⟩ = some (.int .i64 0) := (Ft.out.ext (x1.trans x2)).c 4 rfl) | (go_at_call 18; refine (HT.out _).mono ?_; rintro e wx ⟨rfl, hwx⟩; have hwy := hwx.symm; clear hwx; subst hwy))
  have Ft : Hid (HV w2 w.heap.size [.bool false, .int .i64 0, .int .i64 0, .int .i64 0, .int .i64 0, .bool false]) := Ft.out.ext (x1.trans x2)
  have Fv : Hid (HV w2 (w.heap.size + 1) [.int .i64 v0, .int .i64 v1, .int .i64 v2]) := Fv.out.ext (x1.trans x2)
  have Fu : Hid (HV w2 (w.heap.size + 2) [.bool false, .int .i64 0, .int .i64 0, .int .i64 0, .int .i64 0, .bool false]) := Fu.out.ext (x1.trans x2)
  have FX : Hid (Ext w w2) := FX.out.trans (x1.trans x2)
  clear qt0 qt1 qt2 qt3 qt4 qt5 a0 a1 a2 HI HC HT b4
  clear x1 x2
  have qt0 : w2.cell? ⟨w.heap.size, 0, none⟩ = some (.bool false) := Ft.out.c 0 rfl
  have qv0 : w2.cell? ⟨(w.heap.size + 1), 0, none⟩ = some (.int .i64 v0) := Fv.out.c 0 rfl
  have qv1 : w2.cell? ⟨(w.heap.size + 1), 1, none⟩ = some (.int .i64 v1) := Fv.out.c 1 rfl
  have qv2 : w2.cell? ⟨(w.heap.size + 1), 2, none⟩ = some (.int .i64 v2) := Fv.out.c 2 rfl
  go_wp2_with (go_at_call 19; refine (HN.out _).mono ?_; rintro e w4 ⟨rfl, x4⟩; have ku0 : w4.cell? ⟨(w.heap.size + 2), 0, none⟩ = some (.bool false) := (Fu.out.ext x4).c 0 rfl; have zu0 : w4.frozen? ⟨(w.heap.size + 2), 0, none⟩ = false := (Fu.out.ext x4).f 0 rfl; have ku1 : w4.cell? ⟨(w.heap.size + 2), 1, none⟩ = some (.int .i64 0) := (Fu.out.ext x4).c 1 rfl; have zu1 : w4.frozen? ⟨(w.heap.size + 2), 1, none⟩ = false := (Fu.out.ext x4).f 1 rfl; have ku2 : w4.cell? ⟨(w.heap.size + 2), 2, none⟩ = some (.int .i64 0) := (Fu.out.ext x4).c 2 rfl; have zu2 : w4.frozen? ⟨(w.heap.size + 2), 2, none⟩ = false := (Fu.out.ext x4).f 2 rfl; have ku3 : w4.cell? ⟨(w.heap.size + 2), 3, none⟩ = some (.int .i64 0) := (Fu.out.ext x4).c 3 rfl; have zu3 : w4.frozen? ⟨(w.heap.size + 2), 3, none⟩ = false := (Fu.out.ext x4).f 3 rfl; have ku4 : w4.cell? ⟨(w.heap.size + 2), 4, none⟩ = some (.int .i64 0) := (Fu.out.ext x4).c 4 rfl; have zu4 : w4.frozen? ⟨(w.heap.size + 2), 4, none⟩ = false := (Fu.out.ext x4).f 4 rfl; have ku5 : w4.cell? ⟨(w.heap.size + 2), 5, none⟩ = some (.bool false) := (Fu.out.ext x4).c 5 rfl; have zu5 : w4.frozen? ⟨(w.heap.size + 2), 5, none⟩ = false := (Fu.out.ext x4).f 5 rfl)
  refine bodyPost_ret (v := .tuple #[.agg #[.bool true, .int .i64 v0, .int .i64 v1, .int .i64 v2, .int .i64 0, .bool false], .bool false, .int .i64 0]) (by simp [results, Try.results8, go_sem, *]) rfl ⟨rfl, ?_⟩
  exact (Ext.set (Ext.set (Ext.set (Ext.set (Ext.set (Ext.set (FX.out.trans x4) Lu.out _) Lu.out _) Lu.out _) Lu.out _) Lu.out _) Lu.out _)
set_option maxRecDepth 20000 in
set_option maxHeartbeats 16000000 in
theorem take_in (x y z s : Int) (a : Bool) (v0 v1 v2 n p : Int) (w : World) (h1 : okTl true x y z s a = true) (h2 : okD3 v0 v1 v2 = true) (h3 : okTm n = true) (h4 : s ≤ n) (HD : Hid (∀ w, Calls Try.prog 20 #[.agg #[.int .i64 x, .int .i64 y, .int .i64 z], .agg #[.int .i64 v0, .int .i64 v1, .int .i64 v2]] w fun e w' => e = .returned (.tuple #[.int .i64 p, .int .i64 0]) ∧ Ext w w')) (hp : 879557810 ≤ p) : Calls Try.prog 8 #[.agg #[.bool true, .int .i64 x, .int .i64 y, .int .i64 z, .int .i64 s, .bool a], .agg #[.int .i64 v0, .int .i64 v1, .int .i64 v2], .int .i64 n] w fun e w' => e = .returned (.tuple #[.agg #[.bool true, .int .i64 x, .int .i64 y, .int .i64 z, .int .i64 0, .bool false], .bool false, .int .i64 0]) ∧ Ext w w' := by
  have HI : Hid (∀ w, Calls Try.prog 16 #[.agg #[.bool true, .int .i64 x, .int .i64 y, .int .i64 z, .int .i64 s, .bool a]] w fun e w' => e = .returned (.bool (okTl true x y z s a)) ∧ Ext w w') := istl_any true x y z s a
  have HC : Hid (∀ w, Calls Try.prog 17 #[.agg #[.int .i64 v0, .int .i64 v1, .int .i64 v2]] w fun e w' => e = .returned (.bool (okD3 v0 v1 v2)) ∧ Ext w w') := isdir_any v0 v1 v2
  have HT : Hid (∀ w, Calls Try.prog 18 #[.int .i64 n] w fun e w' => e = .returned (.bool (okTm n)) ∧ w' = w) := istime_any n
  have HA : Hid (∀ w, Calls Try.prog 21 #[.int .i64 p] w fun e w' => e = .returned (.bool (decide (p < 879557810))) ∧ Ext w w') := apart_any p
  have h5 : decide (n < s) = false := by simp; omega
  have d1 : decide (p < 879557810) = false := by simp; omega
  rw [d1] at HA
  clear d1 hp h4
  have HN : Hid (∀ w, Calls Try.prog 19 #[.agg #[.int .i64 x, .int .i64 y, .int .i64 z]] w fun e w' => e = .returned (.agg #[.bool true, .int .i64 x, .int .i64 y, .int .i64 z, .int .i64 0, .bool false]) ∧ Ext w w') := near_any x y z
  rw [h1] at HI
  rw [h2] at HC
  rw [h3] at HT
  clear h1 h2 h3
  have Ft : Hid (HV (((w.alloc (.cells #[.bool true, .int .i64 x, .int .i64 y, .int .i64 z, .int .i64 s, .bool a] 26)).alloc (.cells #[.int .i64 v0, .int .i64 v1, .int .i64 v2] 24)).alloc (.cells #[.bool false, .int .i64 0, .int .i64 0, .int .i64 0, .int .i64 0, .bool false] 26)) w.heap.size [.bool true, .int .i64 x, .int .i64 y, .int .i64 z, .int .i64 s, .bool a]) := ((hv_at rfl).alloc _).alloc _
  have Fv : Hid (HV (((w.alloc (.cells #[.bool true, .int .i64 x, .int .i64 y, .int .i64 z, .int .i64 s, .bool a] 26)).alloc (.cells #[.int .i64 v0, .int .i64 v1, .int .i64 v2] 24)).alloc (.cells #[.bool false, .int .i64 0, .int .i64 0, .int .i64 0, .int .i64 0, .bool false] 26)) (w.heap.size + 1) [.int .i64 v0, .int .i64 v1, .int .i64 v2]) := (hv_at (by simp)).alloc _
  have Fu : Hid (HV (((w.alloc (.cells #[.bool true, .int .i64 x, .int .i64 y, .int .i64 z, .int .i64 s, .bool a] 26)).alloc (.cells #[.int .i64 v0, .int .i64 v1, .int .i64 v2] 24)).alloc (.cells #[.bool false, .int .i64 0, .int .i64 0, .int .i64 0, .int .i64 0, .bool false] 26)) (w.heap.size + 2) [.bool false, .int .i64 0, .int .i64 0, .int .i64 0, .int .i64 0, .bool false]) := hv_at (by simp)
  have Lu : Hid (w.heap.size ≤ w.heap.size + 2) := Nat.le_add_right _ _
  have FX : Hid (Ext w (((w.alloc (.cells #[.bool true, .int .i64 x, .int .i64 y, .int .i64 z, .int .i64 s, .bool a] 26)).alloc (.cells #[.int .i64 v0, .int .i64 v1, .int .i64 v2] 24)).alloc (.cells #[.bool false, .int .i64 0, .int .i64 0, .int .i64 0, .int .i64 0, .bool false] 26))) := (((Ext.refl w).alloc _).alloc _).alloc _
  go_enter Try.func8, Try.ntmps8
  go_upto_region 1 with fail
  generalize (((w.alloc (.cells #[.bool true, .int .i64 x, .int .i64 y, .int .i64 z, .int .i64 s, .bool a] 26)).alloc (.cells #[.int .i64 v0, .int .i64 v1, .int .i64 v2] 24)).alloc (.cells #[.bool false, .int .i64 0, .int .i64 0, .int .i64 0, .int .i64 0, .bool false] 26)) = wa at *
  have qt0 : wa.cell? ⟨w.heap.size, 0, none⟩ = some (.bool true) := Ft.out.c 0 rfl
  have qt1 : wa.cell? ⟨w.heap.size, 1, none⟩ = some (.int .i64 x) := Ft.out.c 1 rfl
  have qt2 : wa.cell? ⟨w.heap.size, 2, none⟩ = some (.int .i64 y) := Ft.out.c 2 rfl
  have qt3 : wa.cell? ⟨w.heap.size, 3, none⟩ = some (.int .i64 z) := Ft.out.c 3 rfl
  have qt4 : wa.cell? ⟨w.heap.size, 4, none⟩ = some (.int .i64 s) := Ft.out.c 4 rfl
  have qt5 : wa.cell? ⟨w.heap.size, 5, none⟩ = some (.bool a) := Ft.out.c 5 rfl
  go_upto_region 3 with (first | (go_at_call 16; refine (HI.out _).mono ?_; rintro e w1 ⟨rfl, x1⟩; have a0 : w1.cell? ⟨(w.heap.size + 1), 0, none⟩ = some (.int .i64 v0) := (Fv.out.ext x1).c 0 rfl; have a1 : w1.cell? ⟨(w.heap.size + 1), 1, none⟩ = some (.int .i64 v1) := (Fv.out.ext x1).c 1 rfl; have a2 : w1.cell? ⟨(w.heap.size + 1), 2, none⟩ = some (.int .i64 v2) := (Fv.out.ext x1).c 2 rfl) | (go_at_call 17; refine (HC.out _).mono ?_; rintro e w2 ⟨rfl, x2⟩; have b4 : w2.cell? ⟨w.heap.size, 4, none⟩ = some (.int .i64 s) := (Ft.out.ext (x1.trans x2)).c 4 rfl) | (go_at_call 18; refine (HT.out _).mono ?_; rintro e wx ⟨rfl, hwx⟩; have hwy := hwx.symm; clear hwx; subst hwy))
  have Ft : Hid (HV w2 w.heap.size [.bool true, .int .i64 x, .int .i64 y, .int .i64 z, .int .i64 s, .bool a]) := Ft.out.ext (x1.trans x2)
  have Fv : Hid (HV w2 (w.heap.size + 1) [.int .i64 v0, .int .i64 v1, .int .i64 v2]) := Fv.out.ext (x1.trans x2)
  have Fu : Hid (HV w2 (w.heap.size + 2) [.bool false, .int .i64 0, .int .i64 0, .int .i64 0, .int .i64 0, .bool false]) := Fu.out.ext (x1.trans x2)
  have FX : Hid (Ext w w2) := FX.out.trans (x1.trans x2)
  clear qt0 qt1 qt2 qt3 qt4 qt5 a0 a1 a2 HI HC HT b4
  clear x1 x2
  have qt0 : w2.cell? ⟨w.heap.size, 0, none⟩ = some (.bool true) := Ft.out.c 0 rfl
  go_upto_region 5 with fail
  clear qt0
  have qt1 : w2.cell? ⟨w.heap.size, 1, none⟩ = some (.int .i64 x) := Ft.out.c 1 rfl
  have qt2 : w2.cell? ⟨w.heap.size, 2, none⟩ = some (.int .i64 y) := Ft.out.c 2 rfl
  have qt3 : w2.cell? ⟨w.heap.size, 3, none⟩ = some (.int .i64 z) := Ft.out.c 3 rfl
  have qv0 : w2.cell? ⟨(w.heap.size + 1), 0, none⟩ = some (.int .i64 v0) := Fv.out.c 0 rfl
  have qv1 : w2.cell? ⟨(w.heap.size + 1), 1, none⟩ = some (.int .i64 v1) := Fv.out.c 1 rfl
  have qv2 : w2.cell? ⟨(w.heap.size + 1), 2, none⟩ = some (.int .i64 v2) := Fv.out.c 2 rfl
  go_upto_region 6 with (first | (go_at_call 20; refine (HD.out _).mono ?_; rintro e w3 ⟨rfl, x3⟩))
  have Ft : Hid (HV w3 w.heap.size [.bool true, .int .i64 x, .int .i64 y, .int .i64 z, .int .i64 s, .bool a]) := Ft.out.ext x3
  have Fv : Hid (HV w3 (w.heap.size + 1) [.int .i64 v0, .int .i64 v1, .int .i64 v2]) := Fv.out.ext x3
  have Fu : Hid (HV w3 (w.heap.size + 2) [.bool false, .int .i64 0, .int .i64 0, .int .i64 0, .int .i64 0, .bool false]) := Fu.out.ext x3
  have FX : Hid (Ext w w3) := FX.out.trans x3
  clear qt1 qt2 qt3 qv0 qv1 qv2 x3 HD
  go_upto_region 8 with fail
  go_upto_region 9 with (first | (go_at_call 21; refine (HA.out _).mono ?_; rintro e w4 ⟨rfl, x4⟩))
  have Ft : Hid (HV w4 w.heap.size [.bool true, .int .i64 x, .int .i64 y, .int .i64 z, .int .i64 s, .bool a]) := Ft.out.ext x4
  have Fv : Hid (HV w4 (w.heap.size + 1) [.int .i64 v0, .int .i64 v1, .int .i64 v2]) := Fv.out.ext x4
  have Fu : Hid (HV w4 (w.heap.size + 2) [.bool false, .int .i64 0, .int .i64 0, .int .i64 0, .int .i64 0, .bool false]) := Fu.out.ext x4
  have FX : Hid (Ext w w4) := FX.out.trans x4
  clear x4 HA
  have qt1 : w4.cell? ⟨w.heap.size, 1, none⟩ = some (.int .i64 x) := Ft.out.c 1 rfl
  have qt2 : w4.cell? ⟨w.heap.size, 2, none⟩ = some (.int .i64 y) := Ft.out.c 2 rfl
  have qt3 : w4.cell? ⟨w.heap.size, 3, none⟩ = some (.int .i64 z) := Ft.out.c 3 rfl
  go_wp2_with (go_at_call 19; refine (HN.out _).mono ?_; rintro e w5 ⟨rfl, x5⟩; have ku0 : w5.cell? ⟨(w.heap.size + 2), 0, none⟩ = some (.bool false) := (Fu.out.ext x5).c 0 rfl; have zu0 : w5.frozen? ⟨(w.heap.size + 2), 0, none⟩ = false := (Fu.out.ext x5).f 0 rfl; have ku1 : w5.cell? ⟨(w.heap.size + 2), 1, none⟩ = some (.int .i64 0) := (Fu.out.ext x5).c 1 rfl; have zu1 : w5.frozen? ⟨(w.heap.size + 2), 1, none⟩ = false := (Fu.out.ext x5).f 1 rfl; have ku2 : w5.cell? ⟨(w.heap.size + 2), 2, none⟩ = some (.int .i64 0) := (Fu.out.ext x5).c 2 rfl; have zu2 : w5.frozen? ⟨(w.heap.size + 2), 2, none⟩ = false := (Fu.out.ext x5).f 2 rfl; have ku3 : w5.cell? ⟨(w.heap.size + 2), 3, none⟩ = some (.int .i64 0) := (Fu.out.ext x5).c 3 rfl; have zu3 : w5.frozen? ⟨(w.heap.size + 2), 3, none⟩ = false := (Fu.out.ext x5).f 3 rfl; have ku4 : w5.cell? ⟨(w.heap.size + 2), 4, none⟩ = some (.int .i64 0) := (Fu.out.ext x5).c 4 rfl; have zu4 : w5.frozen? ⟨(w.heap.size + 2), 4, none⟩ = false := (Fu.out.ext x5).f 4 rfl; have ku5 : w5.cell? ⟨(w.heap.size + 2), 5, none⟩ = some (.bool false) := (Fu.out.ext x5).c 5 rfl; have zu5 : w5.frozen? ⟨(w.heap.size + 2), 5, none⟩ = false := (Fu.out.ext x5).f 5 rfl)
  refine bodyPost_ret (v := .tuple #[.agg #[.bool true, .int .i64 x, .int .i64 y, .int .i64 z, .int .i64 0, .bool false], .bool false, .int .i64 0]) (by simp [results, Try.results8, go_sem, *]) rfl ⟨rfl, ?_⟩
  exact (Ext.set (Ext.set (Ext.set (Ext.set (Ext.set (Ext.set (FX.out.trans x5) Lu.out _) Lu.out _) Lu.out _) Lu.out _) Lu.out _) Lu.out _)
set_option maxRecDepth 20000 in
set_option maxHeartbeats 16000000 in
theorem take_out (x y z s v0 v1 v2 n p : Int) (w : World) (h1 : okTl true x y z s false = true) (h2 : okD3 v0 v1 v2 = true) (h3 : okTm n = true) (h4 : s ≤ n) (HD : Hid (∀ w, Calls Try.prog 20 #[.agg #[.int .i64 x, .int .i64 y, .int .i64 z], .agg #[.int .i64 v0, .int .i64 v1, .int .i64 v2]] w fun e w' => e = .returned (.tuple #[.int .i64 p, .int .i64 0]) ∧ Ext w w')) (hp : p < 879557810) : Calls Try.prog 8 #[.agg #[.bool true, .int .i64 x, .int .i64 y, .int .i64 z, .int .i64 s, .bool false], .agg #[.int .i64 v0, .int .i64 v1, .int .i64 v2], .int .i64 n] w fun e w' => e = .returned (.tuple #[.agg #[.bool true, .int .i64 x, .int .i64 y, .int .i64 z, .int .i64 n, .bool true], .bool false, .int .i64 0]) ∧ Ext w w' := by
  have HI : Hid (∀ w, Calls Try.prog 16 #[.agg #[.bool true, .int .i64 x, .int .i64 y, .int .i64 z, .int .i64 s, .bool false]] w fun e w' => e = .returned (.bool (okTl true x y z s false)) ∧ Ext w w') := istl_any true x y z s false
  have HC : Hid (∀ w, Calls Try.prog 17 #[.agg #[.int .i64 v0, .int .i64 v1, .int .i64 v2]] w fun e w' => e = .returned (.bool (okD3 v0 v1 v2)) ∧ Ext w w') := isdir_any v0 v1 v2
  have HT : Hid (∀ w, Calls Try.prog 18 #[.int .i64 n] w fun e w' => e = .returned (.bool (okTm n)) ∧ w' = w) := istime_any n
  have HA : Hid (∀ w, Calls Try.prog 21 #[.int .i64 p] w fun e w' => e = .returned (.bool (decide (p < 879557810))) ∧ Ext w w') := apart_any p
  have h5 : decide (n < s) = false := by simp; omega
  have d1 : decide (p < 879557810) = true := by simp; omega
  rw [d1] at HA
  clear d1 hp h4
  rw [h1] at HI
  rw [h2] at HC
  rw [h3] at HT
  clear h1 h2 h3
  have Ft : Hid (HV (((w.alloc (.cells #[.bool true, .int .i64 x, .int .i64 y, .int .i64 z, .int .i64 s, .bool false] 26)).alloc (.cells #[.int .i64 v0, .int .i64 v1, .int .i64 v2] 24)).alloc (.cells #[.bool false, .int .i64 0, .int .i64 0, .int .i64 0, .int .i64 0, .bool false] 26)) w.heap.size [.bool true, .int .i64 x, .int .i64 y, .int .i64 z, .int .i64 s, .bool false]) := ((hv_at rfl).alloc _).alloc _
  have Fv : Hid (HV (((w.alloc (.cells #[.bool true, .int .i64 x, .int .i64 y, .int .i64 z, .int .i64 s, .bool false] 26)).alloc (.cells #[.int .i64 v0, .int .i64 v1, .int .i64 v2] 24)).alloc (.cells #[.bool false, .int .i64 0, .int .i64 0, .int .i64 0, .int .i64 0, .bool false] 26)) (w.heap.size + 1) [.int .i64 v0, .int .i64 v1, .int .i64 v2]) := (hv_at (by simp)).alloc _
  have Fu : Hid (HV (((w.alloc (.cells #[.bool true, .int .i64 x, .int .i64 y, .int .i64 z, .int .i64 s, .bool false] 26)).alloc (.cells #[.int .i64 v0, .int .i64 v1, .int .i64 v2] 24)).alloc (.cells #[.bool false, .int .i64 0, .int .i64 0, .int .i64 0, .int .i64 0, .bool false] 26)) (w.heap.size + 2) [.bool false, .int .i64 0, .int .i64 0, .int .i64 0, .int .i64 0, .bool false]) := hv_at (by simp)
  have Lu : Hid (w.heap.size ≤ w.heap.size + 2) := Nat.le_add_right _ _
  have FX : Hid (Ext w (((w.alloc (.cells #[.bool true, .int .i64 x, .int .i64 y, .int .i64 z, .int .i64 s, .bool false] 26)).alloc (.cells #[.int .i64 v0, .int .i64 v1, .int .i64 v2] 24)).alloc (.cells #[.bool false, .int .i64 0, .int .i64 0, .int .i64 0, .int .i64 0, .bool false] 26))) := (((Ext.refl w).alloc _).alloc _).alloc _
  go_enter Try.func8, Try.ntmps8
  go_upto_region 1 with fail
  generalize (((w.alloc (.cells #[.bool true, .int .i64 x, .int .i64 y, .int .i64 z, .int .i64 s, .bool false] 26)).alloc (.cells #[.int .i64 v0, .int .i64 v1, .int .i64 v2] 24)).alloc (.cells #[.bool false, .int .i64 0, .int .i64 0, .int .i64 0, .int .i64 0, .bool false] 26)) = wa at *
  have qt0 : wa.cell? ⟨w.heap.size, 0, none⟩ = some (.bool true) := Ft.out.c 0 rfl
  have qt1 : wa.cell? ⟨w.heap.size, 1, none⟩ = some (.int .i64 x) := Ft.out.c 1 rfl
  have qt2 : wa.cell? ⟨w.heap.size, 2, none⟩ = some (.int .i64 y) := Ft.out.c 2 rfl
  have qt3 : wa.cell? ⟨w.heap.size, 3, none⟩ = some (.int .i64 z) := Ft.out.c 3 rfl
  have qt4 : wa.cell? ⟨w.heap.size, 4, none⟩ = some (.int .i64 s) := Ft.out.c 4 rfl
  have qt5 : wa.cell? ⟨w.heap.size, 5, none⟩ = some (.bool false) := Ft.out.c 5 rfl
  go_upto_region 3 with (first | (go_at_call 16; refine (HI.out _).mono ?_; rintro e w1 ⟨rfl, x1⟩; have a0 : w1.cell? ⟨(w.heap.size + 1), 0, none⟩ = some (.int .i64 v0) := (Fv.out.ext x1).c 0 rfl; have a1 : w1.cell? ⟨(w.heap.size + 1), 1, none⟩ = some (.int .i64 v1) := (Fv.out.ext x1).c 1 rfl; have a2 : w1.cell? ⟨(w.heap.size + 1), 2, none⟩ = some (.int .i64 v2) := (Fv.out.ext x1).c 2 rfl) | (go_at_call 17; refine (HC.out _).mono ?_; rintro e w2 ⟨rfl, x2⟩; have b4 : w2.cell? ⟨w.heap.size, 4, none⟩ = some (.int .i64 s) := (Ft.out.ext (x1.trans x2)).c 4 rfl) | (go_at_call 18; refine (HT.out _).mono ?_; rintro e wx ⟨rfl, hwx⟩; have hwy := hwx.symm; clear hwx; subst hwy))
  have Ft : Hid (HV w2 w.heap.size [.bool true, .int .i64 x, .int .i64 y, .int .i64 z, .int .i64 s, .bool false]) := Ft.out.ext (x1.trans x2)
  have Fv : Hid (HV w2 (w.heap.size + 1) [.int .i64 v0, .int .i64 v1, .int .i64 v2]) := Fv.out.ext (x1.trans x2)
  have Fu : Hid (HV w2 (w.heap.size + 2) [.bool false, .int .i64 0, .int .i64 0, .int .i64 0, .int .i64 0, .bool false]) := Fu.out.ext (x1.trans x2)
  have FX : Hid (Ext w w2) := FX.out.trans (x1.trans x2)
  clear qt0 qt1 qt2 qt3 qt4 qt5 a0 a1 a2 HI HC HT b4
  clear x1 x2
  have qt0 : w2.cell? ⟨w.heap.size, 0, none⟩ = some (.bool true) := Ft.out.c 0 rfl
  go_upto_region 5 with fail
  clear qt0
  have qt1 : w2.cell? ⟨w.heap.size, 1, none⟩ = some (.int .i64 x) := Ft.out.c 1 rfl
  have qt2 : w2.cell? ⟨w.heap.size, 2, none⟩ = some (.int .i64 y) := Ft.out.c 2 rfl
  have qt3 : w2.cell? ⟨w.heap.size, 3, none⟩ = some (.int .i64 z) := Ft.out.c 3 rfl
  have qv0 : w2.cell? ⟨(w.heap.size + 1), 0, none⟩ = some (.int .i64 v0) := Fv.out.c 0 rfl
  have qv1 : w2.cell? ⟨(w.heap.size + 1), 1, none⟩ = some (.int .i64 v1) := Fv.out.c 1 rfl
  have qv2 : w2.cell? ⟨(w.heap.size + 1), 2, none⟩ = some (.int .i64 v2) := Fv.out.c 2 rfl
  go_upto_region 6 with (first | (go_at_call 20; refine (HD.out _).mono ?_; rintro e w3 ⟨rfl, x3⟩))
  have Ft : Hid (HV w3 w.heap.size [.bool true, .int .i64 x, .int .i64 y, .int .i64 z, .int .i64 s, .bool false]) := Ft.out.ext x3
  have Fv : Hid (HV w3 (w.heap.size + 1) [.int .i64 v0, .int .i64 v1, .int .i64 v2]) := Fv.out.ext x3
  have Fu : Hid (HV w3 (w.heap.size + 2) [.bool false, .int .i64 0, .int .i64 0, .int .i64 0, .int .i64 0, .bool false]) := Fu.out.ext x3
  have FX : Hid (Ext w w3) := FX.out.trans x3
  clear qt1 qt2 qt3 qv0 qv1 qv2 x3 HD
  go_upto_region 8 with fail
  go_upto_region 10 with (first | (go_at_call 21; refine (HA.out _).mono ?_; rintro e w4 ⟨rfl, x4⟩))
  have Ft : Hid (HV w4 w.heap.size [.bool true, .int .i64 x, .int .i64 y, .int .i64 z, .int .i64 s, .bool false]) := Ft.out.ext x4
  have Fv : Hid (HV w4 (w.heap.size + 1) [.int .i64 v0, .int .i64 v1, .int .i64 v2]) := Fv.out.ext x4
  have Fu : Hid (HV w4 (w.heap.size + 2) [.bool false, .int .i64 0, .int .i64 0, .int .i64 0, .int .i64 0, .bool false]) := Fu.out.ext x4
  have FX : Hid (Ext w w4) := FX.out.trans x4
  clear x4 HA
  have qt1 : w4.cell? ⟨w.heap.size, 1, none⟩ = some (.int .i64 x) := Ft.out.c 1 rfl
  have qt2 : w4.cell? ⟨w.heap.size, 2, none⟩ = some (.int .i64 y) := Ft.out.c 2 rfl
  have qt3 : w4.cell? ⟨w.heap.size, 3, none⟩ = some (.int .i64 z) := Ft.out.c 3 rfl
  have qt5 : w4.cell? ⟨w.heap.size, 5, none⟩ = some (.bool false) := Ft.out.c 5 rfl
  have o0 : w4.cell? ⟨(w.heap.size + 2), 0, none⟩ = some (.bool false) := Fu.out.c 0 rfl
  have z0 : w4.frozen? ⟨(w.heap.size + 2), 0, none⟩ = false := Fu.out.f 0 rfl
  have o1 : w4.cell? ⟨(w.heap.size + 2), 1, none⟩ = some (.int .i64 0) := Fu.out.c 1 rfl
  have z1 : w4.frozen? ⟨(w.heap.size + 2), 1, none⟩ = false := Fu.out.f 1 rfl
  have o2 : w4.cell? ⟨(w.heap.size + 2), 2, none⟩ = some (.int .i64 0) := Fu.out.c 2 rfl
  have z2 : w4.frozen? ⟨(w.heap.size + 2), 2, none⟩ = false := Fu.out.f 2 rfl
  have o3 : w4.cell? ⟨(w.heap.size + 2), 3, none⟩ = some (.int .i64 0) := Fu.out.c 3 rfl
  have z3 : w4.frozen? ⟨(w.heap.size + 2), 3, none⟩ = false := Fu.out.f 3 rfl
  have o4 : w4.cell? ⟨(w.heap.size + 2), 4, none⟩ = some (.int .i64 0) := Fu.out.c 4 rfl
  have z4 : w4.frozen? ⟨(w.heap.size + 2), 4, none⟩ = false := Fu.out.f 4 rfl
  have o5 : w4.cell? ⟨(w.heap.size + 2), 5, none⟩ = some (.bool false) := Fu.out.c 5 rfl
  have z5 : w4.frozen? ⟨(w.heap.size + 2), 5, none⟩ = false := Fu.out.f 5 rfl
  go_wp2_with fail
  refine bodyPost_ret (v := .tuple #[.agg #[.bool true, .int .i64 x, .int .i64 y, .int .i64 z, .int .i64 n, .bool true], .bool false, .int .i64 0]) (by simp [results, Try.results8, go_sem, *]) rfl ⟨rfl, ?_⟩
  exact (Ext.set (Ext.set (Ext.set (Ext.set (Ext.set (Ext.set FX.out Lu.out _) Lu.out _) Lu.out _) Lu.out _) Lu.out _) Lu.out _)
set_option maxRecDepth 20000 in
set_option maxHeartbeats 16000000 in
theorem take_tell (x y z s v0 v1 v2 n p : Int) (w : World) (h1 : okTl true x y z s true = true) (h2 : okD3 v0 v1 v2 = true) (h3 : okTm n = true) (h4 : s ≤ n) (HD : Hid (∀ w, Calls Try.prog 20 #[.agg #[.int .i64 x, .int .i64 y, .int .i64 z], .agg #[.int .i64 v0, .int .i64 v1, .int .i64 v2]] w fun e w' => e = .returned (.tuple #[.int .i64 p, .int .i64 0]) ∧ Ext w w')) (hp : p < 879557810) (hn : 2000 ≤ n - s) : Calls Try.prog 8 #[.agg #[.bool true, .int .i64 x, .int .i64 y, .int .i64 z, .int .i64 s, .bool true], .agg #[.int .i64 v0, .int .i64 v1, .int .i64 v2], .int .i64 n] w fun e w' => e = .returned (.tuple #[.agg #[.bool true, .int .i64 v0, .int .i64 v1, .int .i64 v2, .int .i64 0, .bool false], .bool true, .int .i64 0]) ∧ Ext w w' := by
  have HI : Hid (∀ w, Calls Try.prog 16 #[.agg #[.bool true, .int .i64 x, .int .i64 y, .int .i64 z, .int .i64 s, .bool true]] w fun e w' => e = .returned (.bool (okTl true x y z s true)) ∧ Ext w w') := istl_any true x y z s true
  have HC : Hid (∀ w, Calls Try.prog 17 #[.agg #[.int .i64 v0, .int .i64 v1, .int .i64 v2]] w fun e w' => e = .returned (.bool (okD3 v0 v1 v2)) ∧ Ext w w') := isdir_any v0 v1 v2
  have HT : Hid (∀ w, Calls Try.prog 18 #[.int .i64 n] w fun e w' => e = .returned (.bool (okTm n)) ∧ w' = w) := istime_any n
  have HA : Hid (∀ w, Calls Try.prog 21 #[.int .i64 p] w fun e w' => e = .returned (.bool (decide (p < 879557810))) ∧ Ext w w') := apart_any p
  have h5 : decide (n < s) = false := by simp; omega
  have d1 : decide (p < 879557810) = true := by simp; omega
  have d2 : wrap64 (n - s) = n - s := by obtain ⟨n1, n2⟩ := okTm_iff.1 h3; have h := h1; unfold okTl at h; simp [okTm_iff] at h; unfold wrap64; omega
  rw [d1] at HA
  have d3 : decide (2000 ≤ n - s) = true := by simpa using hn
  clear d1 hp h4 hn
  have HN : Hid (∀ w, Calls Try.prog 19 #[.agg #[.int .i64 v0, .int .i64 v1, .int .i64 v2]] w fun e w' => e = .returned (.agg #[.bool true, .int .i64 v0, .int .i64 v1, .int .i64 v2, .int .i64 0, .bool false]) ∧ Ext w w') := near_any v0 v1 v2
  rw [h1] at HI
  rw [h2] at HC
  rw [h3] at HT
  clear h1 h2 h3
  have Ft : Hid (HV (((w.alloc (.cells #[.bool true, .int .i64 x, .int .i64 y, .int .i64 z, .int .i64 s, .bool true] 26)).alloc (.cells #[.int .i64 v0, .int .i64 v1, .int .i64 v2] 24)).alloc (.cells #[.bool false, .int .i64 0, .int .i64 0, .int .i64 0, .int .i64 0, .bool false] 26)) w.heap.size [.bool true, .int .i64 x, .int .i64 y, .int .i64 z, .int .i64 s, .bool true]) := ((hv_at rfl).alloc _).alloc _
  have Fv : Hid (HV (((w.alloc (.cells #[.bool true, .int .i64 x, .int .i64 y, .int .i64 z, .int .i64 s, .bool true] 26)).alloc (.cells #[.int .i64 v0, .int .i64 v1, .int .i64 v2] 24)).alloc (.cells #[.bool false, .int .i64 0, .int .i64 0, .int .i64 0, .int .i64 0, .bool false] 26)) (w.heap.size + 1) [.int .i64 v0, .int .i64 v1, .int .i64 v2]) := (hv_at (by simp)).alloc _
  have Fu : Hid (HV (((w.alloc (.cells #[.bool true, .int .i64 x, .int .i64 y, .int .i64 z, .int .i64 s, .bool true] 26)).alloc (.cells #[.int .i64 v0, .int .i64 v1, .int .i64 v2] 24)).alloc (.cells #[.bool false, .int .i64 0, .int .i64 0, .int .i64 0, .int .i64 0, .bool false] 26)) (w.heap.size + 2) [.bool false, .int .i64 0, .int .i64 0, .int .i64 0, .int .i64 0, .bool false]) := hv_at (by simp)
  have Lu : Hid (w.heap.size ≤ w.heap.size + 2) := Nat.le_add_right _ _
  have FX : Hid (Ext w (((w.alloc (.cells #[.bool true, .int .i64 x, .int .i64 y, .int .i64 z, .int .i64 s, .bool true] 26)).alloc (.cells #[.int .i64 v0, .int .i64 v1, .int .i64 v2] 24)).alloc (.cells #[.bool false, .int .i64 0, .int .i64 0, .int .i64 0, .int .i64 0, .bool false] 26))) := (((Ext.refl w).alloc _).alloc _).alloc _
  go_enter Try.func8, Try.ntmps8
  go_upto_region 1 with fail
  generalize (((w.alloc (.cells #[.bool true, .int .i64 x, .int .i64 y, .int .i64 z, .int .i64 s, .bool true] 26)).alloc (.cells #[.int .i64 v0, .int .i64 v1, .int .i64 v2] 24)).alloc (.cells #[.bool false, .int .i64 0, .int .i64 0, .int .i64 0, .int .i64 0, .bool false] 26)) = wa at *
  have qt0 : wa.cell? ⟨w.heap.size, 0, none⟩ = some (.bool true) := Ft.out.c 0 rfl
  have qt1 : wa.cell? ⟨w.heap.size, 1, none⟩ = some (.int .i64 x) := Ft.out.c 1 rfl
  have qt2 : wa.cell? ⟨w.heap.size, 2, none⟩ = some (.int .i64 y) := Ft.out.c 2 rfl
  have qt3 : wa.cell? ⟨w.heap.size, 3, none⟩ = some (.int .i64 z) := Ft.out.c 3 rfl
  have qt4 : wa.cell? ⟨w.heap.size, 4, none⟩ = some (.int .i64 s) := Ft.out.c 4 rfl
  have qt5 : wa.cell? ⟨w.heap.size, 5, none⟩ = some (.bool true) := Ft.out.c 5 rfl
  go_upto_region 3 with (first | (go_at_call 16; refine (HI.out _).mono ?_; rintro e w1 ⟨rfl, x1⟩; have a0 : w1.cell? ⟨(w.heap.size + 1), 0, none⟩ = some (.int .i64 v0) := (Fv.out.ext x1).c 0 rfl; have a1 : w1.cell? ⟨(w.heap.size + 1), 1, none⟩ = some (.int .i64 v1) := (Fv.out.ext x1).c 1 rfl; have a2 : w1.cell? ⟨(w.heap.size + 1), 2, none⟩ = some (.int .i64 v2) := (Fv.out.ext x1).c 2 rfl) | (go_at_call 17; refine (HC.out _).mono ?_; rintro e w2 ⟨rfl, x2⟩; have b4 : w2.cell? ⟨w.heap.size, 4, none⟩ = some (.int .i64 s) := (Ft.out.ext (x1.trans x2)).c 4 rfl) | (go_at_call 18; refine (HT.out _).mono ?_; rintro e wx ⟨rfl, hwx⟩; have hwy := hwx.symm; clear hwx; subst hwy))
  have Ft : Hid (HV w2 w.heap.size [.bool true, .int .i64 x, .int .i64 y, .int .i64 z, .int .i64 s, .bool true]) := Ft.out.ext (x1.trans x2)
  have Fv : Hid (HV w2 (w.heap.size + 1) [.int .i64 v0, .int .i64 v1, .int .i64 v2]) := Fv.out.ext (x1.trans x2)
  have Fu : Hid (HV w2 (w.heap.size + 2) [.bool false, .int .i64 0, .int .i64 0, .int .i64 0, .int .i64 0, .bool false]) := Fu.out.ext (x1.trans x2)
  have FX : Hid (Ext w w2) := FX.out.trans (x1.trans x2)
  clear qt0 qt1 qt2 qt3 qt4 qt5 a0 a1 a2 HI HC HT b4
  clear x1 x2
  have qt0 : w2.cell? ⟨w.heap.size, 0, none⟩ = some (.bool true) := Ft.out.c 0 rfl
  go_upto_region 5 with fail
  clear qt0
  have qt1 : w2.cell? ⟨w.heap.size, 1, none⟩ = some (.int .i64 x) := Ft.out.c 1 rfl
  have qt2 : w2.cell? ⟨w.heap.size, 2, none⟩ = some (.int .i64 y) := Ft.out.c 2 rfl
  have qt3 : w2.cell? ⟨w.heap.size, 3, none⟩ = some (.int .i64 z) := Ft.out.c 3 rfl
  have qv0 : w2.cell? ⟨(w.heap.size + 1), 0, none⟩ = some (.int .i64 v0) := Fv.out.c 0 rfl
  have qv1 : w2.cell? ⟨(w.heap.size + 1), 1, none⟩ = some (.int .i64 v1) := Fv.out.c 1 rfl
  have qv2 : w2.cell? ⟨(w.heap.size + 1), 2, none⟩ = some (.int .i64 v2) := Fv.out.c 2 rfl
  go_upto_region 6 with (first | (go_at_call 20; refine (HD.out _).mono ?_; rintro e w3 ⟨rfl, x3⟩))
  have Ft : Hid (HV w3 w.heap.size [.bool true, .int .i64 x, .int .i64 y, .int .i64 z, .int .i64 s, .bool true]) := Ft.out.ext x3
  have Fv : Hid (HV w3 (w.heap.size + 1) [.int .i64 v0, .int .i64 v1, .int .i64 v2]) := Fv.out.ext x3
  have Fu : Hid (HV w3 (w.heap.size + 2) [.bool false, .int .i64 0, .int .i64 0, .int .i64 0, .int .i64 0, .bool false]) := Fu.out.ext x3
  have FX : Hid (Ext w w3) := FX.out.trans x3
  clear qt1 qt2 qt3 qv0 qv1 qv2 x3 HD
  go_upto_region 8 with fail
  go_upto_region 10 with (first | (go_at_call 21; refine (HA.out _).mono ?_; rintro e w4 ⟨rfl, x4⟩))
  have Ft : Hid (HV w4 w.heap.size [.bool true, .int .i64 x, .int .i64 y, .int .i64 z, .int .i64 s, .bool true]) := Ft.out.ext x4
  have Fv : Hid (HV w4 (w.heap.size + 1) [.int .i64 v0, .int .i64 v1, .int .i64 v2]) := Fv.out.ext x4
  have Fu : Hid (HV w4 (w.heap.size + 2) [.bool false, .int .i64 0, .int .i64 0, .int .i64 0, .int .i64 0, .bool false]) := Fu.out.ext x4
  have FX : Hid (Ext w w4) := FX.out.trans x4
  clear x4 HA
  have qt4 : w4.cell? ⟨w.heap.size, 4, none⟩ = some (.int .i64 s) := Ft.out.c 4 rfl
  have qt5 : w4.cell? ⟨w.heap.size, 5, none⟩ = some (.bool true) := Ft.out.c 5 rfl
  have qv0 : w4.cell? ⟨(w.heap.size + 1), 0, none⟩ = some (.int .i64 v0) := Fv.out.c 0 rfl
  have qv1 : w4.cell? ⟨(w.heap.size + 1), 1, none⟩ = some (.int .i64 v1) := Fv.out.c 1 rfl
  have qv2 : w4.cell? ⟨(w.heap.size + 1), 2, none⟩ = some (.int .i64 v2) := Fv.out.c 2 rfl
  go_upto_region 12 with fail
  go_upto_region 13 with fail
  go_wp2_with (go_at_call 19; refine (HN.out _).mono ?_; rintro e w5 ⟨rfl, x5⟩; have ku0 : w5.cell? ⟨(w.heap.size + 2), 0, none⟩ = some (.bool false) := (Fu.out.ext x5).c 0 rfl; have zu0 : w5.frozen? ⟨(w.heap.size + 2), 0, none⟩ = false := (Fu.out.ext x5).f 0 rfl; have ku1 : w5.cell? ⟨(w.heap.size + 2), 1, none⟩ = some (.int .i64 0) := (Fu.out.ext x5).c 1 rfl; have zu1 : w5.frozen? ⟨(w.heap.size + 2), 1, none⟩ = false := (Fu.out.ext x5).f 1 rfl; have ku2 : w5.cell? ⟨(w.heap.size + 2), 2, none⟩ = some (.int .i64 0) := (Fu.out.ext x5).c 2 rfl; have zu2 : w5.frozen? ⟨(w.heap.size + 2), 2, none⟩ = false := (Fu.out.ext x5).f 2 rfl; have ku3 : w5.cell? ⟨(w.heap.size + 2), 3, none⟩ = some (.int .i64 0) := (Fu.out.ext x5).c 3 rfl; have zu3 : w5.frozen? ⟨(w.heap.size + 2), 3, none⟩ = false := (Fu.out.ext x5).f 3 rfl; have ku4 : w5.cell? ⟨(w.heap.size + 2), 4, none⟩ = some (.int .i64 0) := (Fu.out.ext x5).c 4 rfl; have zu4 : w5.frozen? ⟨(w.heap.size + 2), 4, none⟩ = false := (Fu.out.ext x5).f 4 rfl; have ku5 : w5.cell? ⟨(w.heap.size + 2), 5, none⟩ = some (.bool false) := (Fu.out.ext x5).c 5 rfl; have zu5 : w5.frozen? ⟨(w.heap.size + 2), 5, none⟩ = false := (Fu.out.ext x5).f 5 rfl)
  refine bodyPost_ret (v := .tuple #[.agg #[.bool true, .int .i64 v0, .int .i64 v1, .int .i64 v2, .int .i64 0, .bool false], .bool true, .int .i64 0]) (by simp [results, Try.results8, go_sem, *]) rfl ⟨rfl, ?_⟩
  exact (Ext.set (Ext.set (Ext.set (Ext.set (Ext.set (Ext.set (FX.out.trans x5) Lu.out _) Lu.out _) Lu.out _) Lu.out _) Lu.out _) Lu.out _)
set_option maxRecDepth 20000 in
set_option maxHeartbeats 16000000 in
theorem take_stay (x y z s v0 v1 v2 n p : Int) (w : World) (h1 : okTl true x y z s true = true) (h2 : okD3 v0 v1 v2 = true) (h3 : okTm n = true) (h4 : s ≤ n) (HD : Hid (∀ w, Calls Try.prog 20 #[.agg #[.int .i64 x, .int .i64 y, .int .i64 z], .agg #[.int .i64 v0, .int .i64 v1, .int .i64 v2]] w fun e w' => e = .returned (.tuple #[.int .i64 p, .int .i64 0]) ∧ Ext w w')) (hp : p < 879557810) (hn : n - s < 2000) : Calls Try.prog 8 #[.agg #[.bool true, .int .i64 x, .int .i64 y, .int .i64 z, .int .i64 s, .bool true], .agg #[.int .i64 v0, .int .i64 v1, .int .i64 v2], .int .i64 n] w fun e w' => e = .returned (.tuple #[.agg #[.bool true, .int .i64 x, .int .i64 y, .int .i64 z, .int .i64 s, .bool true], .bool false, .int .i64 0]) ∧ Ext w w' := by
  have HI : Hid (∀ w, Calls Try.prog 16 #[.agg #[.bool true, .int .i64 x, .int .i64 y, .int .i64 z, .int .i64 s, .bool true]] w fun e w' => e = .returned (.bool (okTl true x y z s true)) ∧ Ext w w') := istl_any true x y z s true
  have HC : Hid (∀ w, Calls Try.prog 17 #[.agg #[.int .i64 v0, .int .i64 v1, .int .i64 v2]] w fun e w' => e = .returned (.bool (okD3 v0 v1 v2)) ∧ Ext w w') := isdir_any v0 v1 v2
  have HT : Hid (∀ w, Calls Try.prog 18 #[.int .i64 n] w fun e w' => e = .returned (.bool (okTm n)) ∧ w' = w) := istime_any n
  have HA : Hid (∀ w, Calls Try.prog 21 #[.int .i64 p] w fun e w' => e = .returned (.bool (decide (p < 879557810))) ∧ Ext w w') := apart_any p
  have h5 : decide (n < s) = false := by simp; omega
  have d1 : decide (p < 879557810) = true := by simp; omega
  have d2 : wrap64 (n - s) = n - s := by obtain ⟨n1, n2⟩ := okTm_iff.1 h3; have h := h1; unfold okTl at h; simp [okTm_iff] at h; unfold wrap64; omega
  rw [d1] at HA
  have d3 : decide (2000 ≤ n - s) = false := by simp; omega
  clear d1 hp h4 hn
  rw [h1] at HI
  rw [h2] at HC
  rw [h3] at HT
  clear h1 h2 h3
  have Ft : Hid (HV (((w.alloc (.cells #[.bool true, .int .i64 x, .int .i64 y, .int .i64 z, .int .i64 s, .bool true] 26)).alloc (.cells #[.int .i64 v0, .int .i64 v1, .int .i64 v2] 24)).alloc (.cells #[.bool false, .int .i64 0, .int .i64 0, .int .i64 0, .int .i64 0, .bool false] 26)) w.heap.size [.bool true, .int .i64 x, .int .i64 y, .int .i64 z, .int .i64 s, .bool true]) := ((hv_at rfl).alloc _).alloc _
  have Fv : Hid (HV (((w.alloc (.cells #[.bool true, .int .i64 x, .int .i64 y, .int .i64 z, .int .i64 s, .bool true] 26)).alloc (.cells #[.int .i64 v0, .int .i64 v1, .int .i64 v2] 24)).alloc (.cells #[.bool false, .int .i64 0, .int .i64 0, .int .i64 0, .int .i64 0, .bool false] 26)) (w.heap.size + 1) [.int .i64 v0, .int .i64 v1, .int .i64 v2]) := (hv_at (by simp)).alloc _
  have Fu : Hid (HV (((w.alloc (.cells #[.bool true, .int .i64 x, .int .i64 y, .int .i64 z, .int .i64 s, .bool true] 26)).alloc (.cells #[.int .i64 v0, .int .i64 v1, .int .i64 v2] 24)).alloc (.cells #[.bool false, .int .i64 0, .int .i64 0, .int .i64 0, .int .i64 0, .bool false] 26)) (w.heap.size + 2) [.bool false, .int .i64 0, .int .i64 0, .int .i64 0, .int .i64 0, .bool false]) := hv_at (by simp)
  have Lu : Hid (w.heap.size ≤ w.heap.size + 2) := Nat.le_add_right _ _
  have FX : Hid (Ext w (((w.alloc (.cells #[.bool true, .int .i64 x, .int .i64 y, .int .i64 z, .int .i64 s, .bool true] 26)).alloc (.cells #[.int .i64 v0, .int .i64 v1, .int .i64 v2] 24)).alloc (.cells #[.bool false, .int .i64 0, .int .i64 0, .int .i64 0, .int .i64 0, .bool false] 26))) := (((Ext.refl w).alloc _).alloc _).alloc _
  go_enter Try.func8, Try.ntmps8
  go_upto_region 1 with fail
  generalize (((w.alloc (.cells #[.bool true, .int .i64 x, .int .i64 y, .int .i64 z, .int .i64 s, .bool true] 26)).alloc (.cells #[.int .i64 v0, .int .i64 v1, .int .i64 v2] 24)).alloc (.cells #[.bool false, .int .i64 0, .int .i64 0, .int .i64 0, .int .i64 0, .bool false] 26)) = wa at *
  have qt0 : wa.cell? ⟨w.heap.size, 0, none⟩ = some (.bool true) := Ft.out.c 0 rfl
  have qt1 : wa.cell? ⟨w.heap.size, 1, none⟩ = some (.int .i64 x) := Ft.out.c 1 rfl
  have qt2 : wa.cell? ⟨w.heap.size, 2, none⟩ = some (.int .i64 y) := Ft.out.c 2 rfl
  have qt3 : wa.cell? ⟨w.heap.size, 3, none⟩ = some (.int .i64 z) := Ft.out.c 3 rfl
  have qt4 : wa.cell? ⟨w.heap.size, 4, none⟩ = some (.int .i64 s) := Ft.out.c 4 rfl
  have qt5 : wa.cell? ⟨w.heap.size, 5, none⟩ = some (.bool true) := Ft.out.c 5 rfl
  go_upto_region 3 with (first | (go_at_call 16; refine (HI.out _).mono ?_; rintro e w1 ⟨rfl, x1⟩; have a0 : w1.cell? ⟨(w.heap.size + 1), 0, none⟩ = some (.int .i64 v0) := (Fv.out.ext x1).c 0 rfl; have a1 : w1.cell? ⟨(w.heap.size + 1), 1, none⟩ = some (.int .i64 v1) := (Fv.out.ext x1).c 1 rfl; have a2 : w1.cell? ⟨(w.heap.size + 1), 2, none⟩ = some (.int .i64 v2) := (Fv.out.ext x1).c 2 rfl) | (go_at_call 17; refine (HC.out _).mono ?_; rintro e w2 ⟨rfl, x2⟩; have b4 : w2.cell? ⟨w.heap.size, 4, none⟩ = some (.int .i64 s) := (Ft.out.ext (x1.trans x2)).c 4 rfl) | (go_at_call 18; refine (HT.out _).mono ?_; rintro e wx ⟨rfl, hwx⟩; have hwy := hwx.symm; clear hwx; subst hwy))
  have Ft : Hid (HV w2 w.heap.size [.bool true, .int .i64 x, .int .i64 y, .int .i64 z, .int .i64 s, .bool true]) := Ft.out.ext (x1.trans x2)
  have Fv : Hid (HV w2 (w.heap.size + 1) [.int .i64 v0, .int .i64 v1, .int .i64 v2]) := Fv.out.ext (x1.trans x2)
  have Fu : Hid (HV w2 (w.heap.size + 2) [.bool false, .int .i64 0, .int .i64 0, .int .i64 0, .int .i64 0, .bool false]) := Fu.out.ext (x1.trans x2)
  have FX : Hid (Ext w w2) := FX.out.trans (x1.trans x2)
  clear qt0 qt1 qt2 qt3 qt4 qt5 a0 a1 a2 HI HC HT b4
  clear x1 x2
  have qt0 : w2.cell? ⟨w.heap.size, 0, none⟩ = some (.bool true) := Ft.out.c 0 rfl
  go_upto_region 5 with fail
  clear qt0
  have qt1 : w2.cell? ⟨w.heap.size, 1, none⟩ = some (.int .i64 x) := Ft.out.c 1 rfl
  have qt2 : w2.cell? ⟨w.heap.size, 2, none⟩ = some (.int .i64 y) := Ft.out.c 2 rfl
  have qt3 : w2.cell? ⟨w.heap.size, 3, none⟩ = some (.int .i64 z) := Ft.out.c 3 rfl
  have qv0 : w2.cell? ⟨(w.heap.size + 1), 0, none⟩ = some (.int .i64 v0) := Fv.out.c 0 rfl
  have qv1 : w2.cell? ⟨(w.heap.size + 1), 1, none⟩ = some (.int .i64 v1) := Fv.out.c 1 rfl
  have qv2 : w2.cell? ⟨(w.heap.size + 1), 2, none⟩ = some (.int .i64 v2) := Fv.out.c 2 rfl
  go_upto_region 6 with (first | (go_at_call 20; refine (HD.out _).mono ?_; rintro e w3 ⟨rfl, x3⟩))
  have Ft : Hid (HV w3 w.heap.size [.bool true, .int .i64 x, .int .i64 y, .int .i64 z, .int .i64 s, .bool true]) := Ft.out.ext x3
  have Fv : Hid (HV w3 (w.heap.size + 1) [.int .i64 v0, .int .i64 v1, .int .i64 v2]) := Fv.out.ext x3
  have Fu : Hid (HV w3 (w.heap.size + 2) [.bool false, .int .i64 0, .int .i64 0, .int .i64 0, .int .i64 0, .bool false]) := Fu.out.ext x3
  have FX : Hid (Ext w w3) := FX.out.trans x3
  clear qt1 qt2 qt3 qv0 qv1 qv2 x3 HD
  go_upto_region 8 with fail
  go_upto_region 10 with (first | (go_at_call 21; refine (HA.out _).mono ?_; rintro e w4 ⟨rfl, x4⟩))
  have Ft : Hid (HV w4 w.heap.size [.bool true, .int .i64 x, .int .i64 y, .int .i64 z, .int .i64 s, .bool true]) := Ft.out.ext x4
  have Fv : Hid (HV w4 (w.heap.size + 1) [.int .i64 v0, .int .i64 v1, .int .i64 v2]) := Fv.out.ext x4
  have Fu : Hid (HV w4 (w.heap.size + 2) [.bool false, .int .i64 0, .int .i64 0, .int .i64 0, .int .i64 0, .bool false]) := Fu.out.ext x4
  have FX : Hid (Ext w w4) := FX.out.trans x4
  clear x4 HA
  have qt0 : w4.cell? ⟨w.heap.size, 0, none⟩ = some (.bool true) := Ft.out.c 0 rfl
  have qt1 : w4.cell? ⟨w.heap.size, 1, none⟩ = some (.int .i64 x) := Ft.out.c 1 rfl
  have qt2 : w4.cell? ⟨w.heap.size, 2, none⟩ = some (.int .i64 y) := Ft.out.c 2 rfl
  have qt3 : w4.cell? ⟨w.heap.size, 3, none⟩ = some (.int .i64 z) := Ft.out.c 3 rfl
  have qt4 : w4.cell? ⟨w.heap.size, 4, none⟩ = some (.int .i64 s) := Ft.out.c 4 rfl
  have qt5 : w4.cell? ⟨w.heap.size, 5, none⟩ = some (.bool true) := Ft.out.c 5 rfl
  have o0 : w4.cell? ⟨(w.heap.size + 2), 0, none⟩ = some (.bool false) := Fu.out.c 0 rfl
  have z0 : w4.frozen? ⟨(w.heap.size + 2), 0, none⟩ = false := Fu.out.f 0 rfl
  have o1 : w4.cell? ⟨(w.heap.size + 2), 1, none⟩ = some (.int .i64 0) := Fu.out.c 1 rfl
  have z1 : w4.frozen? ⟨(w.heap.size + 2), 1, none⟩ = false := Fu.out.f 1 rfl
  have o2 : w4.cell? ⟨(w.heap.size + 2), 2, none⟩ = some (.int .i64 0) := Fu.out.c 2 rfl
  have z2 : w4.frozen? ⟨(w.heap.size + 2), 2, none⟩ = false := Fu.out.f 2 rfl
  have o3 : w4.cell? ⟨(w.heap.size + 2), 3, none⟩ = some (.int .i64 0) := Fu.out.c 3 rfl
  have z3 : w4.frozen? ⟨(w.heap.size + 2), 3, none⟩ = false := Fu.out.f 3 rfl
  have o4 : w4.cell? ⟨(w.heap.size + 2), 4, none⟩ = some (.int .i64 0) := Fu.out.c 4 rfl
  have z4 : w4.frozen? ⟨(w.heap.size + 2), 4, none⟩ = false := Fu.out.f 4 rfl
  have o5 : w4.cell? ⟨(w.heap.size + 2), 5, none⟩ = some (.bool false) := Fu.out.c 5 rfl
  have z5 : w4.frozen? ⟨(w.heap.size + 2), 5, none⟩ = false := Fu.out.f 5 rfl
  go_wp2_with fail
  refine bodyPost_ret (v := .tuple #[.agg #[.bool true, .int .i64 x, .int .i64 y, .int .i64 z, .int .i64 s, .bool true], .bool false, .int .i64 0]) (by simp [results, Try.results8, go_sem, *]) rfl ⟨rfl, ?_⟩
  exact (Ext.set (Ext.set (Ext.set (Ext.set (Ext.set (Ext.set FX.out Lu.out _) Lu.out _) Lu.out _) Lu.out _) Lu.out _) Lu.out _)
end Go.Proofs.Ytbmocnigmpmfkaa
