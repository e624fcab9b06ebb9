/- The reference's tilts. -/
import Derived.Test.YtbmocnigmpmfkaaTl2m
import Derived.Test.YtbmocnigmpmfkaaR3cm
namespace Go.Proofs.Ytbmocnigmpmfkaa
open Go.RowKit Go.Shelf
set_option maxHeartbeats 400000 in
theorem rtwo_any (x : Int) (w : World) : Calls Try.prog 22 #[.int .i64 x] w fun e w' => e = .returned (.bool (okD x)) ∧ w' = w := by
  by_cases h1 : -2147483648 ≤ x
  · by_cases h2 : x ≤ 2147483648
    · have e : Hid (okD x = true) := okD_iff.2 ⟨h1, h2⟩
      go_enter Try.func22, Try.ntmps22
      go_wp2
      go_ret
      rw [e.out]; exact ⟨rfl, rfl⟩
    · have e : Hid (okD x = false) := Bool.eq_false_iff.2 (fun h => h2 (okD_iff.1 h).2)
      go_enter Try.func22, Try.ntmps22
      go_wp2
      go_ret
      rw [e.out]; exact ⟨rfl, rfl⟩
  · have e : Hid (okD x = false) := Bool.eq_false_iff.2 (fun h => h1 (okD_iff.1 h).1)
    go_enter Try.func22, Try.ntmps22
    go_wp2
    go_ret
    rw [e.out]; exact ⟨rfl, rfl⟩
set_option maxRecDepth 20000 in
set_option maxHeartbeats 4000000 in
theorem wide_any (x y z : Int) (w : World) : Calls Try.prog 12 #[.agg #[.int .i64 x, .int .i64 y, .int .i64 z]] w fun e w' => e = .returned (.bool (okD3 x y z)) ∧ Ext w w' := by
  have HX : Hid (∀ w, Calls Try.prog 22 #[.int .i64 x] w fun e w' => e = .returned (.bool (okD x)) ∧ w' = w) := rtwo_any x
  have HY : Hid (∀ w, Calls Try.prog 22 #[.int .i64 y] w fun e w' => e = .returned (.bool (okD y)) ∧ w' = w) := rtwo_any y
  have HZ : Hid (∀ w, Calls Try.prog 22 #[.int .i64 z] w fun e w' => e = .returned (.bool (okD z)) ∧ w' = w) := rtwo_any z
  have ex : Hid (okD3 x y z = (okD x && (okD y && okD z))) := rfl
  generalize okD x = p1 at *
  generalize okD y = p2 at *
  generalize okD z = p3 at *
  generalize okD3 x y z = R at *
  have hx : Ext w (w.alloc (.cells #[.int .i64 x, .int .i64 y, .int .i64 z] 24)) := (Ext.refl w).alloc _
  cases p1 <;> cases p2 <;> cases p3
  all_goals
    go_enter Try.func12, Try.ntmps12
    go_wp2_with (first | (go_at_call_of 22 (Value.int IntKind.i64 x); refine (HX.out _).mono ?_; rintro e wx ⟨rfl, hwx⟩; have hwy := hwx.symm; clear hwx; subst hwy) | (go_at_call_of 22 (Value.int IntKind.i64 y); refine (HY.out _).mono ?_; rintro e wx ⟨rfl, hwx⟩; have hwy := hwx.symm; clear hwx; subst hwy) | (go_at_call_of 22 (Value.int IntKind.i64 z); refine (HZ.out _).mono ?_; rintro e wx ⟨rfl, hwx⟩; have hwy := hwx.symm; clear hwx; subst hwy))
    go_ret
    rw [ex.out]
    exact ⟨by first | rfl | simp, hx⟩
set_option maxRecDepth 20000 in
set_option maxHeartbeats 8000000 in
theorem maytl_any (on : Bool) (x y z s : Int) (a : Bool) (w : World) : Calls Try.prog 11 #[.agg #[.bool on, .int .i64 x, .int .i64 y, .int .i64 z, .int .i64 s, .bool a]] w fun e w' => e = .returned (.bool (okTl on x y z s a)) ∧ Ext w w' := by
  have HC : Hid (∀ w, Calls Try.prog 12 #[.agg #[.int .i64 x, .int .i64 y, .int .i64 z]] w fun e w' => e = .returned (.bool (okD3 x y z)) ∧ Ext w w') := wide_any x y z
  have HS : Hid (∀ w, Calls Try.prog 13 #[.int .i64 s] w fun e w' => e = .returned (.bool (okTm s)) ∧ w' = w) := rtime_any s
  have B : Hid (HV (w.alloc (.cells #[.bool on, .int .i64 x, .int .i64 y, .int .i64 z, .int .i64 s, .bool a] 26)) w.heap.size [.bool on, .int .i64 x, .int .i64 y, .int .i64 z, .int .i64 s, .bool a]) := hv_at rfl
  have X0 : Hid (Ext w (w.alloc (.cells #[.bool on, .int .i64 x, .int .i64 y, .int .i64 z, .int .i64 s, .bool a] 26))) := (Ext.refl w).alloc _
  cases on
  · cases a
    · have er : okTl false x y z s false = (decide (x = 0 ∧ y = 0 ∧ z = 0 ∧ s = 0) && !false) := rfl
      rw [er]
      clear er
      by_cases h0 : x = 0 ∧ y = 0 ∧ z = 0 ∧ s = 0
      · obtain ⟨rfl, rfl, rfl, rfl⟩ := h0
        have k3 : okD3 0 0 0 = true := by kernel_rfl
        have k4 : okTm 0 = true := by kernel_rfl
        rw [k3] at HC
        rw [k4] at HS
        clear k3 k4
        go_enter Try.func11, Try.ntmps11
        go_upto_region 1 with fail
        generalize (w.alloc (.cells #[.bool false, .int .i64 0, .int .i64 0, .int .i64 0, .int .i64 0, .bool false] 26)) = wa at *
        have k0 : wa.cell? ⟨w.heap.size, 0, none⟩ = some (.bool false) := B.out.c 0 rfl
        have k1 : wa.cell? ⟨w.heap.size, 1, none⟩ = some (.int .i64 0) := B.out.c 1 rfl
        have k2 : wa.cell? ⟨w.heap.size, 2, none⟩ = some (.int .i64 0) := B.out.c 2 rfl
        have k3 : wa.cell? ⟨w.heap.size, 3, none⟩ = some (.int .i64 0) := B.out.c 3 rfl
        have k4 : wa.cell? ⟨w.heap.size, 4, none⟩ = some (.int .i64 0) := B.out.c 4 rfl
        have k5 : wa.cell? ⟨w.heap.size, 5, none⟩ = some (.bool false) := B.out.c 5 rfl
        go_wp2_with (first | (go_at_call 12; refine (HC.out _).mono ?_; rintro e m1 ⟨rfl, z1⟩; have j4 : m1.cell? ⟨w.heap.size, 4, none⟩ = some (.int .i64 0) := (B.out.ext z1).c 4 rfl) | (go_at_call 13; refine (HS.out _).mono ?_; rintro e wx ⟨rfl, hwx⟩; have hwy := hwx.symm; clear hwx; subst hwy))
        go_ret
        exact ⟨by first | rfl | simp, X0.out.trans z1⟩
      · have hd : decide (x = 0 ∧ y = 0 ∧ z = 0 ∧ s = 0) = false := by simpa using h0
        rw [hd]
        clear hd HC HS
        go_enter Try.func11, Try.ntmps11
        go_upto_region 1 with fail
        generalize (w.alloc (.cells #[.bool false, .int .i64 x, .int .i64 y, .int .i64 z, .int .i64 s, .bool false] 26)) = wa at *
        have k0 : wa.cell? ⟨w.heap.size, 0, none⟩ = some (.bool false) := B.out.c 0 rfl
        have k1 : wa.cell? ⟨w.heap.size, 1, none⟩ = some (.int .i64 x) := B.out.c 1 rfl
        have k2 : wa.cell? ⟨w.heap.size, 2, none⟩ = some (.int .i64 y) := B.out.c 2 rfl
        have k3 : wa.cell? ⟨w.heap.size, 3, none⟩ = some (.int .i64 z) := B.out.c 3 rfl
        have k4 : wa.cell? ⟨w.heap.size, 4, none⟩ = some (.int .i64 s) := B.out.c 4 rfl
        have k5 : wa.cell? ⟨w.heap.size, 5, none⟩ = some (.bool false) := B.out.c 5 rfl
        go_wp2_with fail
        all_goals
          go_ret
          first | exact ⟨by first | rfl | (simp [*]; done), X0.out⟩ | (exfalso; simp_all; done)
    · have er : okTl false x y z s true = false := by
        have e : okTl false x y z s true = (decide (x = 0 ∧ y = 0 ∧ z = 0 ∧ s = 0) && !true) := rfl
        rw [e]; simp
      rw [er]
      clear er HC HS
      go_enter Try.func11, Try.ntmps11
      go_upto_region 1 with fail
      generalize (w.alloc (.cells #[.bool false, .int .i64 x, .int .i64 y, .int .i64 z, .int .i64 s, .bool true] 26)) = wa at *
      have k0 : wa.cell? ⟨w.heap.size, 0, none⟩ = some (.bool false) := B.out.c 0 rfl
      have k1 : wa.cell? ⟨w.heap.size, 1, none⟩ = some (.int .i64 x) := B.out.c 1 rfl
      have k2 : wa.cell? ⟨w.heap.size, 2, none⟩ = some (.int .i64 y) := B.out.c 2 rfl
      have k3 : wa.cell? ⟨w.heap.size, 3, none⟩ = some (.int .i64 z) := B.out.c 3 rfl
      have k4 : wa.cell? ⟨w.heap.size, 4, none⟩ = some (.int .i64 s) := B.out.c 4 rfl
      have k5 : wa.cell? ⟨w.heap.size, 5, none⟩ = some (.bool true) := B.out.c 5 rfl
      go_wp2_with fail
      all_goals
        go_ret
        exact ⟨by first | rfl | (simp [*]; done), X0.out⟩
  · cases a
    · by_cases h0 : s = 0
      · subst h0
        have er : okTl true x y z 0 false = (okD3 x y z && okTm 0) := rfl
        rw [er]
        have e0 : okTm 0 = true := by decide
        rw [e0] at HS
        rw [e0]
        clear er e0
        generalize okD3 x y z = q at *
        cases q
        · skip
          go_enter Try.func11, Try.ntmps11
          go_upto_region 1 with fail
          generalize (w.alloc (.cells #[.bool true, .int .i64 x, .int .i64 y, .int .i64 z, .int .i64 0, .bool false] 26)) = wa at *
          have k0 : wa.cell? ⟨w.heap.size, 0, none⟩ = some (.bool true) := B.out.c 0 rfl
          have k1 : wa.cell? ⟨w.heap.size, 1, none⟩ = some (.int .i64 x) := B.out.c 1 rfl
          have k2 : wa.cell? ⟨w.heap.size, 2, none⟩ = some (.int .i64 y) := B.out.c 2 rfl
          have k3 : wa.cell? ⟨w.heap.size, 3, none⟩ = some (.int .i64 z) := B.out.c 3 rfl
          have k4 : wa.cell? ⟨w.heap.size, 4, none⟩ = some (.int .i64 0) := B.out.c 4 rfl
          have k5 : wa.cell? ⟨w.heap.size, 5, none⟩ = some (.bool false) := B.out.c 5 rfl
          go_wp2_with (first | (go_at_call 12; refine (HC.out _).mono ?_; rintro e m1 ⟨rfl, z1⟩; have j4 : m1.cell? ⟨w.heap.size, 4, none⟩ = some (.int .i64 0) := (B.out.ext z1).c 4 rfl) | (go_at_call 13; refine (HS.out _).mono ?_; rintro e wx ⟨rfl, hwx⟩; have hwy := hwx.symm; clear hwx; subst hwy))
          go_ret
          exact ⟨by first | rfl | simp, X0.out.trans z1⟩
        · skip
          go_enter Try.func11, Try.ntmps11
          go_upto_region 1 with fail
          generalize (w.alloc (.cells #[.bool true, .int .i64 x, .int .i64 y, .int .i64 z, .int .i64 0, .bool false] 26)) = wa at *
          have k0 : wa.cell? ⟨w.heap.size, 0, none⟩ = some (.bool true) := B.out.c 0 rfl
          have k1 : wa.cell? ⟨w.heap.size, 1, none⟩ = some (.int .i64 x) := B.out.c 1 rfl
          have k2 : wa.cell? ⟨w.heap.size, 2, none⟩ = some (.int .i64 y) := B.out.c 2 rfl
          have k3 : wa.cell? ⟨w.heap.size, 3, none⟩ = some (.int .i64 z) := B.out.c 3 rfl
          have k4 : wa.cell? ⟨w.heap.size, 4, none⟩ = some (.int .i64 0) := B.out.c 4 rfl
          have k5 : wa.cell? ⟨w.heap.size, 5, none⟩ = some (.bool false) := B.out.c 5 rfl
          go_wp2_with (first | (go_at_call 12; refine (HC.out _).mono ?_; rintro e m1 ⟨rfl, z1⟩; have j4 : m1.cell? ⟨w.heap.size, 4, none⟩ = some (.int .i64 0) := (B.out.ext z1).c 4 rfl) | (go_at_call 13; refine (HS.out _).mono ?_; rintro e wx ⟨rfl, hwx⟩; have hwy := hwx.symm; clear hwx; subst hwy))
          go_ret
          exact ⟨by first | rfl | simp, X0.out.trans z1⟩
      · have er : okTl true x y z s false = false := by
          have e : okTl true x y z s false = ((false || decide (s = 0)) && (okD3 x y z && okTm s)) := rfl
          rw [e, decide_eq_false h0]; rfl
        rw [er]
        have d0 : (s != 0) = true := by simpa using h0
        clear er HC HS
        go_enter Try.func11, Try.ntmps11
        go_upto_region 1 with fail
        generalize (w.alloc (.cells #[.bool true, .int .i64 x, .int .i64 y, .int .i64 z, .int .i64 s, .bool false] 26)) = wa at *
        have k0 : wa.cell? ⟨w.heap.size, 0, none⟩ = some (.bool true) := B.out.c 0 rfl
        have k1 : wa.cell? ⟨w.heap.size, 1, none⟩ = some (.int .i64 x) := B.out.c 1 rfl
        have k2 : wa.cell? ⟨w.heap.size, 2, none⟩ = some (.int .i64 y) := B.out.c 2 rfl
        have k3 : wa.cell? ⟨w.heap.size, 3, none⟩ = some (.int .i64 z) := B.out.c 3 rfl
        have k4 : wa.cell? ⟨w.heap.size, 4, none⟩ = some (.int .i64 s) := B.out.c 4 rfl
        have k5 : wa.cell? ⟨w.heap.size, 5, none⟩ = some (.bool false) := B.out.c 5 rfl
        go_wp2_with fail
        all_goals
          go_ret
          exact ⟨by first | rfl | (simp [*]; done), X0.out⟩
    · have er : okTl true x y z s true = (okD3 x y z && okTm s) := rfl
      rw [er]
      clear er
      generalize okD3 x y z = q at *
      generalize okTm s = r at *
      cases q <;> cases r
      · skip
        go_enter Try.func11, Try.ntmps11
        go_upto_region 1 with fail
        generalize (w.alloc (.cells #[.bool true, .int .i64 x, .int .i64 y, .int .i64 z, .int .i64 s, .bool true] 26)) = wa at *
        have k0 : wa.cell? ⟨w.heap.size, 0, none⟩ = some (.bool true) := B.out.c 0 rfl
        have k1 : wa.cell? ⟨w.heap.size, 1, none⟩ = some (.int .i64 x) := B.out.c 1 rfl
        have k2 : wa.cell? ⟨w.heap.size, 2, none⟩ = some (.int .i64 y) := B.out.c 2 rfl
        have k3 : wa.cell? ⟨w.heap.size, 3, none⟩ = some (.int .i64 z) := B.out.c 3 rfl
        have k4 : wa.cell? ⟨w.heap.size, 4, none⟩ = some (.int .i64 s) := B.out.c 4 rfl
        have k5 : wa.cell? ⟨w.heap.size, 5, none⟩ = some (.bool true) := B.out.c 5 rfl
        go_wp2_with (first | (go_at_call 12; refine (HC.out _).mono ?_; rintro e m1 ⟨rfl, z1⟩; have j4 : m1.cell? ⟨w.heap.size, 4, none⟩ = some (.int .i64 s) := (B.out.ext z1).c 4 rfl) | (go_at_call 13; refine (HS.out _).mono ?_; rintro e wx ⟨rfl, hwx⟩; have hwy := hwx.symm; clear hwx; subst hwy))
        go_ret
        exact ⟨by first | rfl | simp, X0.out.trans z1⟩
      · skip
        go_enter Try.func11, Try.ntmps11
        go_upto_region 1 with fail
        generalize (w.alloc (.cells #[.bool true, .int .i64 x, .int .i64 y, .int .i64 z, .int .i64 s, .bool true] 26)) = wa at *
        have k0 : wa.cell? ⟨w.heap.size, 0, none⟩ = some (.bool true) := B.out.c 0 rfl
        have k1 : wa.cell? ⟨w.heap.size, 1, none⟩ = some (.int .i64 x) := B.out.c 1 rfl
        have k2 : wa.cell? ⟨w.heap.size, 2, none⟩ = some (.int .i64 y) := B.out.c 2 rfl
        have k3 : wa.cell? ⟨w.heap.size, 3, none⟩ = some (.int .i64 z) := B.out.c 3 rfl
        have k4 : wa.cell? ⟨w.heap.size, 4, none⟩ = some (.int .i64 s) := B.out.c 4 rfl
        have k5 : wa.cell? ⟨w.heap.size, 5, none⟩ = some (.bool true) := B.out.c 5 rfl
        go_wp2_with (first | (go_at_call 12; refine (HC.out _).mono ?_; rintro e m1 ⟨rfl, z1⟩; have j4 : m1.cell? ⟨w.heap.size, 4, none⟩ = some (.int .i64 s) := (B.out.ext z1).c 4 rfl) | (go_at_call 13; refine (HS.out _).mono ?_; rintro e wx ⟨rfl, hwx⟩; have hwy := hwx.symm; clear hwx; subst hwy))
        go_ret
        exact ⟨by first | rfl | simp, X0.out.trans z1⟩
      · skip
        go_enter Try.func11, Try.ntmps11
        go_upto_region 1 with fail
        generalize (w.alloc (.cells #[.bool true, .int .i64 x, .int .i64 y, .int .i64 z, .int .i64 s, .bool true] 26)) = wa at *
        have k0 : wa.cell? ⟨w.heap.size, 0, none⟩ = some (.bool true) := B.out.c 0 rfl
        have k1 : wa.cell? ⟨w.heap.size, 1, none⟩ = some (.int .i64 x) := B.out.c 1 rfl
        have k2 : wa.cell? ⟨w.heap.size, 2, none⟩ = some (.int .i64 y) := B.out.c 2 rfl
        have k3 : wa.cell? ⟨w.heap.size, 3, none⟩ = some (.int .i64 z) := B.out.c 3 rfl
        have k4 : wa.cell? ⟨w.heap.size, 4, none⟩ = some (.int .i64 s) := B.out.c 4 rfl
        have k5 : wa.cell? ⟨w.heap.size, 5, none⟩ = some (.bool true) := B.out.c 5 rfl
        go_wp2_with (first | (go_at_call 12; refine (HC.out _).mono ?_; rintro e m1 ⟨rfl, z1⟩; have j4 : m1.cell? ⟨w.heap.size, 4, none⟩ = some (.int .i64 s) := (B.out.ext z1).c 4 rfl) | (go_at_call 13; refine (HS.out _).mono ?_; rintro e wx ⟨rfl, hwx⟩; have hwy := hwx.symm; clear hwx; subst hwy))
        go_ret
        exact ⟨by first | rfl | simp, X0.out.trans z1⟩
      · skip
        go_enter Try.func11, Try.ntmps11
        go_upto_region 1 with fail
        generalize (w.alloc (.cells #[.bool true, .int .i64 x, .int .i64 y, .int .i64 z, .int .i64 s, .bool true] 26)) = wa at *
        have k0 : wa.cell? ⟨w.heap.size, 0, none⟩ = some (.bool true) := B.out.c 0 rfl
        have k1 : wa.cell? ⟨w.heap.size, 1, none⟩ = some (.int .i64 x) := B.out.c 1 rfl
        have k2 : wa.cell? ⟨w.heap.size, 2, none⟩ = some (.int .i64 y) := B.out.c 2 rfl
        have k3 : wa.cell? ⟨w.heap.size, 3, none⟩ = some (.int .i64 z) := B.out.c 3 rfl
        have k4 : wa.cell? ⟨w.heap.size, 4, none⟩ = some (.int .i64 s) := B.out.c 4 rfl
        have k5 : wa.cell? ⟨w.heap.size, 5, none⟩ = some (.bool true) := B.out.c 5 rfl
        go_wp2_with (first | (go_at_call 12; refine (HC.out _).mono ?_; rintro e m1 ⟨rfl, z1⟩; have j4 : m1.cell? ⟨w.heap.size, 4, none⟩ = some (.int .i64 s) := (B.out.ext z1).c 4 rfl) | (go_at_call 13; refine (HS.out _).mono ?_; rintro e wx ⟨rfl, hwx⟩; have hwy := hwx.symm; clear hwx; subst hwy))
        go_ret
        exact ⟨by first | rfl | simp, X0.out.trans z1⟩
set_option maxRecDepth 20000 in
set_option maxHeartbeats 16000000 in
theorem rtl_off (v0 v1 v2 n : Int) (w : World)  : Calls Try.prog 14 #[.agg #[.bool false, .int .i64 0, .int .i64 0, .int .i64 0, .int .i64 0, .bool false], .agg #[.int .i64 v0, .int .i64 v1, .int .i64 v2], .int .i64 n] w fun e w' => e = .returned (.tuple #[.agg #[.bool true, .int .i64 v0, .int .i64 v1, .int .i64 v2, .int .i64 0, .bool false], .bool false]) ∧ Ext w w' := by
  have Ft : Hid (HV (((w.alloc (.cells #[.bool false, .int .i64 0, .int .i64 0, .int .i64 0, .int .i64 0, .bool false] 26)).alloc (.cells #[.int .i64 v0, .int .i64 v1, .int .i64 v2] 24)).alloc (.cells #[.bool false, .int .i64 0, .int .i64 0, .int .i64 0, .int .i64 0, .bool false] 26)) w.heap.size [.bool false, .int .i64 0, .int .i64 0, .int .i64 0, .int .i64 0, .bool false]) := ((hv_at rfl).alloc _).alloc _
  have Fv : Hid (HV (((w.alloc (.cells #[.bool false, .int .i64 0, .int .i64 0, .int .i64 0, .int .i64 0, .bool false] 26)).alloc (.cells #[.int .i64 v0, .int .i64 v1, .int .i64 v2] 24)).alloc (.cells #[.bool false, .int .i64 0, .int .i64 0, .int .i64 0, .int .i64 0, .bool false] 26)) (w.heap.size + 1) [.int .i64 v0, .int .i64 v1, .int .i64 v2]) := (hv_at (by simp)).alloc _
  have Fu : Hid (HV (((w.alloc (.cells #[.bool false, .int .i64 0, .int .i64 0, .int .i64 0, .int .i64 0, .bool false] 26)).alloc (.cells #[.int .i64 v0, .int .i64 v1, .int .i64 v2] 24)).alloc (.cells #[.bool false, .int .i64 0, .int .i64 0, .int .i64 0, .int .i64 0, .bool false] 26)) (w.heap.size + 2) [.bool false, .int .i64 0, .int .i64 0, .int .i64 0, .int .i64 0, .bool false]) := hv_at (by simp)
  have Lu : Hid (w.heap.size ≤ w.heap.size + 2) := Nat.le_add_right _ _
  have FX : Hid (Ext w (((w.alloc (.cells #[.bool false, .int .i64 0, .int .i64 0, .int .i64 0, .int .i64 0, .bool false] 26)).alloc (.cells #[.int .i64 v0, .int .i64 v1, .int .i64 v2] 24)).alloc (.cells #[.bool false, .int .i64 0, .int .i64 0, .int .i64 0, .int .i64 0, .bool false] 26))) := (((Ext.refl w).alloc _).alloc _).alloc _
  go_enter Try.func14, Try.ntmps14
  go_upto_region 1 with fail
  generalize (((w.alloc (.cells #[.bool false, .int .i64 0, .int .i64 0, .int .i64 0, .int .i64 0, .bool false] 26)).alloc (.cells #[.int .i64 v0, .int .i64 v1, .int .i64 v2] 24)).alloc (.cells #[.bool false, .int .i64 0, .int .i64 0, .int .i64 0, .int .i64 0, .bool false] 26)) = wa at *
  have qt0 : wa.cell? ⟨w.heap.size, 0, none⟩ = some (.bool false) := Ft.out.c 0 rfl
  have qv0 : wa.cell? ⟨(w.heap.size + 1), 0, none⟩ = some (.int .i64 v0) := Fv.out.c 0 rfl
  have qv1 : wa.cell? ⟨(w.heap.size + 1), 1, none⟩ = some (.int .i64 v1) := Fv.out.c 1 rfl
  have qv2 : wa.cell? ⟨(w.heap.size + 1), 2, none⟩ = some (.int .i64 v2) := Fv.out.c 2 rfl
  have o0 : wa.cell? ⟨(w.heap.size + 2), 0, none⟩ = some (.bool false) := Fu.out.c 0 rfl
  have z0 : wa.frozen? ⟨(w.heap.size + 2), 0, none⟩ = false := Fu.out.f 0 rfl
  have o1 : wa.cell? ⟨(w.heap.size + 2), 1, none⟩ = some (.int .i64 0) := Fu.out.c 1 rfl
  have z1 : wa.frozen? ⟨(w.heap.size + 2), 1, none⟩ = false := Fu.out.f 1 rfl
  have o2 : wa.cell? ⟨(w.heap.size + 2), 2, none⟩ = some (.int .i64 0) := Fu.out.c 2 rfl
  have z2 : wa.frozen? ⟨(w.heap.size + 2), 2, none⟩ = false := Fu.out.f 2 rfl
  have o3 : wa.cell? ⟨(w.heap.size + 2), 3, none⟩ = some (.int .i64 0) := Fu.out.c 3 rfl
  have z3 : wa.frozen? ⟨(w.heap.size + 2), 3, none⟩ = false := Fu.out.f 3 rfl
  have o4 : wa.cell? ⟨(w.heap.size + 2), 4, none⟩ = some (.int .i64 0) := Fu.out.c 4 rfl
  have z4 : wa.frozen? ⟨(w.heap.size + 2), 4, none⟩ = false := Fu.out.f 4 rfl
  have o5 : wa.cell? ⟨(w.heap.size + 2), 5, none⟩ = some (.bool false) := Fu.out.c 5 rfl
  have z5 : wa.frozen? ⟨(w.heap.size + 2), 5, none⟩ = false := Fu.out.f 5 rfl
  go_wp2_with fail
  refine bodyPost_ret (v := .tuple #[.agg #[.bool true, .int .i64 v0, .int .i64 v1, .int .i64 v2, .int .i64 0, .bool false], .bool false]) (by simp [results, Try.results14, go_sem, *]) rfl ⟨rfl, ?_⟩
  exact (Ext.set (Ext.set (Ext.set (Ext.set (Ext.set (Ext.set FX.out Lu.out _) Lu.out _) Lu.out _) Lu.out _) Lu.out _) Lu.out _)
set_option maxRecDepth 20000 in
set_option maxHeartbeats 16000000 in
theorem rtl_in (x y z s : Int) (a : Bool) (v0 v1 v2 n p : Int) (w : World) (HD : Hid (∀ w, Calls Try.prog 23 #[.agg #[.int .i64 x, .int .i64 y, .int .i64 z], .agg #[.int .i64 v0, .int .i64 v1, .int .i64 v2]] w fun e w' => e = .returned (.tuple #[.int .i64 (p), .int .i64 0]) ∧ Ext w w')) (hp : 879557810 ≤ p) : Calls Try.prog 14 #[.agg #[.bool true, .int .i64 x, .int .i64 y, .int .i64 z, .int .i64 s, .bool a], .agg #[.int .i64 v0, .int .i64 v1, .int .i64 v2], .int .i64 n] w fun e w' => e = .returned (.tuple #[.agg #[.bool true, .int .i64 x, .int .i64 y, .int .i64 z, .int .i64 0, .bool false], .bool false]) ∧ Ext w w' := by
  have d1 : decide (879557810 ≤ p) = true := by simpa using hp
  have Ft : Hid (HV (((w.alloc (.cells #[.bool true, .int .i64 x, .int .i64 y, .int .i64 z, .int .i64 s, .bool a] 26)).alloc (.cells #[.int .i64 v0, .int .i64 v1, .int .i64 v2] 24)).alloc (.cells #[.bool false, .int .i64 0, .int .i64 0, .int .i64 0, .int .i64 0, .bool false] 26)) w.heap.size [.bool true, .int .i64 x, .int .i64 y, .int .i64 z, .int .i64 s, .bool a]) := ((hv_at rfl).alloc _).alloc _
  have Fv : Hid (HV (((w.alloc (.cells #[.bool true, .int .i64 x, .int .i64 y, .int .i64 z, .int .i64 s, .bool a] 26)).alloc (.cells #[.int .i64 v0, .int .i64 v1, .int .i64 v2] 24)).alloc (.cells #[.bool false, .int .i64 0, .int .i64 0, .int .i64 0, .int .i64 0, .bool false] 26)) (w.heap.size + 1) [.int .i64 v0, .int .i64 v1, .int .i64 v2]) := (hv_at (by simp)).alloc _
  have Fu : Hid (HV (((w.alloc (.cells #[.bool true, .int .i64 x, .int .i64 y, .int .i64 z, .int .i64 s, .bool a] 26)).alloc (.cells #[.int .i64 v0, .int .i64 v1, .int .i64 v2] 24)).alloc (.cells #[.bool false, .int .i64 0, .int .i64 0, .int .i64 0, .int .i64 0, .bool false] 26)) (w.heap.size + 2) [.bool false, .int .i64 0, .int .i64 0, .int .i64 0, .int .i64 0, .bool false]) := hv_at (by simp)
  have Lu : Hid (w.heap.size ≤ w.heap.size + 2) := Nat.le_add_right _ _
  have FX : Hid (Ext w (((w.alloc (.cells #[.bool true, .int .i64 x, .int .i64 y, .int .i64 z, .int .i64 s, .bool a] 26)).alloc (.cells #[.int .i64 v0, .int .i64 v1, .int .i64 v2] 24)).alloc (.cells #[.bool false, .int .i64 0, .int .i64 0, .int .i64 0, .int .i64 0, .bool false] 26))) := (((Ext.refl w).alloc _).alloc _).alloc _
  go_enter Try.func14, Try.ntmps14
  go_upto_region 1 with fail
  generalize (((w.alloc (.cells #[.bool true, .int .i64 x, .int .i64 y, .int .i64 z, .int .i64 s, .bool a] 26)).alloc (.cells #[.int .i64 v0, .int .i64 v1, .int .i64 v2] 24)).alloc (.cells #[.bool false, .int .i64 0, .int .i64 0, .int .i64 0, .int .i64 0, .bool false] 26)) = wa at *
  have qt0 : wa.cell? ⟨w.heap.size, 0, none⟩ = some (.bool true) := Ft.out.c 0 rfl
  go_upto_region 3 with fail
  clear qt0
  have qt1 : wa.cell? ⟨w.heap.size, 1, none⟩ = some (.int .i64 x) := Ft.out.c 1 rfl
  have qt2 : wa.cell? ⟨w.heap.size, 2, none⟩ = some (.int .i64 y) := Ft.out.c 2 rfl
  have qt3 : wa.cell? ⟨w.heap.size, 3, none⟩ = some (.int .i64 z) := Ft.out.c 3 rfl
  have qv0 : wa.cell? ⟨(w.heap.size + 1), 0, none⟩ = some (.int .i64 v0) := Fv.out.c 0 rfl
  have qv1 : wa.cell? ⟨(w.heap.size + 1), 1, none⟩ = some (.int .i64 v1) := Fv.out.c 1 rfl
  have qv2 : wa.cell? ⟨(w.heap.size + 1), 2, none⟩ = some (.int .i64 v2) := Fv.out.c 2 rfl
  go_upto_region 4 with (first | (go_at_call 23; refine (HD.out _).mono ?_; rintro e w3 ⟨rfl, x3⟩))
  have Ft : Hid (HV w3 w.heap.size [.bool true, .int .i64 x, .int .i64 y, .int .i64 z, .int .i64 s, .bool a]) := Ft.out.ext x3
  have Fv : Hid (HV w3 (w.heap.size + 1) [.int .i64 v0, .int .i64 v1, .int .i64 v2]) := Fv.out.ext x3
  have Fu : Hid (HV w3 (w.heap.size + 2) [.bool false, .int .i64 0, .int .i64 0, .int .i64 0, .int .i64 0, .bool false]) := Fu.out.ext x3
  have FX : Hid (Ext w w3) := FX.out.trans x3
  clear qt1 qt2 qt3 qv0 qv1 qv2 x3 HD
  have qt1 : w3.cell? ⟨w.heap.size, 1, none⟩ = some (.int .i64 x) := Ft.out.c 1 rfl
  have qt2 : w3.cell? ⟨w.heap.size, 2, none⟩ = some (.int .i64 y) := Ft.out.c 2 rfl
  have qt3 : w3.cell? ⟨w.heap.size, 3, none⟩ = some (.int .i64 z) := Ft.out.c 3 rfl
  have qv0 : w3.cell? ⟨(w.heap.size + 1), 0, none⟩ = some (.int .i64 v0) := Fv.out.c 0 rfl
  have qv1 : w3.cell? ⟨(w.heap.size + 1), 1, none⟩ = some (.int .i64 v1) := Fv.out.c 1 rfl
  have qv2 : w3.cell? ⟨(w.heap.size + 1), 2, none⟩ = some (.int .i64 v2) := Fv.out.c 2 rfl
  have o0 : w3.cell? ⟨(w.heap.size + 2), 0, none⟩ = some (.bool false) := Fu.out.c 0 rfl
  have z0 : w3.frozen? ⟨(w.heap.size + 2), 0, none⟩ = false := Fu.out.f 0 rfl
  have o1 : w3.cell? ⟨(w.heap.size + 2), 1, none⟩ = some (.int .i64 0) := Fu.out.c 1 rfl
  have z1 : w3.frozen? ⟨(w.heap.size + 2), 1, none⟩ = false := Fu.out.f 1 rfl
  have o2 : w3.cell? ⟨(w.heap.size + 2), 2, none⟩ = some (.int .i64 0) := Fu.out.c 2 rfl
  have z2 : w3.frozen? ⟨(w.heap.size + 2), 2, none⟩ = false := Fu.out.f 2 rfl
  have o3 : w3.cell? ⟨(w.heap.size + 2), 3, none⟩ = some (.int .i64 0) := Fu.out.c 3 rfl
  have z3 : w3.frozen? ⟨(w.heap.size + 2), 3, none⟩ = false := Fu.out.f 3 rfl
  have o4 : w3.cell? ⟨(w.heap.size + 2), 4, none⟩ = some (.int .i64 0) := Fu.out.c 4 rfl
  have z4 : w3.frozen? ⟨(w.heap.size + 2), 4, none⟩ = false := Fu.out.f 4 rfl
  have o5 : w3.cell? ⟨(w.heap.size + 2), 5, none⟩ = some (.bool false) := Fu.out.c 5 rfl
  have z5 : w3.frozen? ⟨(w.heap.size + 2), 5, none⟩ = false := Fu.out.f 5 rfl
  go_wp2_with fail
  refine bodyPost_ret (v := .tuple #[.agg #[.bool true, .int .i64 x, .int .i64 y, .int .i64 z, .int .i64 0, .bool false], .bool false]) (by simp [results, Try.results14, go_sem, *]) rfl ⟨rfl, ?_⟩
  exact (Ext.set (Ext.set (Ext.set (Ext.set (Ext.set (Ext.set FX.out Lu.out _) Lu.out _) Lu.out _) Lu.out _) Lu.out _) Lu.out _)
set_option maxRecDepth 20000 in
set_option maxHeartbeats 16000000 in
theorem rtl_out (x y z s v0 v1 v2 n p : Int) (w : World) (HD : Hid (∀ w, Calls Try.prog 23 #[.agg #[.int .i64 x, .int .i64 y, .int .i64 z], .agg #[.int .i64 v0, .int .i64 v1, .int .i64 v2]] w fun e w' => e = .returned (.tuple #[.int .i64 (p), .int .i64 0]) ∧ Ext w w')) (hp : p < 879557810) : Calls Try.prog 14 #[.agg #[.bool true, .int .i64 x, .int .i64 y, .int .i64 z, .int .i64 s, .bool false], .agg #[.int .i64 v0, .int .i64 v1, .int .i64 v2], .int .i64 n] w fun e w' => e = .returned (.tuple #[.agg #[.bool true, .int .i64 x, .int .i64 y, .int .i64 z, .int .i64 n, .bool true], .bool false]) ∧ Ext w w' := by
  have d1 : decide (879557810 ≤ p) = false := by simp; omega
  have Ft : Hid (HV (((w.alloc (.cells #[.bool true, .int .i64 x, .int .i64 y, .int .i64 z, .int .i64 s, .bool false] 26)).alloc (.cells #[.int .i64 v0, .int .i64 v1, .int .i64 v2] 24)).alloc (.cells #[.bool false, .int .i64 0, .int .i64 0, .int .i64 0, .int .i64 0, .bool false] 26)) w.heap.size [.bool true, .int .i64 x, .int .i64 y, .int .i64 z, .int .i64 s, .bool false]) := ((hv_at rfl).alloc _).alloc _
  have Fv : Hid (HV (((w.alloc (.cells #[.bool true, .int .i64 x, .int .i64 y, .int .i64 z, .int .i64 s, .bool false] 26)).alloc (.cells #[.int .i64 v0, .int .i64 v1, .int .i64 v2] 24)).alloc (.cells #[.bool false, .int .i64 0, .int .i64 0, .int .i64 0, .int .i64 0, .bool false] 26)) (w.heap.size + 1) [.int .i64 v0, .int .i64 v1, .int .i64 v2]) := (hv_at (by simp)).alloc _
  have Fu : Hid (HV (((w.alloc (.cells #[.bool true, .int .i64 x, .int .i64 y, .int .i64 z, .int .i64 s, .bool false] 26)).alloc (.cells #[.int .i64 v0, .int .i64 v1, .int .i64 v2] 24)).alloc (.cells #[.bool false, .int .i64 0, .int .i64 0, .int .i64 0, .int .i64 0, .bool false] 26)) (w.heap.size + 2) [.bool false, .int .i64 0, .int .i64 0, .int .i64 0, .int .i64 0, .bool false]) := hv_at (by simp)
  have Lu : Hid (w.heap.size ≤ w.heap.size + 2) := Nat.le_add_right _ _
  have FX : Hid (Ext w (((w.alloc (.cells #[.bool true, .int .i64 x, .int .i64 y, .int .i64 z, .int .i64 s, .bool false] 26)).alloc (.cells #[.int .i64 v0, .int .i64 v1, .int .i64 v2] 24)).alloc (.cells #[.bool false, .int .i64 0, .int .i64 0, .int .i64 0, .int .i64 0, .bool false] 26))) := (((Ext.refl w).alloc _).alloc _).alloc _
  go_enter Try.func14, Try.ntmps14
  go_upto_region 1 with fail
  generalize (((w.alloc (.cells #[.bool true, .int .i64 x, .int .i64 y, .int .i64 z, .int .i64 s, .bool false] 26)).alloc (.cells #[.int .i64 v0, .int .i64 v1, .int .i64 v2] 24)).alloc (.cells #[.bool false, .int .i64 0, .int .i64 0, .int .i64 0, .int .i64 0, .bool false] 26)) = wa at *
  have qt0 : wa.cell? ⟨w.heap.size, 0, none⟩ = some (.bool true) := Ft.out.c 0 rfl
  go_upto_region 3 with fail
  clear qt0
  have qt1 : wa.cell? ⟨w.heap.size, 1, none⟩ = some (.int .i64 x) := Ft.out.c 1 rfl
  have qt2 : wa.cell? ⟨w.heap.size, 2, none⟩ = some (.int .i64 y) := Ft.out.c 2 rfl
  have qt3 : wa.cell? ⟨w.heap.size, 3, none⟩ = some (.int .i64 z) := Ft.out.c 3 rfl
  have qv0 : wa.cell? ⟨(w.heap.size + 1), 0, none⟩ = some (.int .i64 v0) := Fv.out.c 0 rfl
  have qv1 : wa.cell? ⟨(w.heap.size + 1), 1, none⟩ = some (.int .i64 v1) := Fv.out.c 1 rfl
  have qv2 : wa.cell? ⟨(w.heap.size + 1), 2, none⟩ = some (.int .i64 v2) := Fv.out.c 2 rfl
  go_upto_region 4 with (first | (go_at_call 23; refine (HD.out _).mono ?_; rintro e w3 ⟨rfl, x3⟩))
  have Ft : Hid (HV w3 w.heap.size [.bool true, .int .i64 x, .int .i64 y, .int .i64 z, .int .i64 s, .bool false]) := Ft.out.ext x3
  have Fv : Hid (HV w3 (w.heap.size + 1) [.int .i64 v0, .int .i64 v1, .int .i64 v2]) := Fv.out.ext x3
  have Fu : Hid (HV w3 (w.heap.size + 2) [.bool false, .int .i64 0, .int .i64 0, .int .i64 0, .int .i64 0, .bool false]) := Fu.out.ext x3
  have FX : Hid (Ext w w3) := FX.out.trans x3
  clear qt1 qt2 qt3 qv0 qv1 qv2 x3 HD
  have qt1 : w3.cell? ⟨w.heap.size, 1, none⟩ = some (.int .i64 x) := Ft.out.c 1 rfl
  have qt2 : w3.cell? ⟨w.heap.size, 2, none⟩ = some (.int .i64 y) := Ft.out.c 2 rfl
  have qt3 : w3.cell? ⟨w.heap.size, 3, none⟩ = some (.int .i64 z) := Ft.out.c 3 rfl
  have qt5 : w3.cell? ⟨w.heap.size, 5, none⟩ = some (.bool false) := Ft.out.c 5 rfl
  have qv0 : w3.cell? ⟨(w.heap.size + 1), 0, none⟩ = some (.int .i64 v0) := Fv.out.c 0 rfl
  have qv1 : w3.cell? ⟨(w.heap.size + 1), 1, none⟩ = some (.int .i64 v1) := Fv.out.c 1 rfl
  have qv2 : w3.cell? ⟨(w.heap.size + 1), 2, none⟩ = some (.int .i64 v2) := Fv.out.c 2 rfl
  have o0 : w3.cell? ⟨(w.heap.size + 2), 0, none⟩ = some (.bool false) := Fu.out.c 0 rfl
  have z0 : w3.frozen? ⟨(w.heap.size + 2), 0, none⟩ = false := Fu.out.f 0 rfl
  have o1 : w3.cell? ⟨(w.heap.size + 2), 1, none⟩ = some (.int .i64 0) := Fu.out.c 1 rfl
  have z1 : w3.frozen? ⟨(w.heap.size + 2), 1, none⟩ = false := Fu.out.f 1 rfl
  have o2 : w3.cell? ⟨(w.heap.size + 2), 2, none⟩ = some (.int .i64 0) := Fu.out.c 2 rfl
  have z2 : w3.frozen? ⟨(w.heap.size + 2), 2, none⟩ = false := Fu.out.f 2 rfl
  have o3 : w3.cell? ⟨(w.heap.size + 2), 3, none⟩ = some (.int .i64 0) := Fu.out.c 3 rfl
  have z3 : w3.frozen? ⟨(w.heap.size + 2), 3, none⟩ = false := Fu.out.f 3 rfl
  have o4 : w3.cell? ⟨(w.heap.size + 2), 4, none⟩ = some (.int .i64 0) := Fu.out.c 4 rfl
  have z4 : w3.frozen? ⟨(w.heap.size + 2), 4, none⟩ = false := Fu.out.f 4 rfl
  have o5 : w3.cell? ⟨(w.heap.size + 2), 5, none⟩ = some (.bool false) := Fu.out.c 5 rfl
  have z5 : w3.frozen? ⟨(w.heap.size + 2), 5, none⟩ = false := Fu.out.f 5 rfl
  go_wp2_with fail
  refine bodyPost_ret (v := .tuple #[.agg #[.bool true, .int .i64 x, .int .i64 y, .int .i64 z, .int .i64 n, .bool true], .bool false]) (by simp [results, Try.results14, go_sem, *]) rfl ⟨rfl, ?_⟩
  exact (Ext.set (Ext.set (Ext.set (Ext.set (Ext.set (Ext.set FX.out Lu.out _) Lu.out _) Lu.out _) Lu.out _) Lu.out _) Lu.out _)
set_option maxRecDepth 20000 in
set_option maxHeartbeats 16000000 in
theorem rtl_tell (x y z s v0 v1 v2 n p : Int) (w : World) (HD : Hid (∀ w, Calls Try.prog 23 #[.agg #[.int .i64 x, .int .i64 y, .int .i64 z], .agg #[.int .i64 v0, .int .i64 v1, .int .i64 v2]] w fun e w' => e = .returned (.tuple #[.int .i64 (p), .int .i64 0]) ∧ Ext w w')) (h4 : 0 ≤ s ∧ s ≤ n ∧ n ≤ 1099511627776) (hp : p < 879557810) (hn : 2000 ≤ n - s) : Calls Try.prog 14 #[.agg #[.bool true, .int .i64 x, .int .i64 y, .int .i64 z, .int .i64 s, .bool true], .agg #[.int .i64 v0, .int .i64 v1, .int .i64 v2], .int .i64 n] w fun e w' => e = .returned (.tuple #[.agg #[.bool true, .int .i64 v0, .int .i64 v1, .int .i64 v2, .int .i64 0, .bool false], .bool true]) ∧ Ext w w' := by
  have d1 : decide (879557810 ≤ p) = false := by simp; omega
  have d2 : wrap64 (n - s) = n - s := by unfold wrap64; omega
  have d3 : decide (2000 ≤ n - s) = true := by simpa using hn
  have Ft : Hid (HV (((w.alloc (.cells #[.bool true, .int .i64 x, .int .i64 y, .int .i64 z, .int .i64 s, .bool true] 26)).alloc (.cells #[.int .i64 v0, .int .i64 v1, .int .i64 v2] 24)).alloc (.cells #[.bool false, .int .i64 0, .int .i64 0, .int .i64 0, .int .i64 0, .bool false] 26)) w.heap.size [.bool true, .int .i64 x, .int .i64 y, .int .i64 z, .int .i64 s, .bool true]) := ((hv_at rfl).alloc _).alloc _
  have Fv : Hid (HV (((w.alloc (.cells #[.bool true, .int .i64 x, .int .i64 y, .int .i64 z, .int .i64 s, .bool true] 26)).alloc (.cells #[.int .i64 v0, .int .i64 v1, .int .i64 v2] 24)).alloc (.cells #[.bool false, .int .i64 0, .int .i64 0, .int .i64 0, .int .i64 0, .bool false] 26)) (w.heap.size + 1) [.int .i64 v0, .int .i64 v1, .int .i64 v2]) := (hv_at (by simp)).alloc _
  have Fu : Hid (HV (((w.alloc (.cells #[.bool true, .int .i64 x, .int .i64 y, .int .i64 z, .int .i64 s, .bool true] 26)).alloc (.cells #[.int .i64 v0, .int .i64 v1, .int .i64 v2] 24)).alloc (.cells #[.bool false, .int .i64 0, .int .i64 0, .int .i64 0, .int .i64 0, .bool false] 26)) (w.heap.size + 2) [.bool false, .int .i64 0, .int .i64 0, .int .i64 0, .int .i64 0, .bool false]) := hv_at (by simp)
  have Lu : Hid (w.heap.size ≤ w.heap.size + 2) := Nat.le_add_right _ _
  have FX : Hid (Ext w (((w.alloc (.cells #[.bool true, .int .i64 x, .int .i64 y, .int .i64 z, .int .i64 s, .bool true] 26)).alloc (.cells #[.int .i64 v0, .int .i64 v1, .int .i64 v2] 24)).alloc (.cells #[.bool false, .int .i64 0, .int .i64 0, .int .i64 0, .int .i64 0, .bool false] 26))) := (((Ext.refl w).alloc _).alloc _).alloc _
  go_enter Try.func14, Try.ntmps14
  go_upto_region 1 with fail
  generalize (((w.alloc (.cells #[.bool true, .int .i64 x, .int .i64 y, .int .i64 z, .int .i64 s, .bool true] 26)).alloc (.cells #[.int .i64 v0, .int .i64 v1, .int .i64 v2] 24)).alloc (.cells #[.bool false, .int .i64 0, .int .i64 0, .int .i64 0, .int .i64 0, .bool false] 26)) = wa at *
  have qt0 : wa.cell? ⟨w.heap.size, 0, none⟩ = some (.bool true) := Ft.out.c 0 rfl
  go_upto_region 3 with fail
  clear qt0
  have qt1 : wa.cell? ⟨w.heap.size, 1, none⟩ = some (.int .i64 x) := Ft.out.c 1 rfl
  have qt2 : wa.cell? ⟨w.heap.size, 2, none⟩ = some (.int .i64 y) := Ft.out.c 2 rfl
  have qt3 : wa.cell? ⟨w.heap.size, 3, none⟩ = some (.int .i64 z) := Ft.out.c 3 rfl
  have qv0 : wa.cell? ⟨(w.heap.size + 1), 0, none⟩ = some (.int .i64 v0) := Fv.out.c 0 rfl
  have qv1 : wa.cell? ⟨(w.heap.size + 1), 1, none⟩ = some (.int .i64 v1) := Fv.out.c 1 rfl
  have qv2 : wa.cell? ⟨(w.heap.size + 1), 2, none⟩ = some (.int .i64 v2) := Fv.out.c 2 rfl
  go_upto_region 4 with (first | (go_at_call 23; refine (HD.out _).mono ?_; rintro e w3 ⟨rfl, x3⟩))
  have Ft : Hid (HV w3 w.heap.size [.bool true, .int .i64 x, .int .i64 y, .int .i64 z, .int .i64 s, .bool true]) := Ft.out.ext x3
  have Fv : Hid (HV w3 (w.heap.size + 1) [.int .i64 v0, .int .i64 v1, .int .i64 v2]) := Fv.out.ext x3
  have Fu : Hid (HV w3 (w.heap.size + 2) [.bool false, .int .i64 0, .int .i64 0, .int .i64 0, .int .i64 0, .bool false]) := Fu.out.ext x3
  have FX : Hid (Ext w w3) := FX.out.trans x3
  clear qt1 qt2 qt3 qv0 qv1 qv2 x3 HD
  have qt4 : w3.cell? ⟨w.heap.size, 4, none⟩ = some (.int .i64 s) := Ft.out.c 4 rfl
  have qt5 : w3.cell? ⟨w.heap.size, 5, none⟩ = some (.bool true) := Ft.out.c 5 rfl
  have qv0 : w3.cell? ⟨(w.heap.size + 1), 0, none⟩ = some (.int .i64 v0) := Fv.out.c 0 rfl
  have qv1 : w3.cell? ⟨(w.heap.size + 1), 1, none⟩ = some (.int .i64 v1) := Fv.out.c 1 rfl
  have qv2 : w3.cell? ⟨(w.heap.size + 1), 2, none⟩ = some (.int .i64 v2) := Fv.out.c 2 rfl
  have o0 : w3.cell? ⟨(w.heap.size + 2), 0, none⟩ = some (.bool false) := Fu.out.c 0 rfl
  have z0 : w3.frozen? ⟨(w.heap.size + 2), 0, none⟩ = false := Fu.out.f 0 rfl
  have o1 : w3.cell? ⟨(w.heap.size + 2), 1, none⟩ = some (.int .i64 0) := Fu.out.c 1 rfl
  have z1 : w3.frozen? ⟨(w.heap.size + 2), 1, none⟩ = false := Fu.out.f 1 rfl
  have o2 : w3.cell? ⟨(w.heap.size + 2), 2, none⟩ = some (.int .i64 0) := Fu.out.c 2 rfl
  have z2 : w3.frozen? ⟨(w.heap.size + 2), 2, none⟩ = false := Fu.out.f 2 rfl
  have o3 : w3.cell? ⟨(w.heap.size + 2), 3, none⟩ = some (.int .i64 0) := Fu.out.c 3 rfl
  have z3 : w3.frozen? ⟨(w.heap.size + 2), 3, none⟩ = false := Fu.out.f 3 rfl
  have o4 : w3.cell? ⟨(w.heap.size + 2), 4, none⟩ = some (.int .i64 0) := Fu.out.c 4 rfl
  have z4 : w3.frozen? ⟨(w.heap.size + 2), 4, none⟩ = false := Fu.out.f 4 rfl
  have o5 : w3.cell? ⟨(w.heap.size + 2), 5, none⟩ = some (.bool false) := Fu.out.c 5 rfl
  have z5 : w3.frozen? ⟨(w.heap.size + 2), 5, none⟩ = false := Fu.out.f 5 rfl
  go_wp2_with fail
  refine bodyPost_ret (v := .tuple #[.agg #[.bool true, .int .i64 v0, .int .i64 v1, .int .i64 v2, .int .i64 0, .bool false], .bool true]) (by simp [results, Try.results14, go_sem, *]) rfl ⟨rfl, ?_⟩
  exact (Ext.set (Ext.set (Ext.set (Ext.set (Ext.set (Ext.set FX.out Lu.out _) Lu.out _) Lu.out _) Lu.out _) Lu.out _) Lu.out _)
set_option maxRecDepth 20000 in
set_option maxHeartbeats 16000000 in
theorem rtl_stay (x y z s v0 v1 v2 n p : Int) (w : World) (HD : Hid (∀ w, Calls Try.prog 23 #[.agg #[.int .i64 x, .int .i64 y, .int .i64 z], .agg #[.int .i64 v0, .int .i64 v1, .int .i64 v2]] w fun e w' => e = .returned (.tuple #[.int .i64 (p), .int .i64 0]) ∧ Ext w w')) (h4 : 0 ≤ s ∧ s ≤ n ∧ n ≤ 1099511627776) (hp : p < 879557810) (hn : n - s < 2000) : Calls Try.prog 14 #[.agg #[.bool true, .int .i64 x, .int .i64 y, .int .i64 z, .int .i64 s, .bool true], .agg #[.int .i64 v0, .int .i64 v1, .int .i64 v2], .int .i64 n] w fun e w' => e = .returned (.tuple #[.agg #[.bool true, .int .i64 x, .int .i64 y, .int .i64 z, .int .i64 s, .bool true], .bool false]) ∧ Ext w w' := by
  have d1 : decide (879557810 ≤ p) = false := by simp; omega
  have d2 : wrap64 (n - s) = n - s := by unfold wrap64; omega
  have d3 : decide (2000 ≤ n - s) = false := by simp; omega
  have Ft : Hid (HV (((w.alloc (.cells #[.bool true, .int .i64 x, .int .i64 y, .int .i64 z, .int .i64 s, .bool true] 26)).alloc (.cells #[.int .i64 v0, .int .i64 v1, .int .i64 v2] 24)).alloc (.cells #[.bool false, .int .i64 0, .int .i64 0, .int .i64 0, .int .i64 0, .bool false] 26)) w.heap.size [.bool true, .int .i64 x, .int .i64 y, .int .i64 z, .int .i64 s, .bool true]) := ((hv_at rfl).alloc _).alloc _
  have Fv : Hid (HV (((w.alloc (.cells #[.bool true, .int .i64 x, .int .i64 y, .int .i64 z, .int .i64 s, .bool true] 26)).alloc (.cells #[.int .i64 v0, .int .i64 v1, .int .i64 v2] 24)).alloc (.cells #[.bool false, .int .i64 0, .int .i64 0, .int .i64 0, .int .i64 0, .bool false] 26)) (w.heap.size + 1) [.int .i64 v0, .int .i64 v1, .int .i64 v2]) := (hv_at (by simp)).alloc _
  have Fu : Hid (HV (((w.alloc (.cells #[.bool true, .int .i64 x, .int .i64 y, .int .i64 z, .int .i64 s, .bool true] 26)).alloc (.cells #[.int .i64 v0, .int .i64 v1, .int .i64 v2] 24)).alloc (.cells #[.bool false, .int .i64 0, .int .i64 0, .int .i64 0, .int .i64 0, .bool false] 26)) (w.heap.size + 2) [.bool false, .int .i64 0, .int .i64 0, .int .i64 0, .int .i64 0, .bool false]) := hv_at (by simp)
  have Lu : Hid (w.heap.size ≤ w.heap.size + 2) := Nat.le_add_right _ _
  have FX : Hid (Ext w (((w.alloc (.cells #[.bool true, .int .i64 x, .int .i64 y, .int .i64 z, .int .i64 s, .bool true] 26)).alloc (.cells #[.int .i64 v0, .int .i64 v1, .int .i64 v2] 24)).alloc (.cells #[.bool false, .int .i64 0, .int .i64 0, .int .i64 0, .int .i64 0, .bool false] 26))) := (((Ext.refl w).alloc _).alloc _).alloc _
  go_enter Try.func14, Try.ntmps14
  go_upto_region 1 with fail
  generalize (((w.alloc (.cells #[.bool true, .int .i64 x, .int .i64 y, .int .i64 z, .int .i64 s, .bool true] 26)).alloc (.cells #[.int .i64 v0, .int .i64 v1, .int .i64 v2] 24)).alloc (.cells #[.bool false, .int .i64 0, .int .i64 0, .int .i64 0, .int .i64 0, .bool false] 26)) = wa at *
  have qt0 : wa.cell? ⟨w.heap.size, 0, none⟩ = some (.bool true) := Ft.out.c 0 rfl
  go_upto_region 3 with fail
  clear qt0
  have qt1 : wa.cell? ⟨w.heap.size, 1, none⟩ = some (.int .i64 x) := Ft.out.c 1 rfl
  have qt2 : wa.cell? ⟨w.heap.size, 2, none⟩ = some (.int .i64 y) := Ft.out.c 2 rfl
  have qt3 : wa.cell? ⟨w.heap.size, 3, none⟩ = some (.int .i64 z) := Ft.out.c 3 rfl
  have qv0 : wa.cell? ⟨(w.heap.size + 1), 0, none⟩ = some (.int .i64 v0) := Fv.out.c 0 rfl
  have qv1 : wa.cell? ⟨(w.heap.size + 1), 1, none⟩ = some (.int .i64 v1) := Fv.out.c 1 rfl
  have qv2 : wa.cell? ⟨(w.heap.size + 1), 2, none⟩ = some (.int .i64 v2) := Fv.out.c 2 rfl
  go_upto_region 4 with (first | (go_at_call 23; refine (HD.out _).mono ?_; rintro e w3 ⟨rfl, x3⟩))
  have Ft : Hid (HV w3 w.heap.size [.bool true, .int .i64 x, .int .i64 y, .int .i64 z, .int .i64 s, .bool true]) := Ft.out.ext x3
  have Fv : Hid (HV w3 (w.heap.size + 1) [.int .i64 v0, .int .i64 v1, .int .i64 v2]) := Fv.out.ext x3
  have Fu : Hid (HV w3 (w.heap.size + 2) [.bool false, .int .i64 0, .int .i64 0, .int .i64 0, .int .i64 0, .bool false]) := Fu.out.ext x3
  have FX : Hid (Ext w w3) := FX.out.trans x3
  clear qt1 qt2 qt3 qv0 qv1 qv2 x3 HD
  have qt0 : w3.cell? ⟨w.heap.size, 0, none⟩ = some (.bool true) := Ft.out.c 0 rfl
  have qt1 : w3.cell? ⟨w.heap.size, 1, none⟩ = some (.int .i64 x) := Ft.out.c 1 rfl
  have qt2 : w3.cell? ⟨w.heap.size, 2, none⟩ = some (.int .i64 y) := Ft.out.c 2 rfl
  have qt3 : w3.cell? ⟨w.heap.size, 3, none⟩ = some (.int .i64 z) := Ft.out.c 3 rfl
  have qt4 : w3.cell? ⟨w.heap.size, 4, none⟩ = some (.int .i64 s) := Ft.out.c 4 rfl
  have qt5 : w3.cell? ⟨w.heap.size, 5, none⟩ = some (.bool true) := Ft.out.c 5 rfl
  have qv0 : w3.cell? ⟨(w.heap.size + 1), 0, none⟩ = some (.int .i64 v0) := Fv.out.c 0 rfl
  have qv1 : w3.cell? ⟨(w.heap.size + 1), 1, none⟩ = some (.int .i64 v1) := Fv.out.c 1 rfl
  have qv2 : w3.cell? ⟨(w.heap.size + 1), 2, none⟩ = some (.int .i64 v2) := Fv.out.c 2 rfl
  have o0 : w3.cell? ⟨(w.heap.size + 2), 0, none⟩ = some (.bool false) := Fu.out.c 0 rfl
  have z0 : w3.frozen? ⟨(w.heap.size + 2), 0, none⟩ = false := Fu.out.f 0 rfl
  have o1 : w3.cell? ⟨(w.heap.size + 2), 1, none⟩ = some (.int .i64 0) := Fu.out.c 1 rfl
  have z1 : w3.frozen? ⟨(w.heap.size + 2), 1, none⟩ = false := Fu.out.f 1 rfl
  have o2 : w3.cell? ⟨(w.heap.size + 2), 2, none⟩ = some (.int .i64 0) := Fu.out.c 2 rfl
  have z2 : w3.frozen? ⟨(w.heap.size + 2), 2, none⟩ = false := Fu.out.f 2 rfl
  have o3 : w3.cell? ⟨(w.heap.size + 2), 3, none⟩ = some (.int .i64 0) := Fu.out.c 3 rfl
  have z3 : w3.frozen? ⟨(w.heap.size + 2), 3, none⟩ = false := Fu.out.f 3 rfl
  have o4 : w3.cell? ⟨(w.heap.size + 2), 4, none⟩ = some (.int .i64 0) := Fu.out.c 4 rfl
  have z4 : w3.frozen? ⟨(w.heap.size + 2), 4, none⟩ = false := Fu.out.f 4 rfl
  have o5 : w3.cell? ⟨(w.heap.size + 2), 5, none⟩ = some (.bool false) := Fu.out.c 5 rfl
  have z5 : w3.frozen? ⟨(w.heap.size + 2), 5, none⟩ = false := Fu.out.f 5 rfl
  go_wp2_with fail
  refine bodyPost_ret (v := .tuple #[.agg #[.bool true, .int .i64 x, .int .i64 y, .int .i64 z, .int .i64 s, .bool true], .bool false]) (by simp [results, Try.results14, go_sem, *]) rfl ⟨rfl, ?_⟩
  exact (Ext.set (Ext.set (Ext.set (Ext.set (Ext.set (Ext.set FX.out Lu.out _) Lu.out _) Lu.out _) Lu.out _) Lu.out _) Lu.out _)
end Go.Proofs.Ytbmocnigmpmfkaa
