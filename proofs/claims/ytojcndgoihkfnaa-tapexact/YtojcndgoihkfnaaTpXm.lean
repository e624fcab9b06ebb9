/- The reference's taps. -/
import Derived.Test.YtojcndgoihkfnaaTp3m
import Derived.Test.YtojcndgoihkfnaaR3gm
namespace Go.Proofs.Ytojcndgoihkfnaa
open Go.RowKit Go.Shelf
set_option maxRecDepth 20000 in
set_option maxHeartbeats 8000000 in
theorem maytap_any (on : Bool) (x y z s p : Int) (w : World) : Calls Try.prog 11 #[.agg #[.bool on, .int .i64 x, .int .i64 y, .int .i64 z, .int .i64 s, .int .i64 p]] w fun e w' => e = .returned (.bool (okTp on x y z s p)) ∧ Ext w w' := by
  have HC : Hid (∀ w, Calls Try.prog 12 #[.agg #[.int .i64 x, .int .i64 y, .int .i64 z]] w fun e w' => e = .returned (.bool (ok3 x y z)) ∧ Ext w w') := mayv_any x y z
  have B : Hid (HV (w.alloc (.cells #[.bool on, .int .i64 x, .int .i64 y, .int .i64 z, .int .i64 s, .int .i64 p] 26)) w.heap.size [.bool on, .int .i64 x, .int .i64 y, .int .i64 z, .int .i64 s, .int .i64 p]) := hv_at rfl
  have X0 : Hid (Ext w (w.alloc (.cells #[.bool on, .int .i64 x, .int .i64 y, .int .i64 z, .int .i64 s, .int .i64 p] 26))) := (Ext.refl w).alloc _
  cases on
  · have er : okTp false x y z s p = decide (x = 0 ∧ y = 0 ∧ z = 0 ∧ s = 0 ∧ p = 0) := rfl
    rw [er]
    clear er
    by_cases h0 : x = 0 ∧ y = 0 ∧ z = 0 ∧ s = 0 ∧ p = 0
    · obtain ⟨rfl, rfl, rfl, rfl, rfl⟩ := h0
      have k3 : ok3 0 0 0 = true := by kernel_rfl
      rw [k3] at HC
      clear k3
      go_enter Try.func11, Try.ntmps11
      go_upto_region 1 with fail
      generalize (w.alloc (.cells #[.bool false, .int .i64 0, .int .i64 0, .int .i64 0, .int .i64 0, .int .i64 0] 26)) = wa at *
      have k0 : wa.cell? ⟨w.heap.size, 0, none⟩ = some (.bool false) := B.out.c 0 rfl
      have k1 : wa.cell? ⟨w.heap.size, 1, none⟩ = some (.int .i64 0) := B.out.c 1 rfl
      have k2 : wa.cell? ⟨w.heap.size, 2, none⟩ = some (.int .i64 0) := B.out.c 2 rfl
      have k3 : wa.cell? ⟨w.heap.size, 3, none⟩ = some (.int .i64 0) := B.out.c 3 rfl
      have k4 : wa.cell? ⟨w.heap.size, 4, none⟩ = some (.int .i64 0) := B.out.c 4 rfl
      have k5 : wa.cell? ⟨w.heap.size, 5, none⟩ = some (.int .i64 0) := B.out.c 5 rfl
      go_wp2_with (go_at_call 12; refine (HC.out _).mono ?_; rintro e m1 ⟨rfl, z1⟩; have j4 : m1.cell? ⟨w.heap.size, 4, none⟩ = some (.int .i64 0) := (B.out.ext z1).c 4 rfl; have j5 : m1.cell? ⟨w.heap.size, 5, none⟩ = some (.int .i64 0) := (B.out.ext z1).c 5 rfl)
      all_goals
        go_ret
        exact ⟨by first | (simp [*]; done) | (simp [*]; omega), X0.out.trans z1⟩
    · have hd : decide (x = 0 ∧ y = 0 ∧ z = 0 ∧ s = 0 ∧ p = 0) = false := by simpa using h0
      rw [hd]
      clear hd
      go_enter Try.func11, Try.ntmps11
      go_upto_region 1 with fail
      generalize (w.alloc (.cells #[.bool false, .int .i64 x, .int .i64 y, .int .i64 z, .int .i64 s, .int .i64 p] 26)) = wa at *
      have k0 : wa.cell? ⟨w.heap.size, 0, none⟩ = some (.bool false) := B.out.c 0 rfl
      have k1 : wa.cell? ⟨w.heap.size, 1, none⟩ = some (.int .i64 x) := B.out.c 1 rfl
      have k2 : wa.cell? ⟨w.heap.size, 2, none⟩ = some (.int .i64 y) := B.out.c 2 rfl
      have k3 : wa.cell? ⟨w.heap.size, 3, none⟩ = some (.int .i64 z) := B.out.c 3 rfl
      have k4 : wa.cell? ⟨w.heap.size, 4, none⟩ = some (.int .i64 s) := B.out.c 4 rfl
      have k5 : wa.cell? ⟨w.heap.size, 5, none⟩ = some (.int .i64 p) := B.out.c 5 rfl
      go_wp2_with fail
      all_goals
        go_ret
        first | exact ⟨by simp [*], X0.out⟩ | (exfalso; simp_all; done)
  · have er : okTp true x y z s p = (ok3 x y z && okMk s && okMk p) := rfl
    rw [er]
    clear er
    have es : okMk s = (decide (0 ≤ s) && decide (s ≤ 1099511627777)) := rfl
    have ep : okMk p = (decide (0 ≤ p) && decide (p ≤ 1099511627777)) := rfl
    rw [es, ep]
    clear es ep
    generalize ok3 x y z = o3 at *
    cases o3
    · skip
      go_enter Try.func11, Try.ntmps11
      go_upto_region 1 with fail
      generalize (w.alloc (.cells #[.bool true, .int .i64 x, .int .i64 y, .int .i64 z, .int .i64 s, .int .i64 p] 26)) = wa at *
      have k0 : wa.cell? ⟨w.heap.size, 0, none⟩ = some (.bool true) := B.out.c 0 rfl
      have k1 : wa.cell? ⟨w.heap.size, 1, none⟩ = some (.int .i64 x) := B.out.c 1 rfl
      have k2 : wa.cell? ⟨w.heap.size, 2, none⟩ = some (.int .i64 y) := B.out.c 2 rfl
      have k3 : wa.cell? ⟨w.heap.size, 3, none⟩ = some (.int .i64 z) := B.out.c 3 rfl
      have k4 : wa.cell? ⟨w.heap.size, 4, none⟩ = some (.int .i64 s) := B.out.c 4 rfl
      have k5 : wa.cell? ⟨w.heap.size, 5, none⟩ = some (.int .i64 p) := B.out.c 5 rfl
      go_wp2_with (go_at_call 12; refine (HC.out _).mono ?_; rintro e m1 ⟨rfl, z1⟩; have j4 : m1.cell? ⟨w.heap.size, 4, none⟩ = some (.int .i64 s) := (B.out.ext z1).c 4 rfl; have j5 : m1.cell? ⟨w.heap.size, 5, none⟩ = some (.int .i64 p) := (B.out.ext z1).c 5 rfl)
      all_goals
        go_ret
        exact ⟨by first | (simp [*]; done) | (simp [*]; omega), X0.out.trans z1⟩
    · by_cases h1 : 0 ≤ s
      · by_cases h2 : s ≤ 1099511627777
        · by_cases h3 : 0 ≤ p
          · skip
            go_enter Try.func11, Try.ntmps11
            go_upto_region 1 with fail
            generalize (w.alloc (.cells #[.bool true, .int .i64 x, .int .i64 y, .int .i64 z, .int .i64 s, .int .i64 p] 26)) = wa at *
            have k0 : wa.cell? ⟨w.heap.size, 0, none⟩ = some (.bool true) := B.out.c 0 rfl
            have k1 : wa.cell? ⟨w.heap.size, 1, none⟩ = some (.int .i64 x) := B.out.c 1 rfl
            have k2 : wa.cell? ⟨w.heap.size, 2, none⟩ = some (.int .i64 y) := B.out.c 2 rfl
            have k3 : wa.cell? ⟨w.heap.size, 3, none⟩ = some (.int .i64 z) := B.out.c 3 rfl
            have k4 : wa.cell? ⟨w.heap.size, 4, none⟩ = some (.int .i64 s) := B.out.c 4 rfl
            have k5 : wa.cell? ⟨w.heap.size, 5, none⟩ = some (.int .i64 p) := B.out.c 5 rfl
            go_wp2_with (go_at_call 12; refine (HC.out _).mono ?_; rintro e m1 ⟨rfl, z1⟩; have j4 : m1.cell? ⟨w.heap.size, 4, none⟩ = some (.int .i64 s) := (B.out.ext z1).c 4 rfl; have j5 : m1.cell? ⟨w.heap.size, 5, none⟩ = some (.int .i64 p) := (B.out.ext z1).c 5 rfl)
            all_goals
              go_ret
              exact ⟨by first | (simp [*]; done) | (simp [*]; omega), X0.out.trans z1⟩
          · skip
            go_enter Try.func11, Try.ntmps11
            go_upto_region 1 with fail
            generalize (w.alloc (.cells #[.bool true, .int .i64 x, .int .i64 y, .int .i64 z, .int .i64 s, .int .i64 p] 26)) = wa at *
            have k0 : wa.cell? ⟨w.heap.size, 0, none⟩ = some (.bool true) := B.out.c 0 rfl
            have k1 : wa.cell? ⟨w.heap.size, 1, none⟩ = some (.int .i64 x) := B.out.c 1 rfl
            have k2 : wa.cell? ⟨w.heap.size, 2, none⟩ = some (.int .i64 y) := B.out.c 2 rfl
            have k3 : wa.cell? ⟨w.heap.size, 3, none⟩ = some (.int .i64 z) := B.out.c 3 rfl
            have k4 : wa.cell? ⟨w.heap.size, 4, none⟩ = some (.int .i64 s) := B.out.c 4 rfl
            have k5 : wa.cell? ⟨w.heap.size, 5, none⟩ = some (.int .i64 p) := B.out.c 5 rfl
            go_wp2_with (go_at_call 12; refine (HC.out _).mono ?_; rintro e m1 ⟨rfl, z1⟩; have j4 : m1.cell? ⟨w.heap.size, 4, none⟩ = some (.int .i64 s) := (B.out.ext z1).c 4 rfl; have j5 : m1.cell? ⟨w.heap.size, 5, none⟩ = some (.int .i64 p) := (B.out.ext z1).c 5 rfl)
            all_goals
              go_ret
              exact ⟨by first | (simp [*]; done) | (simp [*]; omega), X0.out.trans z1⟩
        · skip
          go_enter Try.func11, Try.ntmps11
          go_upto_region 1 with fail
          generalize (w.alloc (.cells #[.bool true, .int .i64 x, .int .i64 y, .int .i64 z, .int .i64 s, .int .i64 p] 26)) = wa at *
          have k0 : wa.cell? ⟨w.heap.size, 0, none⟩ = some (.bool true) := B.out.c 0 rfl
          have k1 : wa.cell? ⟨w.heap.size, 1, none⟩ = some (.int .i64 x) := B.out.c 1 rfl
          have k2 : wa.cell? ⟨w.heap.size, 2, none⟩ = some (.int .i64 y) := B.out.c 2 rfl
          have k3 : wa.cell? ⟨w.heap.size, 3, none⟩ = some (.int .i64 z) := B.out.c 3 rfl
          have k4 : wa.cell? ⟨w.heap.size, 4, none⟩ = some (.int .i64 s) := B.out.c 4 rfl
          have k5 : wa.cell? ⟨w.heap.size, 5, none⟩ = some (.int .i64 p) := B.out.c 5 rfl
          go_wp2_with (go_at_call 12; refine (HC.out _).mono ?_; rintro e m1 ⟨rfl, z1⟩; have j4 : m1.cell? ⟨w.heap.size, 4, none⟩ = some (.int .i64 s) := (B.out.ext z1).c 4 rfl; have j5 : m1.cell? ⟨w.heap.size, 5, none⟩ = some (.int .i64 p) := (B.out.ext z1).c 5 rfl)
          all_goals
            go_ret
            exact ⟨by first | (simp [*]; done) | (simp [*]; omega), X0.out.trans z1⟩
      · skip
        go_enter Try.func11, Try.ntmps11
        go_upto_region 1 with fail
        generalize (w.alloc (.cells #[.bool true, .int .i64 x, .int .i64 y, .int .i64 z, .int .i64 s, .int .i64 p] 26)) = wa at *
        have k0 : wa.cell? ⟨w.heap.size, 0, none⟩ = some (.bool true) := B.out.c 0 rfl
        have k1 : wa.cell? ⟨w.heap.size, 1, none⟩ = some (.int .i64 x) := B.out.c 1 rfl
        have k2 : wa.cell? ⟨w.heap.size, 2, none⟩ = some (.int .i64 y) := B.out.c 2 rfl
        have k3 : wa.cell? ⟨w.heap.size, 3, none⟩ = some (.int .i64 z) := B.out.c 3 rfl
        have k4 : wa.cell? ⟨w.heap.size, 4, none⟩ = some (.int .i64 s) := B.out.c 4 rfl
        have k5 : wa.cell? ⟨w.heap.size, 5, none⟩ = some (.int .i64 p) := B.out.c 5 rfl
        go_wp2_with (go_at_call 12; refine (HC.out _).mono ?_; rintro e m1 ⟨rfl, z1⟩; have j4 : m1.cell? ⟨w.heap.size, 4, none⟩ = some (.int .i64 s) := (B.out.ext z1).c 4 rfl; have j5 : m1.cell? ⟨w.heap.size, 5, none⟩ = some (.int .i64 p) := (B.out.ext z1).c 5 rfl)
        all_goals
          go_ret
          exact ⟨by first | (simp [*]; done) | (simp [*]; omega), X0.out.trans z1⟩
set_option maxRecDepth 20000 in
set_option maxHeartbeats 16000000 in
theorem rtap_off (v0 v1 v2 n : Int) (w : World)  : Calls Try.prog 14 #[.agg #[.bool false, .int .i64 0, .int .i64 0, .int .i64 0, .int .i64 0, .int .i64 0], .agg #[.int .i64 v0, .int .i64 v1, .int .i64 v2], .int .i64 n] w fun e w' => e = .returned (.tuple #[.agg #[.bool true, .int .i64 v0, .int .i64 v1, .int .i64 v2, .int .i64 0, .int .i64 0], .int .i64 0, .int .i64 0]) ∧ Ext w w' := by
  have Ft : Hid (HV (((w.alloc (.cells #[.bool false, .int .i64 0, .int .i64 0, .int .i64 0, .int .i64 0, .int .i64 0] 26)).alloc (.cells #[.int .i64 v0, .int .i64 v1, .int .i64 v2] 24)).alloc (.cells #[.bool false, .int .i64 0, .int .i64 0, .int .i64 0, .int .i64 0, .int .i64 0] 26)) w.heap.size [.bool false, .int .i64 0, .int .i64 0, .int .i64 0, .int .i64 0, .int .i64 0]) := ((hv_at rfl).alloc _).alloc _
  have Fv : Hid (HV (((w.alloc (.cells #[.bool false, .int .i64 0, .int .i64 0, .int .i64 0, .int .i64 0, .int .i64 0] 26)).alloc (.cells #[.int .i64 v0, .int .i64 v1, .int .i64 v2] 24)).alloc (.cells #[.bool false, .int .i64 0, .int .i64 0, .int .i64 0, .int .i64 0, .int .i64 0] 26)) (w.heap.size + 1) [.int .i64 v0, .int .i64 v1, .int .i64 v2]) := (hv_at (by simp)).alloc _
  have Fu : Hid (HV (((w.alloc (.cells #[.bool false, .int .i64 0, .int .i64 0, .int .i64 0, .int .i64 0, .int .i64 0] 26)).alloc (.cells #[.int .i64 v0, .int .i64 v1, .int .i64 v2] 24)).alloc (.cells #[.bool false, .int .i64 0, .int .i64 0, .int .i64 0, .int .i64 0, .int .i64 0] 26)) (w.heap.size + 2) [.bool false, .int .i64 0, .int .i64 0, .int .i64 0, .int .i64 0, .int .i64 0]) := hv_at (by simp)
  have Lt : Hid (w.heap.size ≤ w.heap.size) := Nat.le_refl _
  have Lu : Hid (w.heap.size ≤ w.heap.size + 2) := Nat.le_add_right _ _
  have FX : Hid (Ext w (((w.alloc (.cells #[.bool false, .int .i64 0, .int .i64 0, .int .i64 0, .int .i64 0, .int .i64 0] 26)).alloc (.cells #[.int .i64 v0, .int .i64 v1, .int .i64 v2] 24)).alloc (.cells #[.bool false, .int .i64 0, .int .i64 0, .int .i64 0, .int .i64 0, .int .i64 0] 26))) := (((Ext.refl w).alloc _).alloc _).alloc _
  go_enter Try.func14, Try.ntmps14
  go_upto_region 1 with fail
  generalize (((w.alloc (.cells #[.bool false, .int .i64 0, .int .i64 0, .int .i64 0, .int .i64 0, .int .i64 0] 26)).alloc (.cells #[.int .i64 v0, .int .i64 v1, .int .i64 v2] 24)).alloc (.cells #[.bool false, .int .i64 0, .int .i64 0, .int .i64 0, .int .i64 0, .int .i64 0] 26)) = wa at *
  have qt0 : wa.cell? ⟨w.heap.size, 0, none⟩ = some (.bool false) := Ft.out.c 0 rfl
  have qv0 : wa.cell? ⟨(w.heap.size + 1), 0, none⟩ = some (.int .i64 v0) := Fv.out.c 0 rfl
  have qv1 : wa.cell? ⟨(w.heap.size + 1), 1, none⟩ = some (.int .i64 v1) := Fv.out.c 1 rfl
  have qv2 : wa.cell? ⟨(w.heap.size + 1), 2, none⟩ = some (.int .i64 v2) := Fv.out.c 2 rfl
  have o0 : wa.cell? ⟨(w.heap.size + 2), 0, none⟩ = some (.bool false) := Fu.out.c 0 rfl
  have z0 : wa.frozen? ⟨(w.heap.size + 2), 0, none⟩ = false := Fu.out.f 0 rfl
  have o1 : wa.cell? ⟨(w.heap.size + 2), 1, none⟩ = some (.int .i64 0) := Fu.out.c 1 rfl
  have z1 : wa.frozen? ⟨(w.heap.size + 2), 1, none⟩ = false := Fu.out.f 1 rfl
  have o2 : wa.cell? ⟨(w.heap.size + 2), 2, none⟩ = some (.int .i64 0) := Fu.out.c 2 rfl
  have z2 : wa.frozen? ⟨(w.heap.size + 2), 2, none⟩ = false := Fu.out.f 2 rfl
  have o3 : wa.cell? ⟨(w.heap.size + 2), 3, none⟩ = some (.int .i64 0) := Fu.out.c 3 rfl
  have z3 : wa.frozen? ⟨(w.heap.size + 2), 3, none⟩ = false := Fu.out.f 3 rfl
  have o4 : wa.cell? ⟨(w.heap.size + 2), 4, none⟩ = some (.int .i64 0) := Fu.out.c 4 rfl
  have z4 : wa.frozen? ⟨(w.heap.size + 2), 4, none⟩ = false := Fu.out.f 4 rfl
  have o5 : wa.cell? ⟨(w.heap.size + 2), 5, none⟩ = some (.int .i64 0) := Fu.out.c 5 rfl
  have z5 : wa.frozen? ⟨(w.heap.size + 2), 5, none⟩ = false := Fu.out.f 5 rfl
  go_wp2_with fail
  refine bodyPost_ret (v := .tuple #[.agg #[.bool true, .int .i64 v0, .int .i64 v1, .int .i64 v2, .int .i64 0, .int .i64 0], .int .i64 0, .int .i64 0]) (by simp [results, Try.results14, go_sem, *]) rfl ⟨rfl, ?_⟩
  repeat (refine Ext.set ?_ (by first | exact Nat.le_refl _ | exact Lu.out) _)
  exact FX.out
set_option maxRecDepth 20000 in
set_option maxHeartbeats 16000000 in
theorem rtap_far1 (x y z s p v0 v1 v2 n : Int) (w : World) (HS : Hid (∀ w, Calls Try.prog 24 #[.agg #[.int .i64 v0, .int .i64 v1, .int .i64 v2], .agg #[.int .i64 x, .int .i64 y, .int .i64 z]] w fun e w' => e = .returned (.tuple #[.agg #[.int .i64 0, .int .i64 0, .int .i64 0], .int .i64 2]) ∧ Ext w w')) : Calls Try.prog 14 #[.agg #[.bool true, .int .i64 x, .int .i64 y, .int .i64 z, .int .i64 s, .int .i64 p], .agg #[.int .i64 v0, .int .i64 v1, .int .i64 v2], .int .i64 n] w fun e w' => e = .returned (.tuple #[.agg #[.bool false, .int .i64 0, .int .i64 0, .int .i64 0, .int .i64 0, .int .i64 0], .int .i64 0, .int .i64 2]) ∧ Ext w w' := by
  have Ft : Hid (HV (((w.alloc (.cells #[.bool true, .int .i64 x, .int .i64 y, .int .i64 z, .int .i64 s, .int .i64 p] 26)).alloc (.cells #[.int .i64 v0, .int .i64 v1, .int .i64 v2] 24)).alloc (.cells #[.bool false, .int .i64 0, .int .i64 0, .int .i64 0, .int .i64 0, .int .i64 0] 26)) w.heap.size [.bool true, .int .i64 x, .int .i64 y, .int .i64 z, .int .i64 s, .int .i64 p]) := ((hv_at rfl).alloc _).alloc _
  have Fv : Hid (HV (((w.alloc (.cells #[.bool true, .int .i64 x, .int .i64 y, .int .i64 z, .int .i64 s, .int .i64 p] 26)).alloc (.cells #[.int .i64 v0, .int .i64 v1, .int .i64 v2] 24)).alloc (.cells #[.bool false, .int .i64 0, .int .i64 0, .int .i64 0, .int .i64 0, .int .i64 0] 26)) (w.heap.size + 1) [.int .i64 v0, .int .i64 v1, .int .i64 v2]) := (hv_at (by simp)).alloc _
  have Fu : Hid (HV (((w.alloc (.cells #[.bool true, .int .i64 x, .int .i64 y, .int .i64 z, .int .i64 s, .int .i64 p] 26)).alloc (.cells #[.int .i64 v0, .int .i64 v1, .int .i64 v2] 24)).alloc (.cells #[.bool false, .int .i64 0, .int .i64 0, .int .i64 0, .int .i64 0, .int .i64 0] 26)) (w.heap.size + 2) [.bool false, .int .i64 0, .int .i64 0, .int .i64 0, .int .i64 0, .int .i64 0]) := hv_at (by simp)
  have Lt : Hid (w.heap.size ≤ w.heap.size) := Nat.le_refl _
  have Lu : Hid (w.heap.size ≤ w.heap.size + 2) := Nat.le_add_right _ _
  have FX : Hid (Ext w (((w.alloc (.cells #[.bool true, .int .i64 x, .int .i64 y, .int .i64 z, .int .i64 s, .int .i64 p] 26)).alloc (.cells #[.int .i64 v0, .int .i64 v1, .int .i64 v2] 24)).alloc (.cells #[.bool false, .int .i64 0, .int .i64 0, .int .i64 0, .int .i64 0, .int .i64 0] 26))) := (((Ext.refl w).alloc _).alloc _).alloc _
  go_enter Try.func14, Try.ntmps14
  go_upto_region 1 with fail
  generalize (((w.alloc (.cells #[.bool true, .int .i64 x, .int .i64 y, .int .i64 z, .int .i64 s, .int .i64 p] 26)).alloc (.cells #[.int .i64 v0, .int .i64 v1, .int .i64 v2] 24)).alloc (.cells #[.bool false, .int .i64 0, .int .i64 0, .int .i64 0, .int .i64 0, .int .i64 0] 26)) = wa at *
  have qt0 : wa.cell? ⟨w.heap.size, 0, none⟩ = some (.bool true) := Ft.out.c 0 rfl
  go_upto_region 3 with fail
  clear qt0
  have qt1 : wa.cell? ⟨w.heap.size, 1, none⟩ = some (.int .i64 x) := Ft.out.c 1 rfl
  have qt2 : wa.cell? ⟨w.heap.size, 2, none⟩ = some (.int .i64 y) := Ft.out.c 2 rfl
  have qt3 : wa.cell? ⟨w.heap.size, 3, none⟩ = some (.int .i64 z) := Ft.out.c 3 rfl
  have qv0 : wa.cell? ⟨(w.heap.size + 1), 0, none⟩ = some (.int .i64 v0) := Fv.out.c 0 rfl
  have qv1 : wa.cell? ⟨(w.heap.size + 1), 1, none⟩ = some (.int .i64 v1) := Fv.out.c 1 rfl
  have qv2 : wa.cell? ⟨(w.heap.size + 1), 2, none⟩ = some (.int .i64 v2) := Fv.out.c 2 rfl
  go_upto_region 4 with (first | (go_at_call 24; refine (HS.out _).mono ?_; rintro e w1 ⟨rfl, x1⟩))
  have Ft : Hid (HV w1 w.heap.size [.bool true, .int .i64 x, .int .i64 y, .int .i64 z, .int .i64 s, .int .i64 p]) := Ft.out.ext x1
  have Fv : Hid (HV w1 (w.heap.size + 1) [.int .i64 v0, .int .i64 v1, .int .i64 v2]) := Fv.out.ext x1
  have Fu : Hid (HV w1 (w.heap.size + 2) [.bool false, .int .i64 0, .int .i64 0, .int .i64 0, .int .i64 0, .int .i64 0]) := Fu.out.ext x1
  have FX : Hid (Ext w w1) := FX.out.trans x1
  clear qt1 qt2 qt3 qv0 qv1 qv2 x1 HS
  have lttd : w.heap.size < w1.heap.size := Ft.out.1
  have ltvd : (w.heap.size + 1) < w1.heap.size := Fv.out.1
  have ltud : (w.heap.size + 2) < w1.heap.size := Fu.out.1
  have Ld : Hid (w.heap.size ≤ w1.heap.size) := FX.out.size
  have Ft : Hid (HV (w1.alloc (.cells #[.int .i64 0, .int .i64 0, .int .i64 0] 24)) w.heap.size [.bool true, .int .i64 x, .int .i64 y, .int .i64 z, .int .i64 s, .int .i64 p]) := Ft.out.alloc _
  have Fv : Hid (HV (w1.alloc (.cells #[.int .i64 0, .int .i64 0, .int .i64 0] 24)) (w.heap.size + 1) [.int .i64 v0, .int .i64 v1, .int .i64 v2]) := Fv.out.alloc _
  have Fu : Hid (HV (w1.alloc (.cells #[.int .i64 0, .int .i64 0, .int .i64 0] 24)) (w.heap.size + 2) [.bool false, .int .i64 0, .int .i64 0, .int .i64 0, .int .i64 0, .int .i64 0]) := Fu.out.alloc _
  have Fd : Hid (HV (w1.alloc (.cells #[.int .i64 0, .int .i64 0, .int .i64 0] 24)) w1.heap.size [.int .i64 0, .int .i64 0, .int .i64 0]) := hv_at rfl
  have FX : Hid (Ext w (w1.alloc (.cells #[.int .i64 0, .int .i64 0, .int .i64 0] 24))) := FX.out.alloc _
  generalize (w1.alloc (.cells #[.int .i64 0, .int .i64 0, .int .i64 0] 24)) = wx1 at *
  generalize w1.heap.size = nd at *
  have o0 : wx1.cell? ⟨(w.heap.size + 2), 0, none⟩ = some (.bool false) := Fu.out.c 0 rfl
  have z0 : wx1.frozen? ⟨(w.heap.size + 2), 0, none⟩ = false := Fu.out.f 0 rfl
  have o1 : wx1.cell? ⟨(w.heap.size + 2), 1, none⟩ = some (.int .i64 0) := Fu.out.c 1 rfl
  have z1 : wx1.frozen? ⟨(w.heap.size + 2), 1, none⟩ = false := Fu.out.f 1 rfl
  have o2 : wx1.cell? ⟨(w.heap.size + 2), 2, none⟩ = some (.int .i64 0) := Fu.out.c 2 rfl
  have z2 : wx1.frozen? ⟨(w.heap.size + 2), 2, none⟩ = false := Fu.out.f 2 rfl
  have o3 : wx1.cell? ⟨(w.heap.size + 2), 3, none⟩ = some (.int .i64 0) := Fu.out.c 3 rfl
  have z3 : wx1.frozen? ⟨(w.heap.size + 2), 3, none⟩ = false := Fu.out.f 3 rfl
  have o4 : wx1.cell? ⟨(w.heap.size + 2), 4, none⟩ = some (.int .i64 0) := Fu.out.c 4 rfl
  have z4 : wx1.frozen? ⟨(w.heap.size + 2), 4, none⟩ = false := Fu.out.f 4 rfl
  have o5 : wx1.cell? ⟨(w.heap.size + 2), 5, none⟩ = some (.int .i64 0) := Fu.out.c 5 rfl
  have z5 : wx1.frozen? ⟨(w.heap.size + 2), 5, none⟩ = false := Fu.out.f 5 rfl
  go_wp2_with fail
  refine bodyPost_ret (v := .tuple #[.agg #[.bool false, .int .i64 0, .int .i64 0, .int .i64 0, .int .i64 0, .int .i64 0], .int .i64 0, .int .i64 2]) (by simp [results, Try.results14, go_sem, *]) rfl ⟨rfl, ?_⟩
  repeat (refine Ext.set ?_ (by first | exact Nat.le_refl _ | exact Lu.out) _)
  exact FX.out
set_option maxRecDepth 20000 in
set_option maxHeartbeats 16000000 in
theorem rtap_far2 (x y z s p v0 v1 v2 n d0 d1 d2 : Int) (w : World) (HS : Hid (∀ w, Calls Try.prog 24 #[.agg #[.int .i64 v0, .int .i64 v1, .int .i64 v2], .agg #[.int .i64 x, .int .i64 y, .int .i64 z]] w fun e w' => e = .returned (.tuple #[.agg #[.int .i64 d0, .int .i64 d1, .int .i64 d2], .int .i64 0]) ∧ Ext w w')) (HN : Hid (∀ w, Calls Try.prog 25 #[.agg #[.int .i64 d0, .int .i64 d1, .int .i64 d2]] w fun e w' => e = .returned (.tuple #[.int .i64 0, .int .i64 2]) ∧ Ext w w')) : Calls Try.prog 14 #[.agg #[.bool true, .int .i64 x, .int .i64 y, .int .i64 z, .int .i64 s, .int .i64 p], .agg #[.int .i64 v0, .int .i64 v1, .int .i64 v2], .int .i64 n] w fun e w' => e = .returned (.tuple #[.agg #[.bool false, .int .i64 0, .int .i64 0, .int .i64 0, .int .i64 0, .int .i64 0], .int .i64 0, .int .i64 2]) ∧ Ext w w' := by
  have Ft : Hid (HV (((w.alloc (.cells #[.bool true, .int .i64 x, .int .i64 y, .int .i64 z, .int .i64 s, .int .i64 p] 26)).alloc (.cells #[.int .i64 v0, .int .i64 v1, .int .i64 v2] 24)).alloc (.cells #[.bool false, .int .i64 0, .int .i64 0, .int .i64 0, .int .i64 0, .int .i64 0] 26)) w.heap.size [.bool true, .int .i64 x, .int .i64 y, .int .i64 z, .int .i64 s, .int .i64 p]) := ((hv_at rfl).alloc _).alloc _
  have Fv : Hid (HV (((w.alloc (.cells #[.bool true, .int .i64 x, .int .i64 y, .int .i64 z, .int .i64 s, .int .i64 p] 26)).alloc (.cells #[.int .i64 v0, .int .i64 v1, .int .i64 v2] 24)).alloc (.cells #[.bool false, .int .i64 0, .int .i64 0, .int .i64 0, .int .i64 0, .int .i64 0] 26)) (w.heap.size + 1) [.int .i64 v0, .int .i64 v1, .int .i64 v2]) := (hv_at (by simp)).alloc _
  have Fu : Hid (HV (((w.alloc (.cells #[.bool true, .int .i64 x, .int .i64 y, .int .i64 z, .int .i64 s, .int .i64 p] 26)).alloc (.cells #[.int .i64 v0, .int .i64 v1, .int .i64 v2] 24)).alloc (.cells #[.bool false, .int .i64 0, .int .i64 0, .int .i64 0, .int .i64 0, .int .i64 0] 26)) (w.heap.size + 2) [.bool false, .int .i64 0, .int .i64 0, .int .i64 0, .int .i64 0, .int .i64 0]) := hv_at (by simp)
  have Lt : Hid (w.heap.size ≤ w.heap.size) := Nat.le_refl _
  have Lu : Hid (w.heap.size ≤ w.heap.size + 2) := Nat.le_add_right _ _
  have FX : Hid (Ext w (((w.alloc (.cells #[.bool true, .int .i64 x, .int .i64 y, .int .i64 z, .int .i64 s, .int .i64 p] 26)).alloc (.cells #[.int .i64 v0, .int .i64 v1, .int .i64 v2] 24)).alloc (.cells #[.bool false, .int .i64 0, .int .i64 0, .int .i64 0, .int .i64 0, .int .i64 0] 26))) := (((Ext.refl w).alloc _).alloc _).alloc _
  go_enter Try.func14, Try.ntmps14
  go_upto_region 1 with fail
  generalize (((w.alloc (.cells #[.bool true, .int .i64 x, .int .i64 y, .int .i64 z, .int .i64 s, .int .i64 p] 26)).alloc (.cells #[.int .i64 v0, .int .i64 v1, .int .i64 v2] 24)).alloc (.cells #[.bool false, .int .i64 0, .int .i64 0, .int .i64 0, .int .i64 0, .int .i64 0] 26)) = wa at *
  have qt0 : wa.cell? ⟨w.heap.size, 0, none⟩ = some (.bool true) := Ft.out.c 0 rfl
  go_upto_region 3 with fail
  clear qt0
  have qt1 : wa.cell? ⟨w.heap.size, 1, none⟩ = some (.int .i64 x) := Ft.out.c 1 rfl
  have qt2 : wa.cell? ⟨w.heap.size, 2, none⟩ = some (.int .i64 y) := Ft.out.c 2 rfl
  have qt3 : wa.cell? ⟨w.heap.size, 3, none⟩ = some (.int .i64 z) := Ft.out.c 3 rfl
  have qv0 : wa.cell? ⟨(w.heap.size + 1), 0, none⟩ = some (.int .i64 v0) := Fv.out.c 0 rfl
  have qv1 : wa.cell? ⟨(w.heap.size + 1), 1, none⟩ = some (.int .i64 v1) := Fv.out.c 1 rfl
  have qv2 : wa.cell? ⟨(w.heap.size + 1), 2, none⟩ = some (.int .i64 v2) := Fv.out.c 2 rfl
  go_upto_region 4 with (first | (go_at_call 24; refine (HS.out _).mono ?_; rintro e w1 ⟨rfl, x1⟩))
  have Ft : Hid (HV w1 w.heap.size [.bool true, .int .i64 x, .int .i64 y, .int .i64 z, .int .i64 s, .int .i64 p]) := Ft.out.ext x1
  have Fv : Hid (HV w1 (w.heap.size + 1) [.int .i64 v0, .int .i64 v1, .int .i64 v2]) := Fv.out.ext x1
  have Fu : Hid (HV w1 (w.heap.size + 2) [.bool false, .int .i64 0, .int .i64 0, .int .i64 0, .int .i64 0, .int .i64 0]) := Fu.out.ext x1
  have FX : Hid (Ext w w1) := FX.out.trans x1
  clear qt1 qt2 qt3 qv0 qv1 qv2 x1 HS
  have lttd : w.heap.size < w1.heap.size := Ft.out.1
  have ltvd : (w.heap.size + 1) < w1.heap.size := Fv.out.1
  have ltud : (w.heap.size + 2) < w1.heap.size := Fu.out.1
  have Ld : Hid (w.heap.size ≤ w1.heap.size) := FX.out.size
  have Ft : Hid (HV (w1.alloc (.cells #[.int .i64 d0, .int .i64 d1, .int .i64 d2] 24)) w.heap.size [.bool true, .int .i64 x, .int .i64 y, .int .i64 z, .int .i64 s, .int .i64 p]) := Ft.out.alloc _
  have Fv : Hid (HV (w1.alloc (.cells #[.int .i64 d0, .int .i64 d1, .int .i64 d2] 24)) (w.heap.size + 1) [.int .i64 v0, .int .i64 v1, .int .i64 v2]) := Fv.out.alloc _
  have Fu : Hid (HV (w1.alloc (.cells #[.int .i64 d0, .int .i64 d1, .int .i64 d2] 24)) (w.heap.size + 2) [.bool false, .int .i64 0, .int .i64 0, .int .i64 0, .int .i64 0, .int .i64 0]) := Fu.out.alloc _
  have Fd : Hid (HV (w1.alloc (.cells #[.int .i64 d0, .int .i64 d1, .int .i64 d2] 24)) w1.heap.size [.int .i64 d0, .int .i64 d1, .int .i64 d2]) := hv_at rfl
  have FX : Hid (Ext w (w1.alloc (.cells #[.int .i64 d0, .int .i64 d1, .int .i64 d2] 24))) := FX.out.alloc _
  generalize (w1.alloc (.cells #[.int .i64 d0, .int .i64 d1, .int .i64 d2] 24)) = wx1 at *
  generalize w1.heap.size = nd at *
  go_upto_region 6 with fail
  have qd0 : wx1.cell? ⟨nd, 0, none⟩ = some (.int .i64 d0) := Fd.out.c 0 rfl
  have qd1 : wx1.cell? ⟨nd, 1, none⟩ = some (.int .i64 d1) := Fd.out.c 1 rfl
  have qd2 : wx1.cell? ⟨nd, 2, none⟩ = some (.int .i64 d2) := Fd.out.c 2 rfl
  go_upto_region 7 with (first | (go_at_call 25; refine (HN.out _).mono ?_; rintro e w2 ⟨rfl, x2⟩))
  have Ft : Hid (HV w2 w.heap.size [.bool true, .int .i64 x, .int .i64 y, .int .i64 z, .int .i64 s, .int .i64 p]) := Ft.out.ext x2
  have Fv : Hid (HV w2 (w.heap.size + 1) [.int .i64 v0, .int .i64 v1, .int .i64 v2]) := Fv.out.ext x2
  have Fu : Hid (HV w2 (w.heap.size + 2) [.bool false, .int .i64 0, .int .i64 0, .int .i64 0, .int .i64 0, .int .i64 0]) := Fu.out.ext x2
  have Fd : Hid (HV w2 nd [.int .i64 d0, .int .i64 d1, .int .i64 d2]) := Fd.out.ext x2
  have FX : Hid (Ext w w2) := FX.out.trans x2
  clear qd0 qd1 qd2 x2 HN
  have o0 : w2.cell? ⟨(w.heap.size + 2), 0, none⟩ = some (.bool false) := Fu.out.c 0 rfl
  have z0 : w2.frozen? ⟨(w.heap.size + 2), 0, none⟩ = false := Fu.out.f 0 rfl
  have o1 : w2.cell? ⟨(w.heap.size + 2), 1, none⟩ = some (.int .i64 0) := Fu.out.c 1 rfl
  have z1 : w2.frozen? ⟨(w.heap.size + 2), 1, none⟩ = false := Fu.out.f 1 rfl
  have o2 : w2.cell? ⟨(w.heap.size + 2), 2, none⟩ = some (.int .i64 0) := Fu.out.c 2 rfl
  have z2 : w2.frozen? ⟨(w.heap.size + 2), 2, none⟩ = false := Fu.out.f 2 rfl
  have o3 : w2.cell? ⟨(w.heap.size + 2), 3, none⟩ = some (.int .i64 0) := Fu.out.c 3 rfl
  have z3 : w2.frozen? ⟨(w.heap.size + 2), 3, none⟩ = false := Fu.out.f 3 rfl
  have o4 : w2.cell? ⟨(w.heap.size + 2), 4, none⟩ = some (.int .i64 0) := Fu.out.c 4 rfl
  have z4 : w2.frozen? ⟨(w.heap.size + 2), 4, none⟩ = false := Fu.out.f 4 rfl
  have o5 : w2.cell? ⟨(w.heap.size + 2), 5, none⟩ = some (.int .i64 0) := Fu.out.c 5 rfl
  have z5 : w2.frozen? ⟨(w.heap.size + 2), 5, none⟩ = false := Fu.out.f 5 rfl
  go_wp2_with fail
  refine bodyPost_ret (v := .tuple #[.agg #[.bool false, .int .i64 0, .int .i64 0, .int .i64 0, .int .i64 0, .int .i64 0], .int .i64 0, .int .i64 2]) (by simp [results, Try.results14, go_sem, *]) rfl ⟨rfl, ?_⟩
  repeat (refine Ext.set ?_ (by first | exact Nat.le_refl _ | exact Lu.out) _)
  exact FX.out
set_option maxRecDepth 20000 in
set_option maxHeartbeats 16000000 in
theorem rtap_near (x y z s p v0 v1 v2 n d0 d1 d2 j : Int) (w : World) (HS : Hid (∀ w, Calls Try.prog 24 #[.agg #[.int .i64 v0, .int .i64 v1, .int .i64 v2], .agg #[.int .i64 x, .int .i64 y, .int .i64 z]] w fun e w' => e = .returned (.tuple #[.agg #[.int .i64 d0, .int .i64 d1, .int .i64 d2], .int .i64 0]) ∧ Ext w w')) (HN : Hid (∀ w, Calls Try.prog 25 #[.agg #[.int .i64 d0, .int .i64 d1, .int .i64 d2]] w fun e w' => e = .returned (.tuple #[.int .i64 j, .int .i64 0]) ∧ Ext w w')) (hs : 0 ≤ s ∧ s ≤ n + 1) (hp : 0 ≤ p ∧ p ≤ n + 1) (hn : 0 ≤ n ∧ n ≤ 1099511627776) : Calls Try.prog 14 #[.agg #[.bool true, .int .i64 x, .int .i64 y, .int .i64 z, .int .i64 s, .int .i64 p], .agg #[.int .i64 v0, .int .i64 v1, .int .i64 v2], .int .i64 n] w fun e w' => e = .returned (.tuple #[.agg #[.bool true, .int .i64 v0, .int .i64 v1, .int .i64 v2, .int .i64 (rwS (phs s p j (n + 1)) s (n + 1)), .int .i64 (rwP (phs s p j (n + 1)) p (n + 1))], .int .i64 (rwK (phs s p j (n + 1))), .int .i64 0]) ∧ Ext w w' := by
  have en : wrap64 (n + 1) = n + 1 := neg_wrap64 (by omega) (by omega)
  have es : Hid (wrap64 (n + 1 - s) = n + 1 - s) := neg_wrap64 (by omega) (by omega)
  have ep : Hid (wrap64 (n + 1 - p) = n + 1 - p) := neg_wrap64 (by omega) (by omega)
  generalize e0 : rwK (phs s p j (n + 1)) = r0
  generalize e1 : rwS (phs s p j (n + 1)) s (n + 1) = r1
  generalize e2 : rwP (phs s p j (n + 1)) p (n + 1) = r2
  have E0 : Hid (rwK (phs s p j (n + 1)) = r0) := e0
  have E1 : Hid (rwS (phs s p j (n + 1)) s (n + 1) = r1) := e1
  have E2 : Hid (rwP (phs s p j (n + 1)) p (n + 1) = r2) := e2
  clear e0 e1 e2
  have Ft : Hid (HV (((w.alloc (.cells #[.bool true, .int .i64 x, .int .i64 y, .int .i64 z, .int .i64 s, .int .i64 p] 26)).alloc (.cells #[.int .i64 v0, .int .i64 v1, .int .i64 v2] 24)).alloc (.cells #[.bool false, .int .i64 0, .int .i64 0, .int .i64 0, .int .i64 0, .int .i64 0] 26)) w.heap.size [.bool true, .int .i64 x, .int .i64 y, .int .i64 z, .int .i64 s, .int .i64 p]) := ((hv_at rfl).alloc _).alloc _
  have Fv : Hid (HV (((w.alloc (.cells #[.bool true, .int .i64 x, .int .i64 y, .int .i64 z, .int .i64 s, .int .i64 p] 26)).alloc (.cells #[.int .i64 v0, .int .i64 v1, .int .i64 v2] 24)).alloc (.cells #[.bool false, .int .i64 0, .int .i64 0, .int .i64 0, .int .i64 0, .int .i64 0] 26)) (w.heap.size + 1) [.int .i64 v0, .int .i64 v1, .int .i64 v2]) := (hv_at (by simp)).alloc _
  have Fu : Hid (HV (((w.alloc (.cells #[.bool true, .int .i64 x, .int .i64 y, .int .i64 z, .int .i64 s, .int .i64 p] 26)).alloc (.cells #[.int .i64 v0, .int .i64 v1, .int .i64 v2] 24)).alloc (.cells #[.bool false, .int .i64 0, .int .i64 0, .int .i64 0, .int .i64 0, .int .i64 0] 26)) (w.heap.size + 2) [.bool false, .int .i64 0, .int .i64 0, .int .i64 0, .int .i64 0, .int .i64 0]) := hv_at (by simp)
  have Lt : Hid (w.heap.size ≤ w.heap.size) := Nat.le_refl _
  have Lu : Hid (w.heap.size ≤ w.heap.size + 2) := Nat.le_add_right _ _
  have FX : Hid (Ext w (((w.alloc (.cells #[.bool true, .int .i64 x, .int .i64 y, .int .i64 z, .int .i64 s, .int .i64 p] 26)).alloc (.cells #[.int .i64 v0, .int .i64 v1, .int .i64 v2] 24)).alloc (.cells #[.bool false, .int .i64 0, .int .i64 0, .int .i64 0, .int .i64 0, .int .i64 0] 26))) := (((Ext.refl w).alloc _).alloc _).alloc _
  go_enter Try.func14, Try.ntmps14
  go_upto_region 1 with fail
  generalize (((w.alloc (.cells #[.bool true, .int .i64 x, .int .i64 y, .int .i64 z, .int .i64 s, .int .i64 p] 26)).alloc (.cells #[.int .i64 v0, .int .i64 v1, .int .i64 v2] 24)).alloc (.cells #[.bool false, .int .i64 0, .int .i64 0, .int .i64 0, .int .i64 0, .int .i64 0] 26)) = wa at *
  have qt0 : wa.cell? ⟨w.heap.size, 0, none⟩ = some (.bool true) := Ft.out.c 0 rfl
  go_upto_region 3 with fail
  clear qt0
  have qt1 : wa.cell? ⟨w.heap.size, 1, none⟩ = some (.int .i64 x) := Ft.out.c 1 rfl
  have qt2 : wa.cell? ⟨w.heap.size, 2, none⟩ = some (.int .i64 y) := Ft.out.c 2 rfl
  have qt3 : wa.cell? ⟨w.heap.size, 3, none⟩ = some (.int .i64 z) := Ft.out.c 3 rfl
  have qv0 : wa.cell? ⟨(w.heap.size + 1), 0, none⟩ = some (.int .i64 v0) := Fv.out.c 0 rfl
  have qv1 : wa.cell? ⟨(w.heap.size + 1), 1, none⟩ = some (.int .i64 v1) := Fv.out.c 1 rfl
  have qv2 : wa.cell? ⟨(w.heap.size + 1), 2, none⟩ = some (.int .i64 v2) := Fv.out.c 2 rfl
  go_upto_region 4 with (first | (go_at_call 24; refine (HS.out _).mono ?_; rintro e w1 ⟨rfl, x1⟩))
  have Ft : Hid (HV w1 w.heap.size [.bool true, .int .i64 x, .int .i64 y, .int .i64 z, .int .i64 s, .int .i64 p]) := Ft.out.ext x1
  have Fv : Hid (HV w1 (w.heap.size + 1) [.int .i64 v0, .int .i64 v1, .int .i64 v2]) := Fv.out.ext x1
  have Fu : Hid (HV w1 (w.heap.size + 2) [.bool false, .int .i64 0, .int .i64 0, .int .i64 0, .int .i64 0, .int .i64 0]) := Fu.out.ext x1
  have FX : Hid (Ext w w1) := FX.out.trans x1
  clear qt1 qt2 qt3 qv0 qv1 qv2 x1 HS
  have lttd : w.heap.size < w1.heap.size := Ft.out.1
  have ltvd : (w.heap.size + 1) < w1.heap.size := Fv.out.1
  have ltud : (w.heap.size + 2) < w1.heap.size := Fu.out.1
  have Ld : Hid (w.heap.size ≤ w1.heap.size) := FX.out.size
  have Ft : Hid (HV (w1.alloc (.cells #[.int .i64 d0, .int .i64 d1, .int .i64 d2] 24)) w.heap.size [.bool true, .int .i64 x, .int .i64 y, .int .i64 z, .int .i64 s, .int .i64 p]) := Ft.out.alloc _
  have Fv : Hid (HV (w1.alloc (.cells #[.int .i64 d0, .int .i64 d1, .int .i64 d2] 24)) (w.heap.size + 1) [.int .i64 v0, .int .i64 v1, .int .i64 v2]) := Fv.out.alloc _
  have Fu : Hid (HV (w1.alloc (.cells #[.int .i64 d0, .int .i64 d1, .int .i64 d2] 24)) (w.heap.size + 2) [.bool false, .int .i64 0, .int .i64 0, .int .i64 0, .int .i64 0, .int .i64 0]) := Fu.out.alloc _
  have Fd : Hid (HV (w1.alloc (.cells #[.int .i64 d0, .int .i64 d1, .int .i64 d2] 24)) w1.heap.size [.int .i64 d0, .int .i64 d1, .int .i64 d2]) := hv_at rfl
  have FX : Hid (Ext w (w1.alloc (.cells #[.int .i64 d0, .int .i64 d1, .int .i64 d2] 24))) := FX.out.alloc _
  generalize (w1.alloc (.cells #[.int .i64 d0, .int .i64 d1, .int .i64 d2] 24)) = wx1 at *
  generalize w1.heap.size = nd at *
  go_upto_region 6 with fail
  have qd0 : wx1.cell? ⟨nd, 0, none⟩ = some (.int .i64 d0) := Fd.out.c 0 rfl
  have qd1 : wx1.cell? ⟨nd, 1, none⟩ = some (.int .i64 d1) := Fd.out.c 1 rfl
  have qd2 : wx1.cell? ⟨nd, 2, none⟩ = some (.int .i64 d2) := Fd.out.c 2 rfl
  go_upto_region 7 with (first | (go_at_call 25; refine (HN.out _).mono ?_; rintro e w2 ⟨rfl, x2⟩))
  have Ft : Hid (HV w2 w.heap.size [.bool true, .int .i64 x, .int .i64 y, .int .i64 z, .int .i64 s, .int .i64 p]) := Ft.out.ext x2
  have Fv : Hid (HV w2 (w.heap.size + 1) [.int .i64 v0, .int .i64 v1, .int .i64 v2]) := Fv.out.ext x2
  have Fu : Hid (HV w2 (w.heap.size + 2) [.bool false, .int .i64 0, .int .i64 0, .int .i64 0, .int .i64 0, .int .i64 0]) := Fu.out.ext x2
  have Fd : Hid (HV w2 nd [.int .i64 d0, .int .i64 d1, .int .i64 d2]) := Fd.out.ext x2
  have FX : Hid (Ext w w2) := FX.out.trans x2
  clear qd0 qd1 qd2 x2 HN
  have o0 : w2.cell? ⟨w.heap.size, 1, none⟩ = some (.int .i64 x) := Ft.out.c 1 rfl
  have z0 : w2.frozen? ⟨w.heap.size, 1, none⟩ = false := Ft.out.f 1 rfl
  have o1 : w2.cell? ⟨w.heap.size, 2, none⟩ = some (.int .i64 y) := Ft.out.c 2 rfl
  have z1 : w2.frozen? ⟨w.heap.size, 2, none⟩ = false := Ft.out.f 2 rfl
  have o2 : w2.cell? ⟨w.heap.size, 3, none⟩ = some (.int .i64 z) := Ft.out.c 3 rfl
  have z2 : w2.frozen? ⟨w.heap.size, 3, none⟩ = false := Ft.out.f 3 rfl
  have qv0 : w2.cell? ⟨(w.heap.size + 1), 0, none⟩ = some (.int .i64 v0) := Fv.out.c 0 rfl
  have qv1 : w2.cell? ⟨(w.heap.size + 1), 1, none⟩ = some (.int .i64 v1) := Fv.out.c 1 rfl
  have qv2 : w2.cell? ⟨(w.heap.size + 1), 2, none⟩ = some (.int .i64 v2) := Fv.out.c 2 rfl
  go_upto_region 10 with fail
  clear qv0 qv1 qv2 o0 o1 o2 z0 z1 z2
  have Fv : Hid (HV (((w2.setCell ⟨w.heap.size, 1, none⟩ (.int .i64 v0)).setCell ⟨w.heap.size, 2, none⟩ (.int .i64 v1)).setCell ⟨w.heap.size, 3, none⟩ (.int .i64 v2)) (w.heap.size + 1) [.int .i64 v0, .int .i64 v1, .int .i64 v2]) := (((Fv.out.far (by omega)).far (by omega)).far (by omega))
  have Fu : Hid (HV (((w2.setCell ⟨w.heap.size, 1, none⟩ (.int .i64 v0)).setCell ⟨w.heap.size, 2, none⟩ (.int .i64 v1)).setCell ⟨w.heap.size, 3, none⟩ (.int .i64 v2)) (w.heap.size + 2) [.bool false, .int .i64 0, .int .i64 0, .int .i64 0, .int .i64 0, .int .i64 0]) := (((Fu.out.far (by omega)).far (by omega)).far (by omega))
  have Fd : Hid (HV (((w2.setCell ⟨w.heap.size, 1, none⟩ (.int .i64 v0)).setCell ⟨w.heap.size, 2, none⟩ (.int .i64 v1)).setCell ⟨w.heap.size, 3, none⟩ (.int .i64 v2)) nd [.int .i64 d0, .int .i64 d1, .int .i64 d2]) := (((Fd.out.far (by omega)).far (by omega)).far (by omega))
  have Ft : Hid (HV (((w2.setCell ⟨w.heap.size, 1, none⟩ (.int .i64 v0)).setCell ⟨w.heap.size, 2, none⟩ (.int .i64 v1)).setCell ⟨w.heap.size, 3, none⟩ (.int .i64 v2)) w.heap.size [.bool true, .int .i64 v0, .int .i64 v1, .int .i64 v2, .int .i64 s, .int .i64 p]) := (((Ft.out.set 1 (.int .i64 v0)).set 2 (.int .i64 v1)).set 3 (.int .i64 v2))
  have FX : Hid (Ext w (((w2.setCell ⟨w.heap.size, 1, none⟩ (.int .i64 v0)).setCell ⟨w.heap.size, 2, none⟩ (.int .i64 v1)).setCell ⟨w.heap.size, 3, none⟩ (.int .i64 v2))) := (((FX.out.set (p := ⟨w.heap.size, 1, none⟩) Lt.out (.int .i64 v0)).set (p := ⟨w.heap.size, 2, none⟩) Lt.out (.int .i64 v1)).set (p := ⟨w.heap.size, 3, none⟩) Lt.out (.int .i64 v2))
  generalize (((w2.setCell ⟨w.heap.size, 1, none⟩ (.int .i64 v0)).setCell ⟨w.heap.size, 2, none⟩ (.int .i64 v1)).setCell ⟨w.heap.size, 3, none⟩ (.int .i64 v2)) = wx2 at *
  have hs1 := hs.1
  have hp1 := hp.1
  clear hs hp hn
  by_cases b1 : 9806650 < j
  · have d1 : decide (9806650 < j) = true := by simpa using b1
    by_cases b2 : s = 0
    · subst b2
      have er : phs 0 p j (n + 1) = 1 := by unfold phs; rw [if_pos b1, if_pos rfl]
      have e0 := E0.out
      have e1 := E1.out
      have e2 := E2.out
      rw [er] at e0 e1 e2
      have f0 : (0 : Int) = r0 := e0
      have f1 : (n + 1 : Int) = r1 := e1
      have f2 : (p : Int) = r2 := e2
      clear er e0 e1 e2 E0 E1 E2
      subst f0 f1 f2
      clear b1 es ep hs1 hp1
      have qt0 : wx2.cell? ⟨w.heap.size, 0, none⟩ = some (.bool true) := Ft.out.c 0 rfl
      have qt1 : wx2.cell? ⟨w.heap.size, 1, none⟩ = some (.int .i64 v0) := Ft.out.c 1 rfl
      have qt2 : wx2.cell? ⟨w.heap.size, 2, none⟩ = some (.int .i64 v1) := Ft.out.c 2 rfl
      have qt3 : wx2.cell? ⟨w.heap.size, 3, none⟩ = some (.int .i64 v2) := Ft.out.c 3 rfl
      have qt4 : wx2.cell? ⟨w.heap.size, 4, none⟩ = some (.int .i64 0) := Ft.out.c 4 rfl
      have qt5 : wx2.cell? ⟨w.heap.size, 5, none⟩ = some (.int .i64 p) := Ft.out.c 5 rfl
      have y4 : wx2.frozen? ⟨w.heap.size, 4, none⟩ = false := Ft.out.f 4 rfl
      have y5 : wx2.frozen? ⟨w.heap.size, 5, none⟩ = false := Ft.out.f 5 rfl
      have o0 : wx2.cell? ⟨(w.heap.size + 2), 0, none⟩ = some (.bool false) := Fu.out.c 0 rfl
      have z0 : wx2.frozen? ⟨(w.heap.size + 2), 0, none⟩ = false := Fu.out.f 0 rfl
      have o1 : wx2.cell? ⟨(w.heap.size + 2), 1, none⟩ = some (.int .i64 0) := Fu.out.c 1 rfl
      have z1 : wx2.frozen? ⟨(w.heap.size + 2), 1, none⟩ = false := Fu.out.f 1 rfl
      have o2 : wx2.cell? ⟨(w.heap.size + 2), 2, none⟩ = some (.int .i64 0) := Fu.out.c 2 rfl
      have z2 : wx2.frozen? ⟨(w.heap.size + 2), 2, none⟩ = false := Fu.out.f 2 rfl
      have o3 : wx2.cell? ⟨(w.heap.size + 2), 3, none⟩ = some (.int .i64 0) := Fu.out.c 3 rfl
      have z3 : wx2.frozen? ⟨(w.heap.size + 2), 3, none⟩ = false := Fu.out.f 3 rfl
      have o4 : wx2.cell? ⟨(w.heap.size + 2), 4, none⟩ = some (.int .i64 0) := Fu.out.c 4 rfl
      have z4 : wx2.frozen? ⟨(w.heap.size + 2), 4, none⟩ = false := Fu.out.f 4 rfl
      have o5 : wx2.cell? ⟨(w.heap.size + 2), 5, none⟩ = some (.int .i64 0) := Fu.out.c 5 rfl
      have z5 : wx2.frozen? ⟨(w.heap.size + 2), 5, none⟩ = false := Fu.out.f 5 rfl
      go_wp2_with fail
      refine bodyPost_ret (v := .tuple #[.agg #[.bool true, .int .i64 v0, .int .i64 v1, .int .i64 v2, .int .i64 (n + 1), .int .i64 p], .int .i64 0, .int .i64 0]) (by simp [results, Try.results14, go_sem, *]) rfl ⟨rfl, ?_⟩
      repeat (refine Ext.set ?_ (by first | exact Nat.le_refl _ | exact Lu.out) _)
      exact FX.out
    · have er : phs s p j (n + 1) = 2 := by unfold phs; rw [if_pos b1, if_neg b2]
      have e0 := E0.out
      have e1 := E1.out
      have e2 := E2.out
      rw [er] at e0 e1 e2
      have f0 : (0 : Int) = r0 := e0
      have f1 : (s : Int) = r1 := e1
      have f2 : (p : Int) = r2 := e2
      clear er e0 e1 e2 E0 E1 E2
      subst f0 f1 f2
      have d2 : (s == 0) = false := by simpa using b2
      clear b1 b2 es ep hs1 hp1
      have qt0 : wx2.cell? ⟨w.heap.size, 0, none⟩ = some (.bool true) := Ft.out.c 0 rfl
      have qt1 : wx2.cell? ⟨w.heap.size, 1, none⟩ = some (.int .i64 v0) := Ft.out.c 1 rfl
      have qt2 : wx2.cell? ⟨w.heap.size, 2, none⟩ = some (.int .i64 v1) := Ft.out.c 2 rfl
      have qt3 : wx2.cell? ⟨w.heap.size, 3, none⟩ = some (.int .i64 v2) := Ft.out.c 3 rfl
      have qt4 : wx2.cell? ⟨w.heap.size, 4, none⟩ = some (.int .i64 s) := Ft.out.c 4 rfl
      have qt5 : wx2.cell? ⟨w.heap.size, 5, none⟩ = some (.int .i64 p) := Ft.out.c 5 rfl
      have y4 : wx2.frozen? ⟨w.heap.size, 4, none⟩ = false := Ft.out.f 4 rfl
      have y5 : wx2.frozen? ⟨w.heap.size, 5, none⟩ = false := Ft.out.f 5 rfl
      have o0 : wx2.cell? ⟨(w.heap.size + 2), 0, none⟩ = some (.bool false) := Fu.out.c 0 rfl
      have z0 : wx2.frozen? ⟨(w.heap.size + 2), 0, none⟩ = false := Fu.out.f 0 rfl
      have o1 : wx2.cell? ⟨(w.heap.size + 2), 1, none⟩ = some (.int .i64 0) := Fu.out.c 1 rfl
      have z1 : wx2.frozen? ⟨(w.heap.size + 2), 1, none⟩ = false := Fu.out.f 1 rfl
      have o2 : wx2.cell? ⟨(w.heap.size + 2), 2, none⟩ = some (.int .i64 0) := Fu.out.c 2 rfl
      have z2 : wx2.frozen? ⟨(w.heap.size + 2), 2, none⟩ = false := Fu.out.f 2 rfl
      have o3 : wx2.cell? ⟨(w.heap.size + 2), 3, none⟩ = some (.int .i64 0) := Fu.out.c 3 rfl
      have z3 : wx2.frozen? ⟨(w.heap.size + 2), 3, none⟩ = false := Fu.out.f 3 rfl
      have o4 : wx2.cell? ⟨(w.heap.size + 2), 4, none⟩ = some (.int .i64 0) := Fu.out.c 4 rfl
      have z4 : wx2.frozen? ⟨(w.heap.size + 2), 4, none⟩ = false := Fu.out.f 4 rfl
      have o5 : wx2.cell? ⟨(w.heap.size + 2), 5, none⟩ = some (.int .i64 0) := Fu.out.c 5 rfl
      have z5 : wx2.frozen? ⟨(w.heap.size + 2), 5, none⟩ = false := Fu.out.f 5 rfl
      go_wp2_with fail
      refine bodyPost_ret (v := .tuple #[.agg #[.bool true, .int .i64 v0, .int .i64 v1, .int .i64 v2, .int .i64 s, .int .i64 p], .int .i64 0, .int .i64 0]) (by simp [results, Try.results14, go_sem, *]) rfl ⟨rfl, ?_⟩
      repeat (refine Ext.set ?_ (by first | exact Nat.le_refl _ | exact Lu.out) _)
      exact FX.out
  · have d1 : decide (9806650 < j) = false := by simpa using b1
    by_cases b2 : s = 0
    · subst b2
      have er : phs 0 p j (n + 1) = 0 := by unfold phs; rw [if_neg b1, if_pos rfl]
      have e0 := E0.out
      have e1 := E1.out
      have e2 := E2.out
      rw [er] at e0 e1 e2
      have f0 : (0 : Int) = r0 := e0
      have f1 : (0 : Int) = r1 := e1
      have f2 : (p : Int) = r2 := e2
      clear er e0 e1 e2 E0 E1 E2
      subst f0 f1 f2
      clear b1 es ep hs1 hp1
      have qt0 : wx2.cell? ⟨w.heap.size, 0, none⟩ = some (.bool true) := Ft.out.c 0 rfl
      have qt1 : wx2.cell? ⟨w.heap.size, 1, none⟩ = some (.int .i64 v0) := Ft.out.c 1 rfl
      have qt2 : wx2.cell? ⟨w.heap.size, 2, none⟩ = some (.int .i64 v1) := Ft.out.c 2 rfl
      have qt3 : wx2.cell? ⟨w.heap.size, 3, none⟩ = some (.int .i64 v2) := Ft.out.c 3 rfl
      have qt4 : wx2.cell? ⟨w.heap.size, 4, none⟩ = some (.int .i64 0) := Ft.out.c 4 rfl
      have qt5 : wx2.cell? ⟨w.heap.size, 5, none⟩ = some (.int .i64 p) := Ft.out.c 5 rfl
      have y4 : wx2.frozen? ⟨w.heap.size, 4, none⟩ = false := Ft.out.f 4 rfl
      have y5 : wx2.frozen? ⟨w.heap.size, 5, none⟩ = false := Ft.out.f 5 rfl
      have o0 : wx2.cell? ⟨(w.heap.size + 2), 0, none⟩ = some (.bool false) := Fu.out.c 0 rfl
      have z0 : wx2.frozen? ⟨(w.heap.size + 2), 0, none⟩ = false := Fu.out.f 0 rfl
      have o1 : wx2.cell? ⟨(w.heap.size + 2), 1, none⟩ = some (.int .i64 0) := Fu.out.c 1 rfl
      have z1 : wx2.frozen? ⟨(w.heap.size + 2), 1, none⟩ = false := Fu.out.f 1 rfl
      have o2 : wx2.cell? ⟨(w.heap.size + 2), 2, none⟩ = some (.int .i64 0) := Fu.out.c 2 rfl
      have z2 : wx2.frozen? ⟨(w.heap.size + 2), 2, none⟩ = false := Fu.out.f 2 rfl
      have o3 : wx2.cell? ⟨(w.heap.size + 2), 3, none⟩ = some (.int .i64 0) := Fu.out.c 3 rfl
      have z3 : wx2.frozen? ⟨(w.heap.size + 2), 3, none⟩ = false := Fu.out.f 3 rfl
      have o4 : wx2.cell? ⟨(w.heap.size + 2), 4, none⟩ = some (.int .i64 0) := Fu.out.c 4 rfl
      have z4 : wx2.frozen? ⟨(w.heap.size + 2), 4, none⟩ = false := Fu.out.f 4 rfl
      have o5 : wx2.cell? ⟨(w.heap.size + 2), 5, none⟩ = some (.int .i64 0) := Fu.out.c 5 rfl
      have z5 : wx2.frozen? ⟨(w.heap.size + 2), 5, none⟩ = false := Fu.out.f 5 rfl
      go_wp2_with fail
      refine bodyPost_ret (v := .tuple #[.agg #[.bool true, .int .i64 v0, .int .i64 v1, .int .i64 v2, .int .i64 0, .int .i64 p], .int .i64 0, .int .i64 0]) (by simp [results, Try.results14, go_sem, *]) rfl ⟨rfl, ?_⟩
      repeat (refine Ext.set ?_ (by first | exact Nat.le_refl _ | exact Lu.out) _)
      exact FX.out
    · have d2 : decide (0 < s) = true := by simp; omega
      have es := es.out
      by_cases b3 : 60 < n + 1 - s
      · have er : phs s p j (n + 1) = 5 := by unfold phs; rw [if_neg b1, if_neg b2, if_pos b3]
        have e0 := E0.out
        have e1 := E1.out
        have e2 := E2.out
        rw [er] at e0 e1 e2
        have f0 : (0 : Int) = r0 := e0
        have f1 : (0 : Int) = r1 := e1
        have f2 : (p : Int) = r2 := e2
        clear er e0 e1 e2 E0 E1 E2
        subst f0 f1 f2
        have d3 : decide (n + 1 - s ≤ 60) = false := by simp; omega
        clear b1 b2 b3 ep hs1 hp1
        have qt0 : wx2.cell? ⟨w.heap.size, 0, none⟩ = some (.bool true) := Ft.out.c 0 rfl
        have qt1 : wx2.cell? ⟨w.heap.size, 1, none⟩ = some (.int .i64 v0) := Ft.out.c 1 rfl
        have qt2 : wx2.cell? ⟨w.heap.size, 2, none⟩ = some (.int .i64 v1) := Ft.out.c 2 rfl
        have qt3 : wx2.cell? ⟨w.heap.size, 3, none⟩ = some (.int .i64 v2) := Ft.out.c 3 rfl
        have qt4 : wx2.cell? ⟨w.heap.size, 4, none⟩ = some (.int .i64 s) := Ft.out.c 4 rfl
        have qt5 : wx2.cell? ⟨w.heap.size, 5, none⟩ = some (.int .i64 p) := Ft.out.c 5 rfl
        have y4 : wx2.frozen? ⟨w.heap.size, 4, none⟩ = false := Ft.out.f 4 rfl
        have y5 : wx2.frozen? ⟨w.heap.size, 5, none⟩ = false := Ft.out.f 5 rfl
        have o0 : wx2.cell? ⟨(w.heap.size + 2), 0, none⟩ = some (.bool false) := Fu.out.c 0 rfl
        have z0 : wx2.frozen? ⟨(w.heap.size + 2), 0, none⟩ = false := Fu.out.f 0 rfl
        have o1 : wx2.cell? ⟨(w.heap.size + 2), 1, none⟩ = some (.int .i64 0) := Fu.out.c 1 rfl
        have z1 : wx2.frozen? ⟨(w.heap.size + 2), 1, none⟩ = false := Fu.out.f 1 rfl
        have o2 : wx2.cell? ⟨(w.heap.size + 2), 2, none⟩ = some (.int .i64 0) := Fu.out.c 2 rfl
        have z2 : wx2.frozen? ⟨(w.heap.size + 2), 2, none⟩ = false := Fu.out.f 2 rfl
        have o3 : wx2.cell? ⟨(w.heap.size + 2), 3, none⟩ = some (.int .i64 0) := Fu.out.c 3 rfl
        have z3 : wx2.frozen? ⟨(w.heap.size + 2), 3, none⟩ = false := Fu.out.f 3 rfl
        have o4 : wx2.cell? ⟨(w.heap.size + 2), 4, none⟩ = some (.int .i64 0) := Fu.out.c 4 rfl
        have z4 : wx2.frozen? ⟨(w.heap.size + 2), 4, none⟩ = false := Fu.out.f 4 rfl
        have o5 : wx2.cell? ⟨(w.heap.size + 2), 5, none⟩ = some (.int .i64 0) := Fu.out.c 5 rfl
        have z5 : wx2.frozen? ⟨(w.heap.size + 2), 5, none⟩ = false := Fu.out.f 5 rfl
        go_wp2_with fail
        refine bodyPost_ret (v := .tuple #[.agg #[.bool true, .int .i64 v0, .int .i64 v1, .int .i64 v2, .int .i64 0, .int .i64 p], .int .i64 0, .int .i64 0]) (by simp [results, Try.results14, go_sem, *]) rfl ⟨rfl, ?_⟩
        repeat (refine Ext.set ?_ (by first | exact Nat.le_refl _ | exact Lu.out) _)
        exact FX.out
      · have d3 : decide (n + 1 - s ≤ 60) = true := by simp; omega
        by_cases b4 : p = 0
        · subst b4
          have er : phs s 0 j (n + 1) = 3 := by unfold phs; rw [if_neg b1, if_neg b2, if_neg b3, if_neg (by omega)]
          have e0 := E0.out
          have e1 := E1.out
          have e2 := E2.out
          rw [er] at e0 e1 e2
          have f0 : (1 : Int) = r0 := e0
          have f1 : (0 : Int) = r1 := e1
          have f2 : (n + 1 : Int) = r2 := e2
          clear er e0 e1 e2 E0 E1 E2
          subst f0 f1 f2
          clear b1 b2 b3 ep hs1 hp1
          have qt0 : wx2.cell? ⟨w.heap.size, 0, none⟩ = some (.bool true) := Ft.out.c 0 rfl
          have qt1 : wx2.cell? ⟨w.heap.size, 1, none⟩ = some (.int .i64 v0) := Ft.out.c 1 rfl
          have qt2 : wx2.cell? ⟨w.heap.size, 2, none⟩ = some (.int .i64 v1) := Ft.out.c 2 rfl
          have qt3 : wx2.cell? ⟨w.heap.size, 3, none⟩ = some (.int .i64 v2) := Ft.out.c 3 rfl
          have qt4 : wx2.cell? ⟨w.heap.size, 4, none⟩ = some (.int .i64 s) := Ft.out.c 4 rfl
          have qt5 : wx2.cell? ⟨w.heap.size, 5, none⟩ = some (.int .i64 0) := Ft.out.c 5 rfl
          have y4 : wx2.frozen? ⟨w.heap.size, 4, none⟩ = false := Ft.out.f 4 rfl
          have y5 : wx2.frozen? ⟨w.heap.size, 5, none⟩ = false := Ft.out.f 5 rfl
          have o0 : wx2.cell? ⟨(w.heap.size + 2), 0, none⟩ = some (.bool false) := Fu.out.c 0 rfl
          have z0 : wx2.frozen? ⟨(w.heap.size + 2), 0, none⟩ = false := Fu.out.f 0 rfl
          have o1 : wx2.cell? ⟨(w.heap.size + 2), 1, none⟩ = some (.int .i64 0) := Fu.out.c 1 rfl
          have z1 : wx2.frozen? ⟨(w.heap.size + 2), 1, none⟩ = false := Fu.out.f 1 rfl
          have o2 : wx2.cell? ⟨(w.heap.size + 2), 2, none⟩ = some (.int .i64 0) := Fu.out.c 2 rfl
          have z2 : wx2.frozen? ⟨(w.heap.size + 2), 2, none⟩ = false := Fu.out.f 2 rfl
          have o3 : wx2.cell? ⟨(w.heap.size + 2), 3, none⟩ = some (.int .i64 0) := Fu.out.c 3 rfl
          have z3 : wx2.frozen? ⟨(w.heap.size + 2), 3, none⟩ = false := Fu.out.f 3 rfl
          have o4 : wx2.cell? ⟨(w.heap.size + 2), 4, none⟩ = some (.int .i64 0) := Fu.out.c 4 rfl
          have z4 : wx2.frozen? ⟨(w.heap.size + 2), 4, none⟩ = false := Fu.out.f 4 rfl
          have o5 : wx2.cell? ⟨(w.heap.size + 2), 5, none⟩ = some (.int .i64 0) := Fu.out.c 5 rfl
          have z5 : wx2.frozen? ⟨(w.heap.size + 2), 5, none⟩ = false := Fu.out.f 5 rfl
          go_wp2_with fail
          refine bodyPost_ret (v := .tuple #[.agg #[.bool true, .int .i64 v0, .int .i64 v1, .int .i64 v2, .int .i64 0, .int .i64 (n + 1)], .int .i64 1, .int .i64 0]) (by simp [results, Try.results14, go_sem, *]) rfl ⟨rfl, ?_⟩
          repeat (refine Ext.set ?_ (by first | exact Nat.le_refl _ | exact Lu.out) _)
          exact FX.out
        · have d4 : decide (0 < p) = true := by simp; omega
          have ep := ep.out
          by_cases b5 : n + 1 - p ≤ 300
          · have er : phs s p j (n + 1) = 4 := by unfold phs; rw [if_neg b1, if_neg b2, if_neg b3, if_pos ⟨b4, b5⟩]
            have e0 := E0.out
            have e1 := E1.out
            have e2 := E2.out
            rw [er] at e0 e1 e2
            have f0 : (2 : Int) = r0 := e0
            have f1 : (0 : Int) = r1 := e1
            have f2 : (0 : Int) = r2 := e2
            clear er e0 e1 e2 E0 E1 E2
            subst f0 f1 f2
            have d5 : decide (n + 1 - p ≤ 300) = true := by simpa using b5
            clear b1 b2 b3 b4 b5 hs1 hp1
            have qt0 : wx2.cell? ⟨w.heap.size, 0, none⟩ = some (.bool true) := Ft.out.c 0 rfl
            have qt1 : wx2.cell? ⟨w.heap.size, 1, none⟩ = some (.int .i64 v0) := Ft.out.c 1 rfl
            have qt2 : wx2.cell? ⟨w.heap.size, 2, none⟩ = some (.int .i64 v1) := Ft.out.c 2 rfl
            have qt3 : wx2.cell? ⟨w.heap.size, 3, none⟩ = some (.int .i64 v2) := Ft.out.c 3 rfl
            have qt4 : wx2.cell? ⟨w.heap.size, 4, none⟩ = some (.int .i64 s) := Ft.out.c 4 rfl
            have qt5 : wx2.cell? ⟨w.heap.size, 5, none⟩ = some (.int .i64 p) := Ft.out.c 5 rfl
            have y4 : wx2.frozen? ⟨w.heap.size, 4, none⟩ = false := Ft.out.f 4 rfl
            have y5 : wx2.frozen? ⟨w.heap.size, 5, none⟩ = false := Ft.out.f 5 rfl
            have o0 : wx2.cell? ⟨(w.heap.size + 2), 0, none⟩ = some (.bool false) := Fu.out.c 0 rfl
            have z0 : wx2.frozen? ⟨(w.heap.size + 2), 0, none⟩ = false := Fu.out.f 0 rfl
            have o1 : wx2.cell? ⟨(w.heap.size + 2), 1, none⟩ = some (.int .i64 0) := Fu.out.c 1 rfl
            have z1 : wx2.frozen? ⟨(w.heap.size + 2), 1, none⟩ = false := Fu.out.f 1 rfl
            have o2 : wx2.cell? ⟨(w.heap.size + 2), 2, none⟩ = some (.int .i64 0) := Fu.out.c 2 rfl
            have z2 : wx2.frozen? ⟨(w.heap.size + 2), 2, none⟩ = false := Fu.out.f 2 rfl
            have o3 : wx2.cell? ⟨(w.heap.size + 2), 3, none⟩ = some (.int .i64 0) := Fu.out.c 3 rfl
            have z3 : wx2.frozen? ⟨(w.heap.size + 2), 3, none⟩ = false := Fu.out.f 3 rfl
            have o4 : wx2.cell? ⟨(w.heap.size + 2), 4, none⟩ = some (.int .i64 0) := Fu.out.c 4 rfl
            have z4 : wx2.frozen? ⟨(w.heap.size + 2), 4, none⟩ = false := Fu.out.f 4 rfl
            have o5 : wx2.cell? ⟨(w.heap.size + 2), 5, none⟩ = some (.int .i64 0) := Fu.out.c 5 rfl
            have z5 : wx2.frozen? ⟨(w.heap.size + 2), 5, none⟩ = false := Fu.out.f 5 rfl
            go_wp2_with fail
            refine bodyPost_ret (v := .tuple #[.agg #[.bool true, .int .i64 v0, .int .i64 v1, .int .i64 v2, .int .i64 0, .int .i64 0], .int .i64 2, .int .i64 0]) (by simp [results, Try.results14, go_sem, *]) rfl ⟨rfl, ?_⟩
            repeat (refine Ext.set ?_ (by first | exact Nat.le_refl _ | exact Lu.out) _)
            exact FX.out
          · have er : phs s p j (n + 1) = 3 := by unfold phs; rw [if_neg b1, if_neg b2, if_neg b3, if_neg (by omega)]
            have e0 := E0.out
            have e1 := E1.out
            have e2 := E2.out
            rw [er] at e0 e1 e2
            have f0 : (1 : Int) = r0 := e0
            have f1 : (0 : Int) = r1 := e1
            have f2 : (n + 1 : Int) = r2 := e2
            clear er e0 e1 e2 E0 E1 E2
            subst f0 f1 f2
            have d5 : decide (n + 1 - p ≤ 300) = false := by simpa using b5
            clear b1 b2 b3 b4 b5 hs1 hp1
            have qt0 : wx2.cell? ⟨w.heap.size, 0, none⟩ = some (.bool true) := Ft.out.c 0 rfl
            have qt1 : wx2.cell? ⟨w.heap.size, 1, none⟩ = some (.int .i64 v0) := Ft.out.c 1 rfl
            have qt2 : wx2.cell? ⟨w.heap.size, 2, none⟩ = some (.int .i64 v1) := Ft.out.c 2 rfl
            have qt3 : wx2.cell? ⟨w.heap.size, 3, none⟩ = some (.int .i64 v2) := Ft.out.c 3 rfl
            have qt4 : wx2.cell? ⟨w.heap.size, 4, none⟩ = some (.int .i64 s) := Ft.out.c 4 rfl
            have qt5 : wx2.cell? ⟨w.heap.size, 5, none⟩ = some (.int .i64 p) := Ft.out.c 5 rfl
            have y4 : wx2.frozen? ⟨w.heap.size, 4, none⟩ = false := Ft.out.f 4 rfl
            have y5 : wx2.frozen? ⟨w.heap.size, 5, none⟩ = false := Ft.out.f 5 rfl
            have o0 : wx2.cell? ⟨(w.heap.size + 2), 0, none⟩ = some (.bool false) := Fu.out.c 0 rfl
            have z0 : wx2.frozen? ⟨(w.heap.size + 2), 0, none⟩ = false := Fu.out.f 0 rfl
            have o1 : wx2.cell? ⟨(w.heap.size + 2), 1, none⟩ = some (.int .i64 0) := Fu.out.c 1 rfl
            have z1 : wx2.frozen? ⟨(w.heap.size + 2), 1, none⟩ = false := Fu.out.f 1 rfl
            have o2 : wx2.cell? ⟨(w.heap.size + 2), 2, none⟩ = some (.int .i64 0) := Fu.out.c 2 rfl
            have z2 : wx2.frozen? ⟨(w.heap.size + 2), 2, none⟩ = false := Fu.out.f 2 rfl
            have o3 : wx2.cell? ⟨(w.heap.size + 2), 3, none⟩ = some (.int .i64 0) := Fu.out.c 3 rfl
            have z3 : wx2.frozen? ⟨(w.heap.size + 2), 3, none⟩ = false := Fu.out.f 3 rfl
            have o4 : wx2.cell? ⟨(w.heap.size + 2), 4, none⟩ = some (.int .i64 0) := Fu.out.c 4 rfl
            have z4 : wx2.frozen? ⟨(w.heap.size + 2), 4, none⟩ = false := Fu.out.f 4 rfl
            have o5 : wx2.cell? ⟨(w.heap.size + 2), 5, none⟩ = some (.int .i64 0) := Fu.out.c 5 rfl
            have z5 : wx2.frozen? ⟨(w.heap.size + 2), 5, none⟩ = false := Fu.out.f 5 rfl
            go_wp2_with fail
            refine bodyPost_ret (v := .tuple #[.agg #[.bool true, .int .i64 v0, .int .i64 v1, .int .i64 v2, .int .i64 0, .int .i64 (n + 1)], .int .i64 1, .int .i64 0]) (by simp [results, Try.results14, go_sem, *]) rfl ⟨rfl, ?_⟩
            repeat (refine Ext.set ?_ (by first | exact Nat.le_refl _ | exact Lu.out) _)
            exact FX.out
end Go.Proofs.Ytojcndgoihkfnaa
