/- tap: its leaves. -/
import Derived.Test.YtojcndgoihkfnaaV2b
import Derived.Test.YtojcndgoihkfnaaHv
import Derived.Deep.QuietTactic
import Derived.BigQuiet
import Derived.BigRegion
import Derived.Deep.RegionWith
import Derived.Deep.RegionHeld
import Derived.Deep.RegionHeld3
import Derived.Deep.MidRow
import Derived.Deep.Cut
import Derived.Deep.DeepCutAuto
namespace Go.Proofs.Ytojcndgoihkfnaa
open Go.RowKit
/-- a time -/
def okTm (x : Int) : Bool := decide (0 ≤ x) && decide (x ≤ 1099511627776)
theorem okTm_iff {x : Int} : okTm x = true ↔ 0 ≤ x ∧ x ≤ 1099511627776 := by unfold okTm; simp
/-- a mark -/
def okMk (x : Int) : Bool := decide (0 ≤ x) && decide (x ≤ 1099511627777)
theorem okMk_iff {x : Int} : okMk x = true ↔ 0 ≤ x ∧ x ≤ 1099511627777 := by unfold okMk; simp
set_option maxHeartbeats 400000 in
theorem istime_any (x : Int) (w : World) : Calls Try.prog 18 #[.int .i64 x] w fun e w' => e = .returned (.bool (okTm x)) ∧ w' = w := by
  by_cases h1 : 0 ≤ x
  · by_cases h2 : x ≤ 1099511627776
    · have e : Hid (okTm x = true) := okTm_iff.2 ⟨h1, h2⟩
      go_enter Try.func18, Try.ntmps18
      go_wp2
      go_ret
      rw [e.out]; exact ⟨rfl, rfl⟩
    · have e : Hid (okTm x = false) := Bool.eq_false_iff.2 (fun h => h2 (okTm_iff.1 h).2)
      go_enter Try.func18, Try.ntmps18
      go_wp2
      go_ret
      rw [e.out]; exact ⟨rfl, rfl⟩
  · have e : Hid (okTm x = false) := Bool.eq_false_iff.2 (fun h => h1 (okTm_iff.1 h).1)
    go_enter Try.func18, Try.ntmps18
    go_wp2
    go_ret
    rw [e.out]; exact ⟨rfl, rfl⟩
set_option maxHeartbeats 400000 in
theorem ismark_any (x : Int) (w : World) : Calls Try.prog 26 #[.int .i64 x] w fun e w' => e = .returned (.bool (okMk x)) ∧ w' = w := by
  by_cases h1 : 0 ≤ x
  · by_cases h2 : x ≤ 1099511627777
    · have e : Hid (okMk x = true) := okMk_iff.2 ⟨h1, h2⟩
      go_enter Try.func26, Try.ntmps26
      go_wp2
      go_ret
      rw [e.out]; exact ⟨rfl, rfl⟩
    · have e : Hid (okMk x = false) := Bool.eq_false_iff.2 (fun h => h2 (okMk_iff.1 h).2)
      go_enter Try.func26, Try.ntmps26
      go_wp2
      go_ret
      rw [e.out]; exact ⟨rfl, rfl⟩
  · have e : Hid (okMk x = false) := Bool.eq_false_iff.2 (fun h => h1 (okMk_iff.1 h).1)
    go_enter Try.func26, Try.ntmps26
    go_wp2
    go_ret
    rw [e.out]; exact ⟨rfl, rfl⟩
/-- a state -/
def okTp (on : Bool) (x y z s p : Int) : Bool := if on then ok3 x y z && okMk s && okMk p else decide (x = 0 ∧ y = 0 ∧ z = 0 ∧ s = 0 ∧ p = 0)
set_option maxRecDepth 20000 in
set_option maxHeartbeats 4000000 in
theorem istap_any (on : Bool) (x y z s p : Int) (w : World) : Calls Try.prog 16 #[.agg #[.bool on, .int .i64 x, .int .i64 y, .int .i64 z, .int .i64 s, .int .i64 p]] w fun e w' => e = .returned (.bool (okTp on x y z s p)) ∧ Ext w w' := by
  have HC : Hid (∀ w, Calls Try.prog 17 #[.agg #[.int .i64 x, .int .i64 y, .int .i64 z]] w fun e w' => e = .returned (.int .i64 (chk3 x y z)) ∧ Ext w w') := vCheck_any x y z
  have HS : Hid (∀ w, Calls Try.prog 26 #[.int .i64 s] w fun e w' => e = .returned (.bool (okMk s)) ∧ w' = w) := ismark_any s
  have HP : Hid (∀ w, Calls Try.prog 26 #[.int .i64 p] w fun e w' => e = .returned (.bool (okMk p)) ∧ w' = w) := ismark_any p
  have B : Hid (HV (w.alloc (.cells #[.bool on, .int .i64 x, .int .i64 y, .int .i64 z, .int .i64 s, .int .i64 p] 26)) w.heap.size [.bool on, .int .i64 x, .int .i64 y, .int .i64 z, .int .i64 s, .int .i64 p]) := hv_at rfl
  have X0 : Hid (Ext w (w.alloc (.cells #[.bool on, .int .i64 x, .int .i64 y, .int .i64 z, .int .i64 s, .int .i64 p] 26))) := (Ext.refl w).alloc _
  cases on
  · have er : okTp false x y z s p = decide (x = 0 ∧ y = 0 ∧ z = 0 ∧ s = 0 ∧ p = 0) := rfl
    rw [er]
    clear er
    go_enter Try.func16, Try.ntmps16
    go_upto_region 1 with fail
    generalize (w.alloc (.cells #[.bool false, .int .i64 x, .int .i64 y, .int .i64 z, .int .i64 s, .int .i64 p] 26)) = wa at *
    have k0 : wa.cell? ⟨w.heap.size, 0, none⟩ = some (.bool false) := B.out.c 0 rfl
    have k1 : wa.cell? ⟨w.heap.size, 1, none⟩ = some (.int .i64 x) := B.out.c 1 rfl
    have k2 : wa.cell? ⟨w.heap.size, 2, none⟩ = some (.int .i64 y) := B.out.c 2 rfl
    have k3 : wa.cell? ⟨w.heap.size, 3, none⟩ = some (.int .i64 z) := B.out.c 3 rfl
    have k4 : wa.cell? ⟨w.heap.size, 4, none⟩ = some (.int .i64 s) := B.out.c 4 rfl
    have k5 : wa.cell? ⟨w.heap.size, 5, none⟩ = some (.int .i64 p) := B.out.c 5 rfl
    go_wp2_with fail
    all_goals
      go_ret
      exact ⟨by simp [*], X0.out⟩
  · have er : okTp true x y z s p = (ok3 x y z && okMk s && okMk p) := rfl
    rw [er]
    clear er
    have hc3 : chk3 x y z = if ok3 x y z then 0 else 1 := rfl
    rw [hc3] at HC
    clear hc3
    cases h1 : ok3 x y z
    · rw [h1] at HC
      clear h1
      go_enter Try.func16, Try.ntmps16
      go_upto_region 1 with fail
      generalize (w.alloc (.cells #[.bool true, .int .i64 x, .int .i64 y, .int .i64 z, .int .i64 s, .int .i64 p] 26)) = wa at *
      have k0 : wa.cell? ⟨w.heap.size, 0, none⟩ = some (.bool true) := B.out.c 0 rfl
      have k1 : wa.cell? ⟨w.heap.size, 1, none⟩ = some (.int .i64 x) := B.out.c 1 rfl
      have k2 : wa.cell? ⟨w.heap.size, 2, none⟩ = some (.int .i64 y) := B.out.c 2 rfl
      have k3 : wa.cell? ⟨w.heap.size, 3, none⟩ = some (.int .i64 z) := B.out.c 3 rfl
      go_wp2_with (go_at_call 17; refine (HC.out _).mono ?_; rintro e m1 ⟨rfl, z1⟩)
      go_ret
      exact ⟨rfl, X0.out.trans z1⟩
    · rw [h1] at HC
      clear h1
      cases h2 : okMk s
      · rw [h2] at HS
        clear h2
        go_enter Try.func16, Try.ntmps16
        go_upto_region 1 with fail
        generalize (w.alloc (.cells #[.bool true, .int .i64 x, .int .i64 y, .int .i64 z, .int .i64 s, .int .i64 p] 26)) = wa at *
        have k0 : wa.cell? ⟨w.heap.size, 0, none⟩ = some (.bool true) := B.out.c 0 rfl
        have k1 : wa.cell? ⟨w.heap.size, 1, none⟩ = some (.int .i64 x) := B.out.c 1 rfl
        have k2 : wa.cell? ⟨w.heap.size, 2, none⟩ = some (.int .i64 y) := B.out.c 2 rfl
        have k3 : wa.cell? ⟨w.heap.size, 3, none⟩ = some (.int .i64 z) := B.out.c 3 rfl
        go_wp2_with (first | (go_at_call 17; refine (HC.out _).mono ?_; rintro e m1 ⟨rfl, z1⟩; have j4 : m1.cell? ⟨w.heap.size, 4, none⟩ = some (.int .i64 s) := (B.out.ext z1).c 4 rfl) | (go_at_call 26; refine (HS.out _).mono ?_; rintro e wx ⟨rfl, hwx⟩; have hwy := hwx.symm; clear hwx; subst hwy))
        go_ret
        exact ⟨by simp, X0.out.trans z1⟩
      · rw [h2] at HS
        clear h2
        generalize okMk p = pp at *
        go_enter Try.func16, Try.ntmps16
        go_upto_region 1 with fail
        generalize (w.alloc (.cells #[.bool true, .int .i64 x, .int .i64 y, .int .i64 z, .int .i64 s, .int .i64 p] 26)) = wa at *
        have k0 : wa.cell? ⟨w.heap.size, 0, none⟩ = some (.bool true) := B.out.c 0 rfl
        have k1 : wa.cell? ⟨w.heap.size, 1, none⟩ = some (.int .i64 x) := B.out.c 1 rfl
        have k2 : wa.cell? ⟨w.heap.size, 2, none⟩ = some (.int .i64 y) := B.out.c 2 rfl
        have k3 : wa.cell? ⟨w.heap.size, 3, none⟩ = some (.int .i64 z) := B.out.c 3 rfl
        go_wp2_with (first | (go_at_call 17; refine (HC.out _).mono ?_; rintro e m1 ⟨rfl, z1⟩; have j4 : m1.cell? ⟨w.heap.size, 4, none⟩ = some (.int .i64 s) := (B.out.ext z1).c 4 rfl; have j5 : m1.cell? ⟨w.heap.size, 5, none⟩ = some (.int .i64 p) := (B.out.ext z1).c 5 rfl) | (go_at_call_of 26 (Value.int IntKind.i64 s); refine (HS.out _).mono ?_; rintro e wx ⟨rfl, hwx⟩; have hwy := hwx.symm; clear hwx; subst hwy; clear HS) | (go_at_call_of 26 (Value.int IntKind.i64 p); refine (HP.out _).mono ?_; rintro e wx ⟨rfl, hwx⟩; have hwy := hwx.symm; clear hwx; subst hwy))
        go_ret
        exact ⟨by simp, X0.out.trans z1⟩
end Go.Proofs.Ytojcndgoihkfnaa
