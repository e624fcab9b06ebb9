/- tilt: its leaves. -/
import Derived.Test.YtbmocnigmpmfkaaMg3
import Derived.Deep.QuietTactic
import Derived.BigQuiet
import Derived.BigRegion
import Derived.Deep.RegionWith
import Derived.Deep.RegionHeld
import Derived.Deep.RegionHeld3
import Derived.Deep.MidRow
import Derived.Deep.Cut
import Derived.Deep.DeepCutAuto
namespace Go.Proofs.Ytbmocnigmpmfkaa
open Go.RowKit
/-- a time -/
def okTm (x : Int) : Bool := decide (0 ≤ x) && decide (x ≤ 1099511627776)
theorem okTm_iff {x : Int} : okTm x = true ↔ 0 ≤ x ∧ x ≤ 1099511627776 := by unfold okTm; simp
/-- a number of a direction -/
def okD (x : Int) : Bool := decide (-2147483648 ≤ x) && decide (x ≤ 2147483648)
theorem okD_iff {x : Int} : okD x = true ↔ -2147483648 ≤ x ∧ x ≤ 2147483648 := by unfold okD; simp
/-- a direction -/
def okD3 (x y z : Int) : Bool := okD x && (okD y && okD z)
theorem okD3_iff {x y z : Int} : okD3 x y z = true ↔ okD x = true ∧ okD y = true ∧ okD z = true := by unfold okD3; simp
set_option maxHeartbeats 400000 in
theorem istime_any (x : Int) (w : World) : Calls Try.prog 18 #[.int .i64 x] w fun e w' => e = .returned (.bool (okTm x)) ∧ w' = w := by
  by_cases h1 : 0 ≤ x
  · by_cases h2 : x ≤ 1099511627776
    · have e : Hid (okTm x = true) := okTm_iff.2 ⟨h1, h2⟩
      go_enter Try.func18, Try.ntmps18
      go_wp2
      go_ret
      rw [e.out]; exact ⟨rfl, rfl⟩
    · have e : Hid (okTm x = false) := Bool.eq_false_iff.2 (fun h => h2 (okTm_iff.1 h).2)
      go_enter Try.func18, Try.ntmps18
      go_wp2
      go_ret
      rw [e.out]; exact ⟨rfl, rfl⟩
  · have e : Hid (okTm x = false) := Bool.eq_false_iff.2 (fun h => h1 (okTm_iff.1 h).1)
    go_enter Try.func18, Try.ntmps18
    go_wp2
    go_ret
    rw [e.out]; exact ⟨rfl, rfl⟩
set_option maxRecDepth 20000 in
set_option maxHeartbeats 8000000 in
theorem isdir_any (x y z : Int) (w : World) : Calls Try.prog 17 #[.agg #[.int .i64 x, .int .i64 y, .int .i64 z]] w fun e w' => e = .returned (.bool (okD3 x y z)) ∧ Ext w w' := by
  have B : Hid (HV (w.alloc (.cells #[.int .i64 x, .int .i64 y, .int .i64 z] 24)) w.heap.size [.int .i64 x, .int .i64 y, .int .i64 z]) := hv_at rfl
  have FX : Hid (Ext w (w.alloc (.cells #[.int .i64 x, .int .i64 y, .int .i64 z] 24))) := (Ext.refl w).alloc _
  go_enter Try.func17, Try.ntmps17
  go_upto_region 1 with fail
  generalize (w.alloc (.cells #[.int .i64 x, .int .i64 y, .int .i64 z] 24)) = wa at *
  have k0 : wa.cell? ⟨w.heap.size, 0, none⟩ = some (.int .i64 x) := B.out.c 0 rfl
  have k1 : wa.cell? ⟨w.heap.size, 1, none⟩ = some (.int .i64 y) := B.out.c 1 rfl
  have k2 : wa.cell? ⟨w.heap.size, 2, none⟩ = some (.int .i64 z) := B.out.c 2 rfl
  go_wp2_with fail
  have i0 : ∀ w : World, (Instr.index 50 (.agg #[.int .i64 x, .int .i64 y, .int .i64 z]) (.int .i64 0)).run Try.prog w = .ok (.int .i64 x) w := fun _ => by kernel_rfl
  have i1 : ∀ w : World, (Instr.index 50 (.agg #[.int .i64 x, .int .i64 y, .int .i64 z]) (.int .i64 1)).run Try.prog w = .ok (.int .i64 y) w := fun _ => by kernel_rfl
  have i2 : ∀ w : World, (Instr.index 50 (.agg #[.int .i64 x, .int .i64 y, .int .i64 z]) (.int .i64 2)).run Try.prog w = .ok (.int .i64 z) w := fun _ => by kernel_rfl
  go_loopw [4, 12] (fun _ i wr => ∃ k : Int, i = .int .i64 k ∧ Hid (k = 0 ∨ k = 1 ∧ okD x = true ∨ k = 2 ∧ okD x = true ∧ okD y = true ∨ k = 3 ∧ okD3 x y z = true) ∧ Hid (Ext w wr)) (fun _ i _ => 3 - (intOf i).toNat)
  case atStart => exact ⟨0, rfl, Or.inl rfl, FX⟩
  case round =>
    clear FX B k0 k1 k2
    obtain ⟨k, rfl, HK, FX⟩ := hrel
    rcases HK.out with rfl | ⟨rfl, h1⟩ | ⟨rfl, h1, h2⟩ | ⟨rfl, h1⟩
    · clear HK
      by_cases c1 : x < -2147483648
      · have e : okD3 x y z = false := by have q : okD x = false := (by unfold okD; simp; omega); unfold okD3; rw [q]; rfl
        have d1 : decide (x < -2147483648) = true := by simpa using c1
        go_wp2_with fail
        go_ret
        exact ⟨by first | rfl | (rw [e]; rfl), FX⟩
      · have d1 : decide (x < -2147483648) = false := by simpa using c1
        by_cases c2 : 2147483648 < x
        · have e : okD3 x y z = false := by have q : okD x = false := (by unfold okD; simp; omega); unfold okD3; rw [q]; rfl
          have d2 : decide (2147483648 < x) = true := by simpa using c2
          go_wp2_with fail
          go_ret
          exact ⟨by first | rfl | (rw [e]; rfl), FX⟩
        · have d2 : decide (2147483648 < x) = false := by simpa using c2
          have ov : okD x = true := okD_iff.2 ⟨by omega, by omega⟩
          have HN : Hid (okD x = true) := ov
          clear c1 c2 ov
          go_wp2_with fail
          go_roundw
          case rel => exact ⟨1, by go_num, Or.inr (Or.inl ⟨rfl, HN.out⟩), FX⟩
          case measure => simp [intOf]
    · clear HK
      by_cases c1 : y < -2147483648
      · have e : okD3 x y z = false := by have q : okD y = false := (by unfold okD; simp; omega); unfold okD3; rw [q, h1]; rfl
        have d1 : decide (y < -2147483648) = true := by simpa using c1
        go_wp2_with fail
        go_ret
        exact ⟨by first | rfl | (rw [e]; rfl), FX⟩
      · have d1 : decide (y < -2147483648) = false := by simpa using c1
        by_cases c2 : 2147483648 < y
        · have e : okD3 x y z = false := by have q : okD y = false := (by unfold okD; simp; omega); unfold okD3; rw [q, h1]; rfl
          have d2 : decide (2147483648 < y) = true := by simpa using c2
          go_wp2_with fail
          go_ret
          exact ⟨by first | rfl | (rw [e]; rfl), FX⟩
        · have d2 : decide (2147483648 < y) = false := by simpa using c2
          have ov : okD y = true := okD_iff.2 ⟨by omega, by omega⟩
          have HN : Hid (okD x = true ∧ okD y = true) := ⟨h1, ov⟩
          clear c1 c2 ov
          go_wp2_with fail
          go_roundw
          case rel => exact ⟨2, by go_num, Or.inr (Or.inr (Or.inl ⟨rfl, HN.out⟩)), FX⟩
          case measure => simp [intOf]
    · clear HK
      by_cases c1 : z < -2147483648
      · have e : okD3 x y z = false := by have q : okD z = false := (by unfold okD; simp; omega); unfold okD3; rw [q, h1, h2]; rfl
        have d1 : decide (z < -2147483648) = true := by simpa using c1
        go_wp2_with fail
        go_ret
        exact ⟨by first | rfl | (rw [e]; rfl), FX⟩
      · have d1 : decide (z < -2147483648) = false := by simpa using c1
        by_cases c2 : 2147483648 < z
        · have e : okD3 x y z = false := by have q : okD z = false := (by unfold okD; simp; omega); unfold okD3; rw [q, h1, h2]; rfl
          have d2 : decide (2147483648 < z) = true := by simpa using c2
          go_wp2_with fail
          go_ret
          exact ⟨by first | rfl | (rw [e]; rfl), FX⟩
        · have d2 : decide (2147483648 < z) = false := by simpa using c2
          have ov : okD z = true := okD_iff.2 ⟨by omega, by omega⟩
          have HN : Hid (okD3 x y z = true) := okD3_iff.2 ⟨h1, h2, ov⟩
          clear c1 c2 ov
          go_wp2_with fail
          go_roundw
          case rel => exact ⟨3, by go_num, Or.inr (Or.inr (Or.inr ⟨rfl, HN.out⟩)), FX⟩
          case measure => simp [intOf]
    · clear HK
      go_wp2_with fail
      go_ret
      exact ⟨by first | rfl | (rw [h1]; rfl), FX⟩
set_option maxRecDepth 20000 in
set_option maxHeartbeats 1000000 in
theorem near_any (v0 v1 v2 : Int) (w : World) : Calls Try.prog 19 #[.agg #[.int .i64 v0, .int .i64 v1, .int .i64 v2]] w fun e w' => e = .returned (.agg #[.bool true, .int .i64 v0, .int .i64 v1, .int .i64 v2, .int .i64 0, .bool false]) ∧ Ext w w' := by
  go_enter Try.func19, Try.ntmps19
  go_wp2_with fail
  refine bodyPost_ret (v := .agg #[.bool true, .int .i64 v0, .int .i64 v1, .int .i64 v2, .int .i64 0, .bool false]) (by simp [results, Try.results19, go_sem]) rfl ⟨rfl, ?_⟩
  exact ((Ext.refl w).alloc _).alloc _
/-- where a number stands to both sides -/
def whr (n lo hi : Int) : Int := if n < lo then 0 else if hi < n then 2 else 1
set_option maxRecDepth 20000 in
set_option maxHeartbeats 4000000 in
theorem where_any (n lo hi : Int) (w : World) : Calls Try.prog 27 #[.int .i64 n, .agg #[.int .i64 lo, .int .i64 hi]] w fun e w' => e = .returned (.int .i64 (whr n lo hi)) ∧ Ext w w' := by
  by_cases h1 : n < lo
  · have er : whr n lo hi = 0 := by unfold whr; rw [if_pos h1]
    rw [er]
    go_enter Try.func27, Try.ntmps27
    go_wp2_with fail
    go_ret
    exact ⟨rfl, by repeat (first | with_reducible assumption | with_reducible exact Ext.refl _ | with_reducible refine Ext.drew ?_ | with_reducible refine Ext.drewN ?_ _ | with_reducible refine Ext.alloc ?_ _ | with_reducible refine Ext.set ?_ (by first | exact Nat.le_refl _ | (dsimp only; omega) | (simp; done)) _)⟩
  · by_cases h2 : hi < n
    · have er : whr n lo hi = 2 := by unfold whr; rw [if_neg h1, if_pos h2]
      rw [er]
      go_enter Try.func27, Try.ntmps27
      go_wp2_with fail
      go_ret
      exact ⟨rfl, by repeat (first | with_reducible assumption | with_reducible exact Ext.refl _ | with_reducible refine Ext.drew ?_ | with_reducible refine Ext.drewN ?_ _ | with_reducible refine Ext.alloc ?_ _ | with_reducible refine Ext.set ?_ (by first | exact Nat.le_refl _ | (dsimp only; omega) | (simp; done)) _)⟩
    · have er : whr n lo hi = 1 := by unfold whr; rw [if_neg h1, if_neg h2]
      rw [er]
      go_enter Try.func27, Try.ntmps27
      go_wp2_with fail
      go_ret
      exact ⟨rfl, by repeat (first | with_reducible assumption | with_reducible exact Ext.refl _ | with_reducible refine Ext.drew ?_ | with_reducible refine Ext.drewN ?_ _ | with_reducible refine Ext.alloc ?_ _ | with_reducible refine Ext.set ?_ (by first | exact Nat.le_refl _ | (dsimp only; omega) | (simp; done)) _)⟩
set_option maxRecDepth 20000 in
set_option maxHeartbeats 1000000 in
theorem apart_any (p : Int) (w : World) : Calls Try.prog 21 #[.int .i64 p] w fun e w' => e = .returned (.bool (decide (p < 879557810))) ∧ Ext w w' := by
  have HW : Hid (∀ w, Calls Try.prog 27 #[.int .i64 p, .agg #[.int .i64 879557810, .int .i64 879557810]] w fun e w' => e = .returned (.int .i64 (whr p 879557810 879557810)) ∧ Ext w w') := where_any p 879557810 879557810
  by_cases h : p < 879557810
  · have e : whr p 879557810 879557810 = 0 := by unfold whr; rw [if_pos h]
    have d : decide (p < 879557810) = true := by simpa using h
    rw [e] at HW
    rw [d]
    clear e d h
    go_enter Try.func21, Try.ntmps21
    go_wp2_with (go_at_call 27; refine (HW.out _).mono ?_; rintro e w1 ⟨rfl, x1⟩)
    go_ret
    exact ⟨rfl, x1⟩
  · have e : whr p 879557810 879557810 = 1 ∨ whr p 879557810 879557810 = 2 := by unfold whr; rw [if_neg h]; split <;> simp
    have d : decide (p < 879557810) = false := by simpa using h
    rw [d]
    rcases e with e | e
    all_goals
      rw [e] at HW
      clear e d h
      go_enter Try.func21, Try.ntmps21
      go_wp2_with (go_at_call 27; refine (HW.out _).mono ?_; rintro e w1 ⟨rfl, x1⟩)
      go_ret
      exact ⟨rfl, x1⟩
/-- a state -/
def okTl (on : Bool) (x y z s : Int) (a : Bool) : Bool := if on then (a || decide (s = 0)) && (okD3 x y z && okTm s) else decide (x = 0 ∧ y = 0 ∧ z = 0 ∧ s = 0) && !a
end Go.Proofs.Ytbmocnigmpmfkaa
