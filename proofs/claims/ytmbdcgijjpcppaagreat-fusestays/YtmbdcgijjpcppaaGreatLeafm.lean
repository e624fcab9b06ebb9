/- Contracts of the leaves of package fx: Check, num, fit, size. -/
import Derived.Test.YtmbdcgijjpcppaaGreatMg0
import Derived.WalkKit
import Derived.WalkSpells
import Derived.WalkLawsBesides
import Derived.Deep.RegionWith
namespace Go.Proofs.YtmbdcgijjpcppaaGreat
open Go.RowKit

set_option maxHeartbeats 400000 in
theorem check_any (v : Int) (w : World) :
    Calls Tryz.prog 122 #[.int .i64 v] w fun e w' => e = .returned (.int .i64 (chk v)) ∧ w' = w := by
  by_cases h1 : v ≤ -35184372088832
  · have e1 : chk v = 1 := by unfold chk okW; rw [if_neg]; simp; omega
    rw [e1]
    go_enter Tryz.func122, Tryz.ntmps122
    go_wp2
    go_ret
    exact ⟨rfl, rfl⟩
  · by_cases h2 : 35184372088832 ≤ v
    · have e1 : chk v = 1 := by unfold chk okW; rw [if_neg]; simp; omega
      rw [e1]
      go_enter Tryz.func122, Tryz.ntmps122
      go_wp2
      go_ret
      exact ⟨rfl, rfl⟩
    · have e1 : chk v = 0 := by unfold chk okW; rw [if_pos]; simp; omega
      rw [e1]
      go_enter Tryz.func122, Tryz.ntmps122
      go_wp2
      go_ret
      exact ⟨rfl, rfl⟩

set_option maxHeartbeats 400000 in
theorem fit_yes (v : Int) (w : World) (h : okW v = true) :
    Calls Tryz.prog 141 #[.int .i64 v] w fun e w' => e = .returned (.tuple #[.int .i64 v, .int .i64 0]) ∧ w' = w := by
  have hc : chk v = 0 := by unfold chk; rw [if_pos h]
  go_enter Tryz.func141, Tryz.ntmps141
  go_wp2_with (go_at_call 122; refine (check_any _ _).mono ?_; rintro e w' ⟨rfl, rfl⟩)
  go_ret2
  exact ⟨rfl, rfl⟩

set_option maxHeartbeats 400000 in
theorem fit_no (v : Int) (w : World) (h : okW v = false) :
    Calls Tryz.prog 141 #[.int .i64 v] w fun e w' => e = .returned (.tuple #[.int .i64 0, .int .i64 2]) ∧ w' = w := by
  have hc : chk v = 1 := by unfold chk; rw [h]; rfl
  go_enter Tryz.func141, Tryz.ntmps141
  go_wp2_with (go_at_call 122; refine (check_any _ _).mono ?_; rintro e w' ⟨rfl, rfl⟩)
  go_ret2
  exact ⟨rfl, rfl⟩

set_option maxHeartbeats 400000 in
theorem size_any (v : Int) (w : World) (h1 : -9223372036854775808 ≤ v) (h2 : v ≤ 9223372036854775807) :
    Calls Tryz.prog 156 #[.int .i64 v] w fun e w' => e = .returned (.int .u64 (v.natAbs : Int)) ∧ w' = w := by
  by_cases h : v < 0
  · go_enter Tryz.func156, Tryz.ntmps156
    go_wp2
    go_ret
    exact ⟨ret_int (size_neg v h1 h), rfl⟩
  · go_enter Tryz.func156, Tryz.ntmps156
    go_wp2
    go_ret
    exact ⟨ret_int (by omega), rfl⟩

set_option maxHeartbeats 400000 in
theorem eachErr_any (a b : Int) (w : World) :
    Calls Tryz.prog 175 #[.agg #[.int .i64 a, .int .i64 b], .func (.func 122) #[] #[]] w fun e w' => e = .returned (.agg #[.int .i64 (chk a), .int .i64 (chk b)]) ∧ Ext w w' := by
  go_enter Tryz.func175, Tryz.ntmps175
  go_wp2
  go_region_with (go_at_call 122; refine (check_any _ _).mono ?_; rintro e w' ⟨rfl, rfl⟩)
  all_goals
    go_wp2
    exact bodyPost_ret (v := .agg #[.int .i64 (chk a), .int .i64 (chk b)]) (by simp [results, Tryz.results175, go_sem]) rfl ⟨rfl, (((Ext.refl _).alloc _).alloc _).drew⟩

set_option maxHeartbeats 400000 in
theorem words_any (a b : Int) (w : World) :
    Calls Tryz.prog 140 #[.agg #[.int .i64 a, .int .i64 b]] w fun e w' => e = .returned (.bool (okW a && okW b)) ∧ Ext w w' := by
  go_enter Tryz.func140, Tryz.ntmps140
  go_wp2_with (go_at_call 175; refine (eachErr_any _ _ _).mono ?_; rintro e w' ⟨rfl, hx⟩)
  all_goals
    go_ret
    exact ⟨ret_bool (by first | exact words1 ‹_› ‹_› | exact words2 ‹_› ‹_› | exact words3 ‹_›), ((Ext.refl _).alloc _).trans hx⟩

set_option maxHeartbeats 400000 in
theorem eachSize_any (a b : Int) (w : World) (h1 : -9223372036854775808 ≤ a) (h2 : a ≤ 9223372036854775807) (k1 : -9223372036854775808 ≤ b) (k2 : b ≤ 9223372036854775807) :
    Calls Tryz.prog 155 #[.agg #[.int .i64 a, .int .i64 b], .func (.func 156) #[] #[]] w fun e w' => e = .returned (.agg #[.int .u64 (a.natAbs : Int), .int .u64 (b.natAbs : Int)]) ∧ Ext w w' := by
  go_enter Tryz.func155, Tryz.ntmps155
  go_wp2
  go_region_with (go_at_call 156; refine (size_any _ _ (by omega) (by omega)).mono ?_; rintro e w' ⟨rfl, rfl⟩)
  all_goals
    go_wp2
    exact bodyPost_ret (v := .agg #[.int .u64 (a.natAbs : Int), .int .u64 (b.natAbs : Int)]) (by simp [results, Tryz.results155, go_sem]) rfl ⟨rfl, (((Ext.refl _).alloc _).alloc _).drew⟩
end Go.Proofs.YtmbdcgijjpcppaaGreat
