/- Contracts of the leaves of package fx: Check, num, fit, size. -/
import Derived.Test.YtojcndgoihkfnaaMg0
import Derived.WalkKit
import Derived.WalkSpells
import Derived.WalkLawsBesides
import Derived.Deep.RegionWith
namespace Go.Proofs.Ytojcndgoihkfnaa
open Go.RowKit

set_option maxHeartbeats 400000 in
theorem check_any (v : Int) (w : World) :
    Calls Try.prog 37 #[.int .i64 v] w fun e w' => e = .returned (.int .i64 (chk v)) ∧ w' = w := by
  by_cases h1 : v ≤ -35184372088832
  · have e1 : chk v = 1 := by unfold chk okW; rw [if_neg]; simp; omega
    rw [e1]
    go_enter Try.func37, Try.ntmps37
    go_wp2
    go_ret
    exact ⟨rfl, rfl⟩
  · by_cases h2 : 35184372088832 ≤ v
    · have e1 : chk v = 1 := by unfold chk okW; rw [if_neg]; simp; omega
      rw [e1]
      go_enter Try.func37, Try.ntmps37
      go_wp2
      go_ret
      exact ⟨rfl, rfl⟩
    · have e1 : chk v = 0 := by unfold chk okW; rw [if_pos]; simp; omega
      rw [e1]
      go_enter Try.func37, Try.ntmps37
      go_wp2
      go_ret
      exact ⟨rfl, rfl⟩

set_option maxHeartbeats 400000 in
theorem fit_yes (v : Int) (w : World) (h : okW v = true) :
    Calls Try.prog 77 #[.int .i64 v] w fun e w' => e = .returned (.tuple #[.int .i64 v, .int .i64 0]) ∧ w' = w := by
  have hc : chk v = 0 := by unfold chk; rw [if_pos h]
  go_enter Try.func77, Try.ntmps77
  go_wp2_with (go_at_call 37; refine (check_any _ _).mono ?_; rintro e w' ⟨rfl, rfl⟩)
  go_ret2
  exact ⟨rfl, rfl⟩

set_option maxHeartbeats 400000 in
theorem fit_no (v : Int) (w : World) (h : okW v = false) :
    Calls Try.prog 77 #[.int .i64 v] w fun e w' => e = .returned (.tuple #[.int .i64 0, .int .i64 2]) ∧ w' = w := by
  have hc : chk v = 1 := by unfold chk; rw [h]; rfl
  go_enter Try.func77, Try.ntmps77
  go_wp2_with (go_at_call 37; refine (check_any _ _).mono ?_; rintro e w' ⟨rfl, rfl⟩)
  go_ret2
  exact ⟨rfl, rfl⟩

set_option maxHeartbeats 400000 in
theorem eachErr_any (a b : Int) (w : World) :
    Calls Try.prog 100 #[.agg #[.int .i64 a, .int .i64 b], .func (.func 37) #[] #[]] w fun e w' => e = .returned (.agg #[.int .i64 (chk a), .int .i64 (chk b)]) ∧ Ext w w' := by
  go_enter Try.func100, Try.ntmps100
  go_wp2
  go_region_with (go_at_call 37; refine (check_any _ _).mono ?_; rintro e w' ⟨rfl, rfl⟩)
  all_goals
    go_wp2
    exact bodyPost_ret (v := .agg #[.int .i64 (chk a), .int .i64 (chk b)]) (by simp [results, Try.results100, go_sem]) rfl ⟨rfl, (((Ext.refl _).alloc _).alloc _).drew⟩

set_option maxHeartbeats 400000 in
theorem words_any (a b : Int) (w : World) :
    Calls Try.prog 76 #[.agg #[.int .i64 a, .int .i64 b]] w fun e w' => e = .returned (.bool (okW a && okW b)) ∧ Ext w w' := by
  go_enter Try.func76, Try.ntmps76
  go_wp2_with (go_at_call 100; refine (eachErr_any _ _ _).mono ?_; rintro e w' ⟨rfl, hx⟩)
  all_goals
    go_ret
    exact ⟨ret_bool (by first | exact words1 ‹_› ‹_› | exact words2 ‹_› ‹_› | exact words3 ‹_›), ((Ext.refl _).alloc _).trans hx⟩

end Go.Proofs.Ytojcndgoihkfnaa
