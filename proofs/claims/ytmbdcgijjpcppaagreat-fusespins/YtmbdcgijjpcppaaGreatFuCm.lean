/- close4 -/
import Derived.Test.YtmbdcgijjpcppaaGreatFl0m
namespace Go.Proofs.YtmbdcgijjpcppaaGreat
open Go.RowKit Go.Shelf
set_option maxRecDepth 20000 in
set_option maxHeartbeats 8000000 in
theorem close4_any (a0 a1 a2 a3 b0 b1 b2 b3 m d0 d1 d2 d3 : Int) (w : World) (m1 : 0 ≤ m) (m2 : m ≤ 100) (e0 : a0 - b0 = d0) (e1 : a1 - b1 = d1) (e2 : a2 - b2 = d2) (e3 : a3 - b3 = d3) (l0 : ¬ m < d0) (g0 : ¬ d0 < -m) (l1 : ¬ m < d1) (g1 : ¬ d1 < -m) (l2 : ¬ m < d2) (g2 : ¬ d2 < -m) (l3 : ¬ m < d3) (g3 : ¬ d3 < -m) :
    Calls Tryz.prog 24 #[.agg #[.int .i64 a0, .int .i64 a1, .int .i64 a2, .int .i64 a3], .agg #[.int .i64 b0, .int .i64 b1, .int .i64 b2, .int .i64 b3], .int .i64 m] w fun e w' => e = .returned (.bool true) ∧ Ext w w' := by
  have r0 : wrap64 (a0 - b0) = d0 := by rw [e0]; unfold wrap64; omega
  have r1 : wrap64 (a1 - b1) = d1 := by rw [e1]; unfold wrap64; omega
  have r2 : wrap64 (a2 - b2) = d2 := by rw [e2]; unfold wrap64; omega
  have r3 : wrap64 (a3 - b3) = d3 := by rw [e3]; unfold wrap64; omega
  clear e0 e1 e2 e3
  have XB : Hid (Ext w (((w.alloc (.cells #[.int .i64 a0, .int .i64 a1, .int .i64 a2, .int .i64 a3] 24)).alloc (.cells #[.int .i64 b0, .int .i64 b1, .int .i64 b2, .int .i64 b3] 24)))) := ((Ext.refl _).alloc _).alloc _
  go_enter Tryz.func24, Tryz.ntmps24
  go_wp2_with fail
  refine wp_loop_rounds 6 ?_
  rw [rounds_succ]
  go_wp2_with fail
  rw [rounds_succ]
  go_wp2_with fail
  rw [rounds_succ]
  go_wp2_with fail
  rw [rounds_succ]
  go_wp2_with fail
  rw [rounds_succ]
  go_wp2_with fail
  go_ret
  exact ⟨rfl, by repeat (first | with_reducible exact XB.out | with_reducible refine Ext.drew ?_ | with_reducible refine Ext.drewN ?_ _ | with_reducible refine Ext.alloc ?_ _)⟩
end Go.Proofs.YtmbdcgijjpcppaaGreat
