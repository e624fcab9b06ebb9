/- quat: of, asQuat, conj, rows, check, Check. -/
import Derived.Test.YtmbdcgijjpcppaaGreatMg0
import Derived.Test.YtmbdcgijjpcppaaGreatLeafm
namespace Go.Proofs.YtmbdcgijjpcppaaGreat
open Go.RowKit Go.Shelf

def ok4 (a b c d : Int) : Bool := okW a && (okW b && (okW c && okW d))
def chk4 (a b c d : Int) : Int := if ok4 a b c d then 0 else 1

set_option maxRecDepth 20000 in
set_option maxHeartbeats 1000000 in
theorem qof_any (a b c d : Int) (w : World) :
    Calls Tryz.prog 101 #[.agg #[.int .i64 a, .int .i64 b, .int .i64 c, .int .i64 d]] w fun e w' => e = .returned (.agg #[.int .i64 a, .int .i64 b, .int .i64 c, .int .i64 d]) ∧ Ext w w' := by
  go_enter Tryz.func101, Tryz.ntmps101
  go_wp2_with fail
  exact bodyPost_ret (v := .agg #[.int .i64 a, .int .i64 b, .int .i64 c, .int .i64 d]) (by simp [results, Tryz.results101, go_sem]) rfl ⟨rfl, by repeat (first | with_reducible assumption | with_reducible exact Ext.refl _ | with_reducible refine Ext.drew ?_ | with_reducible refine Ext.drewN ?_ _ | with_reducible refine Ext.alloc ?_ _ | with_reducible refine Ext.set ?_ (by first | exact Nat.le_refl _ | (dsimp only; omega) | (simp; done)) _)⟩

set_option maxRecDepth 20000 in
set_option maxHeartbeats 1000000 in
theorem asQuat_any (a b c d s : Int) (w : World) :
    Calls Tryz.prog 104 #[.agg #[.int .i64 a, .int .i64 b, .int .i64 c, .int .i64 d], .int .i64 s] w fun e w' => e = .returned (.tuple #[.agg #[.int .i64 a, .int .i64 b, .int .i64 c, .int .i64 d], .int .i64 s]) ∧ Ext w w' := by
  go_enter Tryz.func104, Tryz.ntmps104
  go_wp2_with fail
  exact bodyPost_ret (v := .tuple #[.agg #[.int .i64 a, .int .i64 b, .int .i64 c, .int .i64 d], .int .i64 s]) (by simp [results, Tryz.results104, go_sem]) rfl ⟨rfl, by repeat (first | with_reducible assumption | with_reducible exact Ext.refl _ | with_reducible refine Ext.drew ?_ | with_reducible refine Ext.drewN ?_ _ | with_reducible refine Ext.alloc ?_ _ | with_reducible refine Ext.set ?_ (by first | exact Nat.le_refl _ | (dsimp only; omega) | (simp; done)) _)⟩

set_option maxRecDepth 20000 in
set_option maxHeartbeats 1000000 in
theorem qconj_any (a b c d : Int) (w : World) :
    Calls Tryz.prog 125 #[.agg #[.int .i64 a, .int .i64 b, .int .i64 c, .int .i64 d]] w fun e w' => e = .returned (.agg #[.int .i64 a, .int .i64 (wrap64 (-b)), .int .i64 (wrap64 (-c)), .int .i64 (wrap64 (-d))]) ∧ Ext w w' := by
  go_enter Tryz.func125, Tryz.ntmps125
  go_wp2_with fail
  exact bodyPost_ret (v := .agg #[.int .i64 a, .int .i64 (wrap64 (-b)), .int .i64 (wrap64 (-c)), .int .i64 (wrap64 (-d))]) (by simp [results, Tryz.results125, go_sem]) rfl ⟨rfl, by repeat (first | with_reducible assumption | with_reducible exact Ext.refl _ | with_reducible refine Ext.drew ?_ | with_reducible refine Ext.drewN ?_ _ | with_reducible refine Ext.alloc ?_ _ | with_reducible refine Ext.set ?_ (by first | exact Nat.le_refl _ | (dsimp only; omega) | (simp; done)) _)⟩

set_option maxRecDepth 20000 in
set_option maxHeartbeats 2000000 in
theorem rows_any (a b c d : Int) (w : World) :
    Calls Tryz.prog 166 #[.agg #[.int .i64 a, .int .i64 b, .int .i64 c, .int .i64 d]] w fun e w' => e = .returned (.agg #[.int .i64 a, .int .i64 (wrap64 (-b)), .int .i64 (wrap64 (-c)), .int .i64 (wrap64 (-d)), .int .i64 b, .int .i64 a, .int .i64 (wrap64 (-d)), .int .i64 c, .int .i64 c, .int .i64 d, .int .i64 a, .int .i64 (wrap64 (-b)), .int .i64 d, .int .i64 (wrap64 (-c)), .int .i64 b, .int .i64 a]) ∧ Ext w w' := by
  go_enter Tryz.func166, Tryz.ntmps166
  go_wp2_with fail
  go_region
  go_wp2_with fail
  exact bodyPost_ret (v := .agg #[.int .i64 a, .int .i64 (wrap64 (-b)), .int .i64 (wrap64 (-c)), .int .i64 (wrap64 (-d)), .int .i64 b, .int .i64 a, .int .i64 (wrap64 (-d)), .int .i64 c, .int .i64 c, .int .i64 d, .int .i64 a, .int .i64 (wrap64 (-b)), .int .i64 d, .int .i64 (wrap64 (-c)), .int .i64 b, .int .i64 a]) (by simp [results, Tryz.results166, go_sem]) rfl ⟨rfl, by repeat (first | with_reducible assumption | with_reducible exact Ext.refl _ | with_reducible refine Ext.drew ?_ | with_reducible refine Ext.drewN ?_ _ | with_reducible refine Ext.alloc ?_ _ | with_reducible refine Ext.set ?_ (by first | exact Nat.le_refl _ | (dsimp only; omega) | (simp; done)) _)⟩

end Go.Proofs.YtmbdcgijjpcppaaGreat
