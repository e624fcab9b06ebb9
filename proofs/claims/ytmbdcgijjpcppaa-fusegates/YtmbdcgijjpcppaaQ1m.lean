/- quat: of, asQuat, conj, rows, check, Check. -/
import Derived.Test.YtmbdcgijjpcppaaMg0
import Derived.Test.YtmbdcgijjpcppaaLeafm
namespace Go.Proofs.Ytmbdcgijjpcppaa
open Go.RowKit Go.Shelf

def ok4 (a b c d : Int) : Bool := okW a && (okW b && (okW c && okW d))
def chk4 (a b c d : Int) : Int := if ok4 a b c d then 0 else 1

set_option maxRecDepth 20000 in
set_option maxHeartbeats 1000000 in
theorem qof_any (a b c d : Int) (w : World) :
    Calls Try.prog 27 #[.agg #[.int .i64 a, .int .i64 b, .int .i64 c, .int .i64 d]] w fun e w' => e = .returned (.agg #[.int .i64 a, .int .i64 b, .int .i64 c, .int .i64 d]) ∧ Ext w w' := by
  go_enter Try.func27, Try.ntmps27
  go_wp2_with fail
  exact bodyPost_ret (v := .agg #[.int .i64 a, .int .i64 b, .int .i64 c, .int .i64 d]) (by simp [results, Try.results27, go_sem]) rfl ⟨rfl, by repeat (first | with_reducible assumption | with_reducible exact Ext.refl _ | with_reducible refine Ext.drew ?_ | with_reducible refine Ext.drewN ?_ _ | with_reducible refine Ext.alloc ?_ _ | with_reducible refine Ext.set ?_ (by first | exact Nat.le_refl _ | (dsimp only; omega) | (simp; done)) _)⟩

set_option maxRecDepth 20000 in
set_option maxHeartbeats 1000000 in
theorem asQuat_any (a b c d s : Int) (w : World) :
    Calls Try.prog 43 #[.agg #[.int .i64 a, .int .i64 b, .int .i64 c, .int .i64 d], .int .i64 s] w fun e w' => e = .returned (.tuple #[.agg #[.int .i64 a, .int .i64 b, .int .i64 c, .int .i64 d], .int .i64 s]) ∧ Ext w w' := by
  go_enter Try.func43, Try.ntmps43
  go_wp2_with fail
  exact bodyPost_ret (v := .tuple #[.agg #[.int .i64 a, .int .i64 b, .int .i64 c, .int .i64 d], .int .i64 s]) (by simp [results, Try.results43, go_sem]) rfl ⟨rfl, by repeat (first | with_reducible assumption | with_reducible exact Ext.refl _ | with_reducible refine Ext.drew ?_ | with_reducible refine Ext.drewN ?_ _ | with_reducible refine Ext.alloc ?_ _ | with_reducible refine Ext.set ?_ (by first | exact Nat.le_refl _ | (dsimp only; omega) | (simp; done)) _)⟩

set_option maxRecDepth 20000 in
set_option maxHeartbeats 1000000 in
theorem qconj_any (a b c d : Int) (w : World) :
    Calls Try.prog 26 #[.agg #[.int .i64 a, .int .i64 b, .int .i64 c, .int .i64 d]] w fun e w' => e = .returned (.agg #[.int .i64 a, .int .i64 (wrap64 (-b)), .int .i64 (wrap64 (-c)), .int .i64 (wrap64 (-d))]) ∧ Ext w w' := by
  go_enter Try.func26, Try.ntmps26
  go_wp2_with fail
  exact bodyPost_ret (v := .agg #[.int .i64 a, .int .i64 (wrap64 (-b)), .int .i64 (wrap64 (-c)), .int .i64 (wrap64 (-d))]) (by simp [results, Try.results26, go_sem]) rfl ⟨rfl, by repeat (first | with_reducible assumption | with_reducible exact Ext.refl _ | with_reducible refine Ext.drew ?_ | with_reducible refine Ext.drewN ?_ _ | with_reducible refine Ext.alloc ?_ _ | with_reducible refine Ext.set ?_ (by first | exact Nat.le_refl _ | (dsimp only; omega) | (simp; done)) _)⟩

set_option maxRecDepth 20000 in
set_option maxHeartbeats 2000000 in
theorem rows_any (a b c d : Int) (w : World) :
    Calls Try.prog 98 #[.agg #[.int .i64 a, .int .i64 b, .int .i64 c, .int .i64 d]] w fun e w' => e = .returned (.agg #[.int .i64 a, .int .i64 (wrap64 (-b)), .int .i64 (wrap64 (-c)), .int .i64 (wrap64 (-d)), .int .i64 b, .int .i64 a, .int .i64 (wrap64 (-d)), .int .i64 c, .int .i64 c, .int .i64 d, .int .i64 a, .int .i64 (wrap64 (-b)), .int .i64 d, .int .i64 (wrap64 (-c)), .int .i64 b, .int .i64 a]) ∧ Ext w w' := by
  go_enter Try.func98, Try.ntmps98
  go_wp2_with fail
  go_region
  go_wp2_with fail
  exact bodyPost_ret (v := .agg #[.int .i64 a, .int .i64 (wrap64 (-b)), .int .i64 (wrap64 (-c)), .int .i64 (wrap64 (-d)), .int .i64 b, .int .i64 a, .int .i64 (wrap64 (-d)), .int .i64 c, .int .i64 c, .int .i64 d, .int .i64 a, .int .i64 (wrap64 (-b)), .int .i64 d, .int .i64 (wrap64 (-c)), .int .i64 b, .int .i64 a]) (by simp [results, Try.results98, go_sem]) rfl ⟨rfl, by repeat (first | with_reducible assumption | with_reducible exact Ext.refl _ | with_reducible refine Ext.drew ?_ | with_reducible refine Ext.drewN ?_ _ | with_reducible refine Ext.alloc ?_ _ | with_reducible refine Ext.set ?_ (by first | exact Nat.le_refl _ | (dsimp only; omega) | (simp; done)) _)⟩

end Go.Proofs.Ytmbdcgijjpcppaa
