/- Contracts: fit, sum, difference, product, quotient, operate, and the faces Add, Sub, Neg, Mul, Div, Ratio, wakes. -/
import Derived.Test.YtkcfgkedgjpeoaaOps
namespace Go.Proofs.Ytkcfgkedgjpeoaa
open Go.RowKit

theorem fit_any (v : Int) (w : World) :
    Calls Try.prog 57 #[.int .i64 v] w fun e w' => e = .returned (.tuple #[.int .i64 (fitR v).1, .int .i64 (fitR v).2]) ∧ w' = w := by
  unfold fitR
  cases h : okW v
  · exact fit_no v w h
  · exact fit_yes v w h
theorem share_any (a b d : Int) (w : World) (h1 : -9223372036854775808 ≤ a) (h2 : a ≤ 9223372036854775807) (k1 : -9223372036854775808 ≤ b) (k2 : b ≤ 9223372036854775807) (j1 : -9223372036854775808 ≤ d) (j2 : d ≤ 9223372036854775807) :
    Calls Try.prog 41 #[.agg #[.int .i64 a, .int .i64 b], .int .i64 d] w fun e w' => e = .returned (.tuple #[.int .i64 (shareR a b d).1, .int .i64 (shareR a b d).2]) ∧ Ext w w' := by
  unfold shareR
  cases h0 : (d == 0)
  · cases hm : okW (mag a b d)
    · exact share_out a b d w h1 h2 k1 k2 j1 j2 h0 hm
    · exact share_in a b d w h1 h2 k1 k2 j1 j2 h0 hm
  · obtain rfl : d = 0 := by simpa using h0
    exact share_zero a b w
set_option maxHeartbeats 400000 in
theorem ratio_any (n d : Int) (w : World) (h1 : -9223372036854775808 ≤ n) (h2 : n ≤ 9223372036854775807) (k1 : -9223372036854775808 ≤ d) (k2 : d ≤ 9223372036854775807) :
    Calls Try.prog 33 #[.int .i64 n, .int .i64 d] w fun e w' => e = .returned (.tuple #[.int .i64 (shareR n 1 d).1, .int .i64 (shareR n 1 d).2]) ∧ Ext w w' := by
  have hP : Hid (∀ w, Calls Try.prog 41 #[.agg #[.int .i64 n, .int .i64 1], .int .i64 d] w fun e w' => e = .returned (.tuple #[.int .i64 (shareR n 1 d).1, .int .i64 (shareR n 1 d).2]) ∧ Ext w w') := fun w => share_any _ _ _ w h1 h2 (by omega) (by omega) k1 k2
  generalize (shareR n 1 d).1 = x at *
  generalize (shareR n 1 d).2 = y at *
  go_enter Try.func33, Try.ntmps33
  go_wp2_with fail
  refine (hP.out _).mono ?_
  rintro e w1 ⟨rfl, x1⟩
  go_wp2_with fail
  go_ret2
  exact ⟨rfl, x1⟩

end Go.Proofs.Ytkcfgkedgjpeoaa
