/- gimbalref3: MayQuat, Squares. -/
import Derived.Test.YtfmalpnlencmbaaR3lm
import Derived.Test.YtfmalpnlencmbaaMg2
import Derived.Test.YtfmalpnlencmbaaR3cm
import Derived.Deep.RegionHeld
import Derived.Deep.RegionHeld3
namespace Go.Proofs.Ytfmalpnlencmbaa
open Go.RowKit Go.Shelf
set_option maxHeartbeats 4000000 in
theorem mayq_any (a b c d : Int) (w : World) :
    Calls Try.prog 6 #[.agg #[.int .i64 a, .int .i64 b, .int .i64 c, .int .i64 d]] w fun e w' => e = .returned (.bool (ok4 a b c d)) ∧ Ext w w' := by
  have HM : Hid (∀ v w', Calls Try.prog 27 #[.int .i64 v] w' fun e w'' => e = .returned (.bool (okW v)) ∧ w'' = w') := may_any
  unfold ok4
  cases h0 : okW a
  · go_enter Try.func6, Try.ntmps6
    go_wp2_with (go_at_call 27; refine (HM.out _ _).mono ?_; rintro e wx ⟨rfl, hwx⟩; have hwy := hwx.symm; clear hwx; subst hwy)
    go_ret
    exact ⟨rfl, (Ext.refl _).alloc _⟩
  · cases h1 : okW b
    · go_enter Try.func6, Try.ntmps6
      go_wp2_with (go_at_call 27; refine (HM.out _ _).mono ?_; rintro e wx ⟨rfl, hwx⟩; have hwy := hwx.symm; clear hwx; subst hwy)
      go_ret
      exact ⟨rfl, (Ext.refl _).alloc _⟩
    · cases h2 : okW c
      · go_enter Try.func6, Try.ntmps6
        go_wp2_with (go_at_call 27; refine (HM.out _ _).mono ?_; rintro e wx ⟨rfl, hwx⟩; have hwy := hwx.symm; clear hwx; subst hwy)
        go_ret
        exact ⟨rfl, (Ext.refl _).alloc _⟩
      · go_enter Try.func6, Try.ntmps6
        go_wp2_with (go_at_call 27; refine (HM.out _ _).mono ?_; rintro e wx ⟨rfl, hwx⟩; have hwy := hwx.symm; clear hwx; subst hwy)
        go_ret
        exact ⟨rfl, (Ext.refl _).alloc _⟩
theorem fit70 {a : Int} (h : okW a = true) : Fit 46 a := by
  have := okW_bounds h
  have e : (2 : Nat) ^ 46 = 70368744177664 := by decide
  unfold Fit; omega
end Go.Proofs.Ytfmalpnlencmbaa
