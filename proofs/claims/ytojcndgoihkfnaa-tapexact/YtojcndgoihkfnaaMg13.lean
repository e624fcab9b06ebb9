/- Contracts: times, bits.Div64. Contracts: nearest, share, operate, Mul, wakes. Contracts: fit, sum, difference, product, quotient, operate, and the faces Add, Sub, Neg, Mul, Div, Ratio, wakes. -/
import Derived.Test.YtojcndgoihkfnaaLeafm
import Derived.Test.YtojcndgoihkfnaaMg0
import Derived.Test.YtojcndgoihkfnaaMg1
import Derived.Deep.QuietTactic
import Derived.BigQuiet
namespace Go.Proofs.Ytojcndgoihkfnaa
open Go.RowKit

end Go.Proofs.Ytojcndgoihkfnaa

namespace Go.Proofs.Ytojcndgoihkfnaa
open Go.RowKit

end Go.Proofs.Ytojcndgoihkfnaa

namespace Go.Proofs.Ytojcndgoihkfnaa
open Go.RowKit

theorem fit_any (v : Int) (w : World) :
    Calls Try.prog 77 #[.int .i64 v] w fun e w' => e = .returned (.tuple #[.int .i64 (fitR v).1, .int .i64 (fitR v).2]) ∧ w' = w := by
  unfold fitR
  cases h : okW v
  · exact fit_no v w h
  · exact fit_yes v w h
set_option maxHeartbeats 400000 in
theorem diffc_any (a b : Int) (w : World) (h1 : okW a = true) (h2 : okW b = true) :
    Calls Try.prog 55 #[.agg #[.int .i64 a, .int .i64 b]] w fun e w' => e = .returned (.tuple #[.int .i64 (diffV a b).1, .int .i64 (diffV a b).2]) ∧ Ext w w' := by
  have g1 := okW_bounds h1
  have g2 := okW_bounds h2
  have hP : Hid (∀ w, Calls Try.prog 77 #[.int .i64 (a - b)] w fun e w' => e = .returned (.tuple #[.int .i64 (diffV a b).1, .int .i64 (diffV a b).2]) ∧ w' = w) := fun w => fit_any _ w
  generalize (diffV a b).1 = x at *
  generalize (diffV a b).2 = y at *
  clear h1 h2
  go_enter Try.func55, Try.ntmps55
  go_wp2_with fail
  refine (hP.out _).mono ?_
  rintro e w1 ⟨rfl, rfl⟩
  go_wp2_with fail
  go_ret2
  exact ⟨rfl, (Ext.refl _).alloc _⟩

set_option maxHeartbeats 400000 in
theorem sub_op (a b : Int) (w : World) (h1 : okW a = true) (h2 : okW b = true) :
    Calls Try.prog 54 #[.agg #[.int .i64 a, .int .i64 b], .func (.func 55) #[] #[]] w fun e w' => e = .returned (.tuple #[.int .i64 (diffV a b).1, .int .i64 (diffV a b).2]) ∧ Ext w w' := by
  have hP : Hid (∀ w, Calls Try.prog 55 #[.agg #[.int .i64 a, .int .i64 b]] w fun e w' => e = .returned (.tuple #[.int .i64 (diffV a b).1, .int .i64 (diffV a b).2]) ∧ Ext w w') := fun w => diffc_any a b w h1 h2
  generalize (diffV a b).1 = x at *
  generalize (diffV a b).2 = y at *
  have hw : (okW a && okW b) = true := by rw [h1, h2]; rfl
  have hW : Hid (∀ w, Calls Try.prog 76 #[.agg #[.int .i64 a, .int .i64 b]] w fun e w' => e = .returned (.bool true) ∧ Ext w w') := by
    intro w
    have := words_any a b w
    rw [hw] at this
    exact this
  clear h1 h2 hw
  go_enter Try.func54, Try.ntmps54
  go_wp2_with fail
  refine (hW.out _).mono ?_
  rintro e w1 ⟨rfl, x1⟩
  obtain ⟨c0, c1⟩ := x1.cells2
  have X : Hid (Ext w w1) := ((Ext.refl w).alloc _).trans x1
  clear x1 hW
  go_wp2_with fail
  refine (hP.out _).mono ?_
  rintro e w2 ⟨rfl, x2⟩
  go_wp2_with fail
  go_ret2
  exact ⟨rfl, X.out.trans x2⟩

set_option maxHeartbeats 400000 in
theorem sub_form (a b : Int) (w : World) (h : (okW a && okW b) = false) :
    Calls Try.prog 54 #[.agg #[.int .i64 a, .int .i64 b], .func (.func 55) #[] #[]] w fun e w' => e = .returned (.tuple #[.int .i64 0, .int .i64 1]) ∧ Ext w w' := by
  have hW : Hid (∀ w, Calls Try.prog 76 #[.agg #[.int .i64 a, .int .i64 b]] w fun e w' => e = .returned (.bool false) ∧ Ext w w') := by
    intro w
    have := words_any a b w
    rw [h] at this
    exact this
  clear h
  go_enter Try.func54, Try.ntmps54
  go_wp2_with fail
  refine (hW.out _).mono ?_
  rintro e w1 ⟨rfl, x1⟩
  go_wp2_with fail
  go_ret2
  exact ⟨rfl, ((Ext.refl w).alloc _).trans x1⟩

theorem sub_operate (a b : Int) (w : World) :
    Calls Try.prog 54 #[.agg #[.int .i64 a, .int .i64 b], .func (.func 55) #[] #[]] w fun e w' => e = .returned (.tuple #[.int .i64 (subR a b).1, .int .i64 (subR a b).2]) ∧ Ext w w' := by
  unfold subR
  cases h : (okW a && okW b)
  · rw [if_neg (by decide)]
    exact sub_form a b w h
  · rw [if_pos rfl]
    rw [Bool.and_eq_true] at h
    exact sub_op a b w h.1 h.2

set_option maxHeartbeats 400000 in
theorem sub_any (a b : Int) (w : World) :
    Calls Try.prog 39 #[.int .i64 a, .int .i64 b] w fun e w' => e = .returned (.tuple #[.int .i64 (subR a b).1, .int .i64 (subR a b).2]) ∧ Ext w w' := by
  have hP : Hid (∀ w, Calls Try.prog 54 #[.agg #[.int .i64 a, .int .i64 b], .func (.func 55) #[] #[]] w fun e w' => e = .returned (.tuple #[.int .i64 (subR a b).1, .int .i64 (subR a b).2]) ∧ Ext w w') := fun w => sub_operate _ _ w
  generalize (subR a b).1 = x at *
  generalize (subR a b).2 = y at *
  go_enter Try.func39, Try.ntmps39
  go_wp2_with fail
  refine (hP.out _).mono ?_
  rintro e w1 ⟨rfl, x1⟩
  go_wp2_with fail
  go_ret2
  exact ⟨rfl, x1⟩

end Go.Proofs.Ytojcndgoihkfnaa
