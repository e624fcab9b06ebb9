/- Contracts: fit, sum, difference, product, quotient, operate, and the faces Add, Sub, Neg, Mul, Div, Ratio, wakes. -/
import Derived.Test.YtbmodfhnenlmgaaOps
namespace Go.Proofs.Ytbmodfhnenlmgaa
open Go.RowKit

theorem fit_any (v : Int) (w : World) :
    Calls Try.prog 58 #[.int .i64 v] w fun e w' => e = .returned (.tuple #[.int .i64 (fitR v).1, .int .i64 (fitR v).2]) ∧ w' = w := by
  unfold fitR
  cases h : okW v
  · exact fit_no v w h
  · exact fit_yes v w h
theorem share_any (a b d : Int) (w : World) (h1 : -9223372036854775808 ≤ a) (h2 : a ≤ 9223372036854775807) (k1 : -9223372036854775808 ≤ b) (k2 : b ≤ 9223372036854775807) (j1 : -9223372036854775808 ≤ d) (j2 : d ≤ 9223372036854775807) :
    Calls Try.prog 76 #[.agg #[.int .i64 a, .int .i64 b], .int .i64 d] w fun e w' => e = .returned (.tuple #[.int .i64 (shareR a b d).1, .int .i64 (shareR a b d).2]) ∧ Ext w w' := by
  unfold shareR
  cases h0 : (d == 0)
  · cases hm : okW (mag a b d)
    · exact share_out a b d w h1 h2 k1 k2 j1 j2 h0 hm
    · exact share_in a b d w h1 h2 k1 k2 j1 j2 h0 hm
  · obtain rfl : d = 0 := by simpa using h0
    exact share_zero a b w
set_option maxHeartbeats 400000 in
theorem sumc_any (a b : Int) (w : World) (h1 : okW a = true) (h2 : okW b = true) :
    Calls Try.prog 40 #[.agg #[.int .i64 a, .int .i64 b]] w fun e w' => e = .returned (.tuple #[.int .i64 (sumV a b).1, .int .i64 (sumV a b).2]) ∧ Ext w w' := by
  have g1 := okW_bounds h1
  have g2 := okW_bounds h2
  have hP : Hid (∀ w, Calls Try.prog 58 #[.int .i64 (a + b)] w fun e w' => e = .returned (.tuple #[.int .i64 (sumV a b).1, .int .i64 (sumV a b).2]) ∧ w' = w) := fun w => fit_any _ w
  generalize (sumV a b).1 = x at *
  generalize (sumV a b).2 = y at *
  clear h1 h2
  go_enter Try.func40, Try.ntmps40
  go_wp2_with fail
  refine (hP.out _).mono ?_
  rintro e w1 ⟨rfl, rfl⟩
  go_wp2_with fail
  go_ret2
  exact ⟨rfl, (Ext.refl _).alloc _⟩

set_option maxHeartbeats 400000 in
theorem diffc_any (a b : Int) (w : World) (h1 : okW a = true) (h2 : okW b = true) :
    Calls Try.prog 41 #[.agg #[.int .i64 a, .int .i64 b]] w fun e w' => e = .returned (.tuple #[.int .i64 (diffV a b).1, .int .i64 (diffV a b).2]) ∧ Ext w w' := by
  have g1 := okW_bounds h1
  have g2 := okW_bounds h2
  have hP : Hid (∀ w, Calls Try.prog 58 #[.int .i64 (a - b)] w fun e w' => e = .returned (.tuple #[.int .i64 (diffV a b).1, .int .i64 (diffV a b).2]) ∧ w' = w) := fun w => fit_any _ w
  generalize (diffV a b).1 = x at *
  generalize (diffV a b).2 = y at *
  clear h1 h2
  go_enter Try.func41, Try.ntmps41
  go_wp2_with fail
  refine (hP.out _).mono ?_
  rintro e w1 ⟨rfl, rfl⟩
  go_wp2_with fail
  go_ret2
  exact ⟨rfl, (Ext.refl _).alloc _⟩

set_option maxHeartbeats 400000 in
theorem prodc_any (a b : Int) (w : World) (h1 : okW a = true) (h2 : okW b = true) :
    Calls Try.prog 55 #[.agg #[.int .i64 a, .int .i64 b]] w fun e w' => e = .returned (.tuple #[.int .i64 (prodV a b).1, .int .i64 (prodV a b).2]) ∧ Ext w w' := by
  have g1 := okW_bounds h1
  have g2 := okW_bounds h2
  have hP : Hid (∀ w, Calls Try.prog 76 #[.agg #[.int .i64 a, .int .i64 b], .int .i64 1073741824] w fun e w' => e = .returned (.tuple #[.int .i64 (prodV a b).1, .int .i64 (prodV a b).2]) ∧ Ext w w') := fun w => share_any _ _ _ w (by omega) (by omega) (by omega) (by omega) (by omega) (by omega)
  generalize (prodV a b).1 = x at *
  generalize (prodV a b).2 = y at *
  clear h1 h2
  go_enter Try.func55, Try.ntmps55
  go_wp2_with fail
  refine (hP.out _).mono ?_
  rintro e w1 ⟨rfl, x1⟩
  go_wp2_with fail
  go_ret2
  exact ⟨rfl, ((Ext.refl _).alloc _).trans x1⟩

set_option maxHeartbeats 400000 in
theorem add_op (a b : Int) (w : World) (h1 : okW a = true) (h2 : okW b = true) :
    Calls Try.prog 39 #[.agg #[.int .i64 a, .int .i64 b], .func (.func 40) #[] #[]] w fun e w' => e = .returned (.tuple #[.int .i64 (sumV a b).1, .int .i64 (sumV a b).2]) ∧ Ext w w' := by
  have hP : Hid (∀ w, Calls Try.prog 40 #[.agg #[.int .i64 a, .int .i64 b]] w fun e w' => e = .returned (.tuple #[.int .i64 (sumV a b).1, .int .i64 (sumV a b).2]) ∧ Ext w w') := fun w => sumc_any a b w h1 h2
  generalize (sumV a b).1 = x at *
  generalize (sumV a b).2 = y at *
  have hw : (okW a && okW b) = true := by rw [h1, h2]; rfl
  have hW : Hid (∀ w, Calls Try.prog 57 #[.agg #[.int .i64 a, .int .i64 b]] w fun e w' => e = .returned (.bool true) ∧ Ext w w') := by
    intro w
    have := words_any a b w
    rw [hw] at this
    exact this
  clear h1 h2 hw
  go_enter Try.func39, Try.ntmps39
  go_wp2_with fail
  refine (hW.out _).mono ?_
  rintro e w1 ⟨rfl, x1⟩
  obtain ⟨c0, c1⟩ := x1.cells2
  have X : Hid (Ext w w1) := ((Ext.refl w).alloc _).trans x1
  clear x1 hW
  go_wp2_with fail
  refine (hP.out _).mono ?_
  rintro e w2 ⟨rfl, x2⟩
  go_wp2_with fail
  go_ret2
  exact ⟨rfl, X.out.trans x2⟩

set_option maxHeartbeats 400000 in
theorem add_form (a b : Int) (w : World) (h : (okW a && okW b) = false) :
    Calls Try.prog 39 #[.agg #[.int .i64 a, .int .i64 b], .func (.func 40) #[] #[]] w fun e w' => e = .returned (.tuple #[.int .i64 0, .int .i64 1]) ∧ Ext w w' := by
  have hW : Hid (∀ w, Calls Try.prog 57 #[.agg #[.int .i64 a, .int .i64 b]] w fun e w' => e = .returned (.bool false) ∧ Ext w w') := by
    intro w
    have := words_any a b w
    rw [h] at this
    exact this
  clear h
  go_enter Try.func39, Try.ntmps39
  go_wp2_with fail
  refine (hW.out _).mono ?_
  rintro e w1 ⟨rfl, x1⟩
  go_wp2_with fail
  go_ret2
  exact ⟨rfl, ((Ext.refl w).alloc _).trans x1⟩

theorem add_operate (a b : Int) (w : World) :
    Calls Try.prog 39 #[.agg #[.int .i64 a, .int .i64 b], .func (.func 40) #[] #[]] w fun e w' => e = .returned (.tuple #[.int .i64 (addR a b).1, .int .i64 (addR a b).2]) ∧ Ext w w' := by
  unfold addR
  cases h : (okW a && okW b)
  · rw [if_neg (by decide)]
    exact add_form a b w h
  · rw [if_pos rfl]
    rw [Bool.and_eq_true] at h
    exact add_op a b w h.1 h.2

set_option maxHeartbeats 400000 in
theorem sub_op (a b : Int) (w : World) (h1 : okW a = true) (h2 : okW b = true) :
    Calls Try.prog 39 #[.agg #[.int .i64 a, .int .i64 b], .func (.func 41) #[] #[]] w fun e w' => e = .returned (.tuple #[.int .i64 (diffV a b).1, .int .i64 (diffV a b).2]) ∧ Ext w w' := by
  have hP : Hid (∀ w, Calls Try.prog 41 #[.agg #[.int .i64 a, .int .i64 b]] w fun e w' => e = .returned (.tuple #[.int .i64 (diffV a b).1, .int .i64 (diffV a b).2]) ∧ Ext w w') := fun w => diffc_any a b w h1 h2
  generalize (diffV a b).1 = x at *
  generalize (diffV a b).2 = y at *
  have hw : (okW a && okW b) = true := by rw [h1, h2]; rfl
  have hW : Hid (∀ w, Calls Try.prog 57 #[.agg #[.int .i64 a, .int .i64 b]] w fun e w' => e = .returned (.bool true) ∧ Ext w w') := by
    intro w
    have := words_any a b w
    rw [hw] at this
    exact this
  clear h1 h2 hw
  go_enter Try.func39, Try.ntmps39
  go_wp2_with fail
  refine (hW.out _).mono ?_
  rintro e w1 ⟨rfl, x1⟩
  obtain ⟨c0, c1⟩ := x1.cells2
  have X : Hid (Ext w w1) := ((Ext.refl w).alloc _).trans x1
  clear x1 hW
  go_wp2_with fail
  refine (hP.out _).mono ?_
  rintro e w2 ⟨rfl, x2⟩
  go_wp2_with fail
  go_ret2
  exact ⟨rfl, X.out.trans x2⟩

set_option maxHeartbeats 400000 in
theorem sub_form (a b : Int) (w : World) (h : (okW a && okW b) = false) :
    Calls Try.prog 39 #[.agg #[.int .i64 a, .int .i64 b], .func (.func 41) #[] #[]] w fun e w' => e = .returned (.tuple #[.int .i64 0, .int .i64 1]) ∧ Ext w w' := by
  have hW : Hid (∀ w, Calls Try.prog 57 #[.agg #[.int .i64 a, .int .i64 b]] w fun e w' => e = .returned (.bool false) ∧ Ext w w') := by
    intro w
    have := words_any a b w
    rw [h] at this
    exact this
  clear h
  go_enter Try.func39, Try.ntmps39
  go_wp2_with fail
  refine (hW.out _).mono ?_
  rintro e w1 ⟨rfl, x1⟩
  go_wp2_with fail
  go_ret2
  exact ⟨rfl, ((Ext.refl w).alloc _).trans x1⟩

theorem sub_operate (a b : Int) (w : World) :
    Calls Try.prog 39 #[.agg #[.int .i64 a, .int .i64 b], .func (.func 41) #[] #[]] w fun e w' => e = .returned (.tuple #[.int .i64 (subR a b).1, .int .i64 (subR a b).2]) ∧ Ext w w' := by
  unfold subR
  cases h : (okW a && okW b)
  · rw [if_neg (by decide)]
    exact sub_form a b w h
  · rw [if_pos rfl]
    rw [Bool.and_eq_true] at h
    exact sub_op a b w h.1 h.2

set_option maxHeartbeats 400000 in
theorem mul_op (a b : Int) (w : World) (h1 : okW a = true) (h2 : okW b = true) :
    Calls Try.prog 39 #[.agg #[.int .i64 a, .int .i64 b], .func (.func 55) #[] #[]] w fun e w' => e = .returned (.tuple #[.int .i64 (prodV a b).1, .int .i64 (prodV a b).2]) ∧ Ext w w' := by
  have hP : Hid (∀ w, Calls Try.prog 55 #[.agg #[.int .i64 a, .int .i64 b]] w fun e w' => e = .returned (.tuple #[.int .i64 (prodV a b).1, .int .i64 (prodV a b).2]) ∧ Ext w w') := fun w => prodc_any a b w h1 h2
  generalize (prodV a b).1 = x at *
  generalize (prodV a b).2 = y at *
  have hw : (okW a && okW b) = true := by rw [h1, h2]; rfl
  have hW : Hid (∀ w, Calls Try.prog 57 #[.agg #[.int .i64 a, .int .i64 b]] w fun e w' => e = .returned (.bool true) ∧ Ext w w') := by
    intro w
    have := words_any a b w
    rw [hw] at this
    exact this
  clear h1 h2 hw
  go_enter Try.func39, Try.ntmps39
  go_wp2_with fail
  refine (hW.out _).mono ?_
  rintro e w1 ⟨rfl, x1⟩
  obtain ⟨c0, c1⟩ := x1.cells2
  have X : Hid (Ext w w1) := ((Ext.refl w).alloc _).trans x1
  clear x1 hW
  go_wp2_with fail
  refine (hP.out _).mono ?_
  rintro e w2 ⟨rfl, x2⟩
  go_wp2_with fail
  go_ret2
  exact ⟨rfl, X.out.trans x2⟩

set_option maxHeartbeats 400000 in
theorem mul_form (a b : Int) (w : World) (h : (okW a && okW b) = false) :
    Calls Try.prog 39 #[.agg #[.int .i64 a, .int .i64 b], .func (.func 55) #[] #[]] w fun e w' => e = .returned (.tuple #[.int .i64 0, .int .i64 1]) ∧ Ext w w' := by
  have hW : Hid (∀ w, Calls Try.prog 57 #[.agg #[.int .i64 a, .int .i64 b]] w fun e w' => e = .returned (.bool false) ∧ Ext w w') := by
    intro w
    have := words_any a b w
    rw [h] at this
    exact this
  clear h
  go_enter Try.func39, Try.ntmps39
  go_wp2_with fail
  refine (hW.out _).mono ?_
  rintro e w1 ⟨rfl, x1⟩
  go_wp2_with fail
  go_ret2
  exact ⟨rfl, ((Ext.refl w).alloc _).trans x1⟩

theorem mul_operate (a b : Int) (w : World) :
    Calls Try.prog 39 #[.agg #[.int .i64 a, .int .i64 b], .func (.func 55) #[] #[]] w fun e w' => e = .returned (.tuple #[.int .i64 (mulR a b).1, .int .i64 (mulR a b).2]) ∧ Ext w w' := by
  unfold mulR
  cases h : (okW a && okW b)
  · rw [if_neg (by decide)]
    exact mul_form a b w h
  · rw [if_pos rfl]
    rw [Bool.and_eq_true] at h
    exact mul_op a b w h.1 h.2

set_option maxHeartbeats 400000 in
theorem add_any (a b : Int) (w : World) :
    Calls Try.prog 22 #[.int .i64 a, .int .i64 b] w fun e w' => e = .returned (.tuple #[.int .i64 (addR a b).1, .int .i64 (addR a b).2]) ∧ Ext w w' := by
  have hP : Hid (∀ w, Calls Try.prog 39 #[.agg #[.int .i64 a, .int .i64 b], .func (.func 40) #[] #[]] w fun e w' => e = .returned (.tuple #[.int .i64 (addR a b).1, .int .i64 (addR a b).2]) ∧ Ext w w') := fun w => add_operate _ _ w
  generalize (addR a b).1 = x at *
  generalize (addR a b).2 = y at *
  go_enter Try.func22, Try.ntmps22
  go_wp2_with fail
  refine (hP.out _).mono ?_
  rintro e w1 ⟨rfl, x1⟩
  go_wp2_with fail
  go_ret2
  exact ⟨rfl, x1⟩

set_option maxHeartbeats 400000 in
theorem sub_any (a b : Int) (w : World) :
    Calls Try.prog 23 #[.int .i64 a, .int .i64 b] w fun e w' => e = .returned (.tuple #[.int .i64 (subR a b).1, .int .i64 (subR a b).2]) ∧ Ext w w' := by
  have hP : Hid (∀ w, Calls Try.prog 39 #[.agg #[.int .i64 a, .int .i64 b], .func (.func 41) #[] #[]] w fun e w' => e = .returned (.tuple #[.int .i64 (subR a b).1, .int .i64 (subR a b).2]) ∧ Ext w w') := fun w => sub_operate _ _ w
  generalize (subR a b).1 = x at *
  generalize (subR a b).2 = y at *
  go_enter Try.func23, Try.ntmps23
  go_wp2_with fail
  refine (hP.out _).mono ?_
  rintro e w1 ⟨rfl, x1⟩
  go_wp2_with fail
  go_ret2
  exact ⟨rfl, x1⟩

set_option maxHeartbeats 400000 in
theorem mul_any (a b : Int) (w : World) :
    Calls Try.prog 34 #[.int .i64 a, .int .i64 b] w fun e w' => e = .returned (.tuple #[.int .i64 (mulR a b).1, .int .i64 (mulR a b).2]) ∧ Ext w w' := by
  have hP : Hid (∀ w, Calls Try.prog 39 #[.agg #[.int .i64 a, .int .i64 b], .func (.func 55) #[] #[]] w fun e w' => e = .returned (.tuple #[.int .i64 (mulR a b).1, .int .i64 (mulR a b).2]) ∧ Ext w w') := fun w => mul_operate _ _ w
  generalize (mulR a b).1 = x at *
  generalize (mulR a b).2 = y at *
  go_enter Try.func34, Try.ntmps34
  go_wp2_with fail
  refine (hP.out _).mono ?_
  rintro e w1 ⟨rfl, x1⟩
  go_wp2_with fail
  go_ret2
  exact ⟨rfl, x1⟩

end Go.Proofs.Ytbmodfhnenlmgaa
