/- VecExact. -/
import Derived.Test.YtfmalpnlencmbaaGreatMv2
import Derived.Test.YtfmalpnlencmbaaGreatMv0
import Derived.Test.YtfmalpnlencmbaaGreatMv1
import Derived.Test.YtfmalpnlencmbaaGreatR3cm
import Derived.Test.YtfmalpnlencmbaaGreatV9m
import Derived.Test.YtfmalpnlencmbaaGreatMv3
import Derived.Test.YtfmalpnlencmbaaGreatMg0
import Derived.Deep.Cut
import Derived.Deep.DeepCutAuto
namespace Go.Proofs.YtfmalpnlencmbaaGreat
open Go.RowKit Go.Shelf
theorem cross0 (a0 a1 a2 b1 b2 : Int) : rowQ 0 b2 (-b1) a0 a1 a2 = nearQ (a1 * b2 - a2 * b1) := by
  unfold rowQ dot3; congr 1; rw [Int.zero_mul, Int.zero_add, Int.neg_mul, Int.mul_comm b2, Int.mul_comm b1]; omega
theorem cross1 (a0 a1 a2 b0 b2 : Int) : rowQ (-b2) 0 b0 a0 a1 a2 = nearQ (a2 * b0 - a0 * b2) := by
  unfold rowQ dot3; congr 1; rw [Int.zero_mul, Int.add_zero, Int.neg_mul, Int.mul_comm b2, Int.mul_comm b0]; omega
theorem cross2 (a0 a1 a2 b0 b1 : Int) : rowQ b1 (-b0) 0 a0 a1 a2 = nearQ (a0 * b1 - a1 * b0) := by
  unfold rowQ dot3; congr 1; rw [Int.zero_mul, Int.add_zero, Int.neg_mul, Int.mul_comm b1, Int.mul_comm b0]; omega
/-- the code of the matrix behind j of its words -/
def mcd (o : Int) (z : Nat → Int) : Nat → Int
  | 0 => o
  | j + 1 => if okW (z (7 + j)) then mcd o z j else 1
theorem mcd_two {o : Int} {z : Nat → Int} (h : o = 0 ∨ o = 1) (j : Nat) : mcd o z j = 0 ∨ mcd o z j = 1 := by
  induction j with
  | zero => exact h
  | succ j ih => unfold mcd; split; exact ih; exact .inr rfl
def alln (z : Nat → Int) : Nat → Bool
  | 0 => true
  | j + 1 => okW (z (7 + j)) && alln z j
theorem mcd_all (o : Int) (z : Nat → Int) (j : Nat) : mcd o z j = if alln z j = true then o else 1 := by
  induction j with
  | zero => rfl
  | succ j ih =>
    unfold mcd alln
    cases okW (z (7 + j))
    · rfl
    · rw [if_pos rfl, ih, Bool.true_and]
theorem mcd_nine (o : Int) (z : Nat → Int) : mcd o z 9 = if (ok3 (z 7) (z 8) (z 9) && (ok3 (z 10) (z 11) (z 12) && ok3 (z 13) (z 14) (z 15))) = true then o else 1 := by
  have e : alln z 9 = (ok3 (z 7) (z 8) (z 9) && (ok3 (z 10) (z 11) (z 12) && ok3 (z 13) (z 14) (z 15))) := by
    simp only [alln, ok3, Nat.reduceAdd]
    cases okW (z 7) <;> cases okW (z 8) <;> cases okW (z 9) <;> cases okW (z 10) <;> cases okW (z 11) <;> cases okW (z 12) <;> cases okW (z 13) <;> cases okW (z 14) <;> cases okW (z 15) <;> rfl
  rw [mcd_all, e]
theorem add_both (a0 a1 a2 b0 b1 b2 : Int) : ∃ x0 x1 x2 er : Int, (∀ w, Calls Tryz.prog 15 #[.agg #[.int .i64 a0, .int .i64 a1, .int .i64 a2], .agg #[.int .i64 b0, .int .i64 b1, .int .i64 b2]] w fun e w' => e = .returned (.tuple #[.agg #[.int .i64 x0, .int .i64 x1, .int .i64 x2], .int .i64 er]) ∧ Ext w w') ∧ (∀ w, Calls Tryz.prog 18 #[.agg #[.int .i64 x0, .int .i64 x1, .int .i64 x2], .int .i64 er, .agg #[.int .i64 x0, .int .i64 x1, .int .i64 x2], .int .i64 er] w fun e w' => e = .returned (.bool true) ∧ Ext w w') ∧ ((ok3 a0 a1 a2 && ok3 b0 b1 b2) = true ∧ (∀ w, Calls Tryz.prog 8 #[.agg #[.int .i64 a0, .int .i64 a1, .int .i64 a2], .agg #[.int .i64 b0, .int .i64 b1, .int .i64 b2]] w fun e w' => e = .returned (.tuple #[.agg #[.int .i64 x0, .int .i64 x1, .int .i64 x2], .int .i64 er]) ∧ Ext w w') ∨ (ok3 a0 a1 a2 && ok3 b0 b1 b2) = false ∧ (x0 = 0 ∧ x1 = 0 ∧ x2 = 0 ∧ er = 1)) := by
  cases h : (ok3 a0 a1 a2 && ok3 b0 b1 b2)
  · exact ⟨0, 0, 0, 1, fun w => vAdd_no a0 a1 a2 b0 b1 b2 w h, fun w => is3_any 0 0 0 1 w (.inr ⟨rfl, rfl, rfl, by decide⟩), .inr ⟨rfl, rfl, rfl, rfl, rfl⟩⟩
  · obtain ⟨g1, g2⟩ := Bool.and_eq_true_iff.1 h
    obtain ⟨x, y, q, e, hr, hq⟩ := vres_is (a0 + b0) (a1 + b1) (a2 + b2)
    have h1 := fun w => vAdd_yes a0 a1 a2 b0 b1 b2 w g1 g2
    have h2 := fun w => radd_any a0 a1 a2 b0 b1 b2 w g1 g2
    rw [hr] at h1 h2
    exact ⟨x, y, q, e, h1, fun w => is3_any x y q e w hq, .inl ⟨rfl, h2⟩⟩
theorem sub_both (a0 a1 a2 b0 b1 b2 : Int) : ∃ x0 x1 x2 er : Int, (∀ w, Calls Tryz.prog 19 #[.agg #[.int .i64 a0, .int .i64 a1, .int .i64 a2], .agg #[.int .i64 b0, .int .i64 b1, .int .i64 b2]] w fun e w' => e = .returned (.tuple #[.agg #[.int .i64 x0, .int .i64 x1, .int .i64 x2], .int .i64 er]) ∧ Ext w w') ∧ (∀ w, Calls Tryz.prog 18 #[.agg #[.int .i64 x0, .int .i64 x1, .int .i64 x2], .int .i64 er, .agg #[.int .i64 x0, .int .i64 x1, .int .i64 x2], .int .i64 er] w fun e w' => e = .returned (.bool true) ∧ Ext w w') ∧ ((ok3 a0 a1 a2 && ok3 b0 b1 b2) = true ∧ (∀ w, Calls Tryz.prog 9 #[.agg #[.int .i64 a0, .int .i64 a1, .int .i64 a2], .agg #[.int .i64 b0, .int .i64 b1, .int .i64 b2]] w fun e w' => e = .returned (.tuple #[.agg #[.int .i64 x0, .int .i64 x1, .int .i64 x2], .int .i64 er]) ∧ Ext w w') ∨ (ok3 a0 a1 a2 && ok3 b0 b1 b2) = false ∧ (x0 = 0 ∧ x1 = 0 ∧ x2 = 0 ∧ er = 1)) := by
  cases h : (ok3 a0 a1 a2 && ok3 b0 b1 b2)
  · exact ⟨0, 0, 0, 1, fun w => vSub_no a0 a1 a2 b0 b1 b2 w h, fun w => is3_any 0 0 0 1 w (.inr ⟨rfl, rfl, rfl, by decide⟩), .inr ⟨rfl, rfl, rfl, rfl, rfl⟩⟩
  · obtain ⟨g1, g2⟩ := Bool.and_eq_true_iff.1 h
    obtain ⟨x, y, q, e, hr, hq⟩ := vres_is (a0 - b0) (a1 - b1) (a2 - b2)
    have h1 := fun w => vSub_yes a0 a1 a2 b0 b1 b2 w g1 g2
    have h2 := fun w => rsub_any a0 a1 a2 b0 b1 b2 w g1 g2
    rw [hr] at h1 h2
    exact ⟨x, y, q, e, h1, fun w => is3_any x y q e w hq, .inl ⟨rfl, h2⟩⟩
theorem cross_both (a0 a1 a2 b0 b1 b2 : Int) (c1 : -9223372036854775808 ≤ b0 ∧ b0 ≤ 9223372036854775807) (c2 : -9223372036854775808 ≤ b1 ∧ b1 ≤ 9223372036854775807) (c3 : -9223372036854775808 ≤ b2 ∧ b2 ≤ 9223372036854775807) : ∃ x0 x1 x2 er : Int, (∀ w, Calls Tryz.prog 20 #[.agg #[.int .i64 a0, .int .i64 a1, .int .i64 a2], .agg #[.int .i64 b0, .int .i64 b1, .int .i64 b2]] w fun e w' => e = .returned (.tuple #[.agg #[.int .i64 x0, .int .i64 x1, .int .i64 x2], .int .i64 er]) ∧ Ext w w') ∧ (∀ w, Calls Tryz.prog 18 #[.agg #[.int .i64 x0, .int .i64 x1, .int .i64 x2], .int .i64 er, .agg #[.int .i64 x0, .int .i64 x1, .int .i64 x2], .int .i64 er] w fun e w' => e = .returned (.bool true) ∧ Ext w w') ∧ ((ok3 a0 a1 a2 && ok3 b0 b1 b2) = true ∧ (∀ w, Calls Tryz.prog 10 #[.agg #[.int .i64 a0, .int .i64 a1, .int .i64 a2], .agg #[.int .i64 b0, .int .i64 b1, .int .i64 b2]] w fun e w' => e = .returned (.tuple #[.agg #[.int .i64 x0, .int .i64 x1, .int .i64 x2], .int .i64 er]) ∧ Ext w w') ∨ (ok3 a0 a1 a2 && ok3 b0 b1 b2) = false ∧ (x0 = 0 ∧ x1 = 0 ∧ x2 = 0 ∧ er = 1)) := by
  cases h : (ok3 a0 a1 a2 && ok3 b0 b1 b2)
  · exact ⟨0, 0, 0, 1, fun w => vCross_no a0 a1 a2 b0 b1 b2 w h c1 c2 c3, fun w => is3_any 0 0 0 1 w (.inr ⟨rfl, rfl, rfl, by decide⟩), .inr ⟨rfl, rfl, rfl, rfl, rfl⟩⟩
  · obtain ⟨g1, g2⟩ := Bool.and_eq_true_iff.1 h
    have r0 := fun w => vCross_yes a0 a1 a2 b0 b1 b2 w g1 g2
    rw [cross0, cross1, cross2] at r0
    obtain ⟨x, y, q, e, hr, hq⟩ := vres_is (nearQ (a1 * b2 - a2 * b1)) (nearQ (a2 * b0 - a0 * b2)) (nearQ (a0 * b1 - a1 * b0))
    have h1 := fun w => r0 w
    have h2 := fun w => rcross_any a0 a1 a2 b0 b1 b2 w g1 g2
    rw [hr] at h1 h2
    exact ⟨x, y, q, e, h1, fun w => is3_any x y q e w hq, .inl ⟨rfl, h2⟩⟩
theorem scale_both (a0 a1 a2 k : Int) : ∃ x0 x1 x2 er : Int, (∀ w, Calls Tryz.prog 21 #[.agg #[.int .i64 a0, .int .i64 a1, .int .i64 a2], .int .i64 k] w fun e w' => e = .returned (.tuple #[.agg #[.int .i64 x0, .int .i64 x1, .int .i64 x2], .int .i64 er]) ∧ Ext w w') ∧ (∀ w, Calls Tryz.prog 18 #[.agg #[.int .i64 x0, .int .i64 x1, .int .i64 x2], .int .i64 er, .agg #[.int .i64 x0, .int .i64 x1, .int .i64 x2], .int .i64 er] w fun e w' => e = .returned (.bool true) ∧ Ext w w') ∧ ((ok3 a0 a1 a2 && okW k) = true ∧ (∀ w, Calls Tryz.prog 11 #[.agg #[.int .i64 a0, .int .i64 a1, .int .i64 a2], .int .i64 k] w fun e w' => e = .returned (.tuple #[.agg #[.int .i64 x0, .int .i64 x1, .int .i64 x2], .int .i64 er]) ∧ Ext w w') ∨ (ok3 a0 a1 a2 && okW k) = false ∧ (x0 = 0 ∧ x1 = 0 ∧ x2 = 0 ∧ er = 1)) := by
  cases h : (ok3 a0 a1 a2 && okW k)
  · exact ⟨0, 0, 0, 1, fun w => vScale_no a0 a1 a2 k w h, fun w => is3_any 0 0 0 1 w (.inr ⟨rfl, rfl, rfl, by decide⟩), .inr ⟨rfl, rfl, rfl, rfl, rfl⟩⟩
  · obtain ⟨g1, g2⟩ := Bool.and_eq_true_iff.1 h
    obtain ⟨x, y, q, e, hr, hq⟩ := vres_is (nearQ (a0 * k)) (nearQ (a1 * k)) (nearQ (a2 * k))
    have h1 := fun w => vScale_yes a0 a1 a2 k w g1 g2
    have h2 := fun w => rscale_any a0 a1 a2 k w g1 g2
    rw [hr] at h1 h2
    exact ⟨x, y, q, e, h1, fun w => is3_any x y q e w hq, .inl ⟨rfl, h2⟩⟩
theorem apply_both (m0 m1 m2 m3 m4 m5 m6 m7 m8 a0 a1 a2 : Int) : ∃ x0 x1 x2 er : Int, (∀ w, Calls Tryz.prog 24 #[.agg #[.int .i64 m0, .int .i64 m1, .int .i64 m2, .int .i64 m3, .int .i64 m4, .int .i64 m5, .int .i64 m6, .int .i64 m7, .int .i64 m8], .agg #[.int .i64 a0, .int .i64 a1, .int .i64 a2]] w fun e w' => e = .returned (.tuple #[.agg #[.int .i64 x0, .int .i64 x1, .int .i64 x2], .int .i64 er]) ∧ Ext w w') ∧ (∀ w, Calls Tryz.prog 18 #[.agg #[.int .i64 x0, .int .i64 x1, .int .i64 x2], .int .i64 er, .agg #[.int .i64 x0, .int .i64 x1, .int .i64 x2], .int .i64 er] w fun e w' => e = .returned (.bool true) ∧ Ext w w') ∧ ((ok3 m0 m1 m2 && (ok3 m3 m4 m5 && (ok3 m6 m7 m8 && ok3 a0 a1 a2))) = true ∧ (∀ w, Calls Tryz.prog 14 #[.agg #[.int .i64 m0, .int .i64 m1, .int .i64 m2, .int .i64 m3, .int .i64 m4, .int .i64 m5, .int .i64 m6, .int .i64 m7, .int .i64 m8], .agg #[.int .i64 a0, .int .i64 a1, .int .i64 a2]] w fun e w' => e = .returned (.tuple #[.agg #[.int .i64 x0, .int .i64 x1, .int .i64 x2], .int .i64 er]) ∧ Ext w w') ∨ (ok3 m0 m1 m2 && (ok3 m3 m4 m5 && (ok3 m6 m7 m8 && ok3 a0 a1 a2))) = false ∧ (x0 = 0 ∧ x1 = 0 ∧ x2 = 0 ∧ er = 1)) := by
  cases h : (ok3 m0 m1 m2 && (ok3 m3 m4 m5 && (ok3 m6 m7 m8 && ok3 a0 a1 a2)))
  · exact ⟨0, 0, 0, 1, fun w => vApply_no m0 m1 m2 m3 m4 m5 m6 m7 m8 a0 a1 a2 w h, fun w => is3_any 0 0 0 1 w (.inr ⟨rfl, rfl, rfl, by decide⟩), .inr ⟨rfl, rfl, rfl, rfl, rfl⟩⟩
  · obtain ⟨g1, h'⟩ := Bool.and_eq_true_iff.1 h
    obtain ⟨g2, h'⟩ := Bool.and_eq_true_iff.1 h'
    obtain ⟨g3, g4⟩ := Bool.and_eq_true_iff.1 h'
    obtain ⟨x, y, q, e, hr, hq⟩ := vres_is (rowQ m0 m1 m2 a0 a1 a2) (rowQ m3 m4 m5 a0 a1 a2) (rowQ m6 m7 m8 a0 a1 a2)
    have h1 := fun w => vApply_yes m0 m1 m2 m3 m4 m5 m6 m7 m8 a0 a1 a2 w g1 g2 g3 g4
    have h2 := fun w => rapply_any m0 m1 m2 m3 m4 m5 m6 m7 m8 a0 a1 a2 w g1 g2 g3 g4
    rw [hr] at h1 h2
    exact ⟨x, y, q, e, h1, fun w => is3_any x y q e w hq, .inl ⟨rfl, h2⟩⟩
theorem unit_both (a0 a1 a2 : Int) : ∃ x0 x1 x2 er : Int, (∀ w, Calls Tryz.prog 22 #[.agg #[.int .i64 a0, .int .i64 a1, .int .i64 a2]] w fun e w' => e = .returned (.tuple #[.agg #[.int .i64 x0, .int .i64 x1, .int .i64 x2], .int .i64 er]) ∧ Ext w w') ∧ (∀ w, Calls Tryz.prog 18 #[.agg #[.int .i64 x0, .int .i64 x1, .int .i64 x2], .int .i64 er, .agg #[.int .i64 x0, .int .i64 x1, .int .i64 x2], .int .i64 er] w fun e w' => e = .returned (.bool true) ∧ Ext w w') ∧ (ok3 a0 a1 a2 = true ∧ (∀ w, Calls Tryz.prog 12 #[.agg #[.int .i64 a0, .int .i64 a1, .int .i64 a2]] w fun e w' => e = .returned (.tuple #[.agg #[.int .i64 x0, .int .i64 x1, .int .i64 x2], .int .i64 er]) ∧ Ext w w') ∨ ok3 a0 a1 a2 = false ∧ (x0 = 0 ∧ x1 = 0 ∧ x2 = 0 ∧ er = 1)) := by
  cases h : ok3 a0 a1 a2
  · exact ⟨0, 0, 0, 1, fun w => vUnit_no a0 a1 a2 w h, fun w => is3_any 0 0 0 1 w (.inr ⟨rfl, rfl, rfl, by decide⟩), .inr ⟨rfl, rfl, rfl, rfl, rfl⟩⟩
  · by_cases hz : a0 = 0 ∧ a1 = 0 ∧ a2 = 0
    · obtain ⟨rfl, rfl, rfl⟩ := hz
      exact ⟨0, 0, 0, 3, fun w => vUnit_zero w, fun w => is3_any 0 0 0 3 w (.inr ⟨rfl, rfl, rfl, by decide⟩), .inl ⟨rfl, fun w => runit_zero w⟩⟩
    · have n0 := sq3_zero a0 a1 a2 hz
      obtain ⟨k0, h0⟩ := rootQ_exists (a0.natAbs * a0.natAbs * 1152921504606846976) (sq3 a0 a1 a2) n0
      obtain ⟨k1, h1⟩ := rootQ_exists (a1.natAbs * a1.natAbs * 1152921504606846976) (sq3 a0 a1 a2) n0
      obtain ⟨k2, h2⟩ := rootQ_exists (a2.natAbs * a2.natAbs * 1152921504606846976) (sq3 a0 a1 a2) n0
      have U := fun w => vUnit_yes a0 a1 a2 k0 k1 k2 w h hz h0 h1 h2
      have R := fun w => runit_any a0 a1 a2 k0 k1 k2 w h hz h0 h1 h2
      obtain ⟨x, y, z, er, hr, hq⟩ := vres_is (sgd a0 k0) (sgd a1 k1) (sgd a2 k2)
      rw [hr] at U R
      exact ⟨x, y, z, er, U, fun w => is3_any x y z er w hq, .inl ⟨rfl, R⟩⟩
theorem neg_both (a0 a1 a2 : Int) : ∃ x0 x1 x2 er : Int, (∀ w, Calls Tryz.prog 23 #[.agg #[.int .i64 a0, .int .i64 a1, .int .i64 a2]] w fun e w' => e = .returned (.tuple #[.agg #[.int .i64 x0, .int .i64 x1, .int .i64 x2], .int .i64 er]) ∧ Ext w w') ∧ (∀ w, Calls Tryz.prog 18 #[.agg #[.int .i64 x0, .int .i64 x1, .int .i64 x2], .int .i64 er, .agg #[.int .i64 x0, .int .i64 x1, .int .i64 x2], .int .i64 er] w fun e w' => e = .returned (.bool true) ∧ Ext w w') ∧ (ok3 a0 a1 a2 = true ∧ er = 0 ∧ (∀ w, Calls Tryz.prog 13 #[.agg #[.int .i64 a0, .int .i64 a1, .int .i64 a2]] w fun e w' => e = .returned (.agg #[.int .i64 x0, .int .i64 x1, .int .i64 x2]) ∧ Ext w w') ∨ ok3 a0 a1 a2 = false ∧ (x0 = 0 ∧ x1 = 0 ∧ x2 = 0 ∧ er = 1)) := by
  cases h : ok3 a0 a1 a2
  · exact ⟨0, 0, 0, 1, fun w => vNeg_no a0 a1 a2 w h, fun w => is3_any 0 0 0 1 w (.inr ⟨rfl, rfl, rfl, by decide⟩), .inr ⟨rfl, rfl, rfl, rfl, rfl⟩⟩
  · have H := fun w => vNeg_yes a0 a1 a2 w h
    unfold vres at H
    rw [Int.zero_sub, Int.zero_sub, Int.zero_sub, if_pos (ok3_negs h)] at H
    exact ⟨-a0, -a1, -a2, 0, H, fun w => is3_any _ _ _ 0 w (.inl rfl), .inl ⟨rfl, rfl, fun w => rneg_any a0 a1 a2 w h⟩⟩
set_option maxHeartbeats 2000000 in
/-- all that is told of one entry -/
theorem vex_told (z : Nat → Int) (c1 : -9223372036854775808 ≤ z 3 ∧ z 3 ≤ 9223372036854775807) (c2 : -9223372036854775808 ≤ z 4 ∧ z 4 ≤ 9223372036854775807) (c3 : -9223372036854775808 ≤ z 5 ∧ z 5 ≤ 9223372036854775807) : ∃ (bA bB bK : Bool) (o1 o2 o3 om ea eb ec es eu em A0 A1 A2 B0 B1 B2 C0 C1 C2 S0 S1 S2 U0 U1 U2 N0 N1 N2 M0 M1 M2 : Int), (∀ w, Calls Tryz.prog 6 #[.agg #[.int .i64 (z 0), .int .i64 (z 1), .int .i64 (z 2)]] w fun e w' => e = .returned (.bool bA) ∧ Ext w w') ∧ (bA = true ∧ o1 = 0 ∨ bA = false ∧ o1 = 1) ∧ (∀ w, Calls Tryz.prog 6 #[.agg #[.int .i64 (z 3), .int .i64 (z 4), .int .i64 (z 5)]] w fun e w' => e = .returned (.bool bB) ∧ Ext w w') ∧ (bB = true ∧ o2 = o1 ∨ bB = false ∧ o2 = 1) ∧ (∀ w, Calls Tryz.prog 7 #[.int .i64 (z 6)] w fun e w' => e = .returned (.bool bK) ∧ w' = w) ∧ (bK = true ∧ o3 = o1 ∨ bK = false ∧ o3 = 1) ∧ mcd o1 z 9 = om ∧ (∀ w, Calls Tryz.prog 17 #[.agg #[.int .i64 (z 0), .int .i64 (z 1), .int .i64 (z 2)]] w fun e w' => e = .returned (.int .i64 o1) ∧ Ext w w') ∧ (∀ w, Calls Tryz.prog 15 #[.agg #[.int .i64 (z 0), .int .i64 (z 1), .int .i64 (z 2)], .agg #[.int .i64 (z 3), .int .i64 (z 4), .int .i64 (z 5)]] w fun e w' => e = .returned (.tuple #[.agg #[.int .i64 A0, .int .i64 A1, .int .i64 A2], .int .i64 ea]) ∧ Ext w w') ∧ (∀ w, Calls Tryz.prog 18 #[.agg #[.int .i64 A0, .int .i64 A1, .int .i64 A2], .int .i64 ea, .agg #[.int .i64 A0, .int .i64 A1, .int .i64 A2], .int .i64 ea] w fun e w' => e = .returned (.bool true) ∧ Ext w w') ∧ (∀ w, Calls Tryz.prog 19 #[.agg #[.int .i64 (z 0), .int .i64 (z 1), .int .i64 (z 2)], .agg #[.int .i64 (z 3), .int .i64 (z 4), .int .i64 (z 5)]] w fun e w' => e = .returned (.tuple #[.agg #[.int .i64 B0, .int .i64 B1, .int .i64 B2], .int .i64 eb]) ∧ Ext w w') ∧ (∀ w, Calls Tryz.prog 18 #[.agg #[.int .i64 B0, .int .i64 B1, .int .i64 B2], .int .i64 eb, .agg #[.int .i64 B0, .int .i64 B1, .int .i64 B2], .int .i64 eb] w fun e w' => e = .returned (.bool true) ∧ Ext w w') ∧ (∀ w, Calls Tryz.prog 20 #[.agg #[.int .i64 (z 0), .int .i64 (z 1), .int .i64 (z 2)], .agg #[.int .i64 (z 3), .int .i64 (z 4), .int .i64 (z 5)]] w fun e w' => e = .returned (.tuple #[.agg #[.int .i64 C0, .int .i64 C1, .int .i64 C2], .int .i64 ec]) ∧ Ext w w') ∧ (∀ w, Calls Tryz.prog 18 #[.agg #[.int .i64 C0, .int .i64 C1, .int .i64 C2], .int .i64 ec, .agg #[.int .i64 C0, .int .i64 C1, .int .i64 C2], .int .i64 ec] w fun e w' => e = .returned (.bool true) ∧ Ext w w') ∧ (∀ w, Calls Tryz.prog 21 #[.agg #[.int .i64 (z 0), .int .i64 (z 1), .int .i64 (z 2)], .int .i64 (z 6)] w fun e w' => e = .returned (.tuple #[.agg #[.int .i64 S0, .int .i64 S1, .int .i64 S2], .int .i64 es]) ∧ Ext w w') ∧ (∀ w, Calls Tryz.prog 18 #[.agg #[.int .i64 S0, .int .i64 S1, .int .i64 S2], .int .i64 es, .agg #[.int .i64 S0, .int .i64 S1, .int .i64 S2], .int .i64 es] w fun e w' => e = .returned (.bool true) ∧ Ext w w') ∧ (∀ w, Calls Tryz.prog 22 #[.agg #[.int .i64 (z 0), .int .i64 (z 1), .int .i64 (z 2)]] w fun e w' => e = .returned (.tuple #[.agg #[.int .i64 U0, .int .i64 U1, .int .i64 U2], .int .i64 eu]) ∧ Ext w w') ∧ (∀ w, Calls Tryz.prog 18 #[.agg #[.int .i64 U0, .int .i64 U1, .int .i64 U2], .int .i64 eu, .agg #[.int .i64 U0, .int .i64 U1, .int .i64 U2], .int .i64 eu] w fun e w' => e = .returned (.bool true) ∧ Ext w w') ∧ (∀ w, Calls Tryz.prog 23 #[.agg #[.int .i64 (z 0), .int .i64 (z 1), .int .i64 (z 2)]] w fun e w' => e = .returned (.tuple #[.agg #[.int .i64 N0, .int .i64 N1, .int .i64 N2], .int .i64 o1]) ∧ Ext w w') ∧ (∀ w, Calls Tryz.prog 18 #[.agg #[.int .i64 N0, .int .i64 N1, .int .i64 N2], .int .i64 o1, .agg #[.int .i64 N0, .int .i64 N1, .int .i64 N2], .int .i64 o1] w fun e w' => e = .returned (.bool true) ∧ Ext w w') ∧ (∀ w, Calls Tryz.prog 24 #[.agg #[.int .i64 (z 7), .int .i64 (z 8), .int .i64 (z 9), .int .i64 (z 10), .int .i64 (z 11), .int .i64 (z 12), .int .i64 (z 13), .int .i64 (z 14), .int .i64 (z 15)], .agg #[.int .i64 (z 0), .int .i64 (z 1), .int .i64 (z 2)]] w fun e w' => e = .returned (.tuple #[.agg #[.int .i64 M0, .int .i64 M1, .int .i64 M2], .int .i64 em]) ∧ Ext w w') ∧ (∀ w, Calls Tryz.prog 18 #[.agg #[.int .i64 M0, .int .i64 M1, .int .i64 M2], .int .i64 em, .agg #[.int .i64 M0, .int .i64 M1, .int .i64 M2], .int .i64 em] w fun e w' => e = .returned (.bool true) ∧ Ext w w') ∧ (o2 = 0 ∧ (∀ w, Calls Tryz.prog 8 #[.agg #[.int .i64 (z 0), .int .i64 (z 1), .int .i64 (z 2)], .agg #[.int .i64 (z 3), .int .i64 (z 4), .int .i64 (z 5)]] w fun e w' => e = .returned (.tuple #[.agg #[.int .i64 A0, .int .i64 A1, .int .i64 A2], .int .i64 ea]) ∧ Ext w w') ∧ (∀ w, Calls Tryz.prog 9 #[.agg #[.int .i64 (z 0), .int .i64 (z 1), .int .i64 (z 2)], .agg #[.int .i64 (z 3), .int .i64 (z 4), .int .i64 (z 5)]] w fun e w' => e = .returned (.tuple #[.agg #[.int .i64 B0, .int .i64 B1, .int .i64 B2], .int .i64 eb]) ∧ Ext w w') ∧ (∀ w, Calls Tryz.prog 10 #[.agg #[.int .i64 (z 0), .int .i64 (z 1), .int .i64 (z 2)], .agg #[.int .i64 (z 3), .int .i64 (z 4), .int .i64 (z 5)]] w fun e w' => e = .returned (.tuple #[.agg #[.int .i64 C0, .int .i64 C1, .int .i64 C2], .int .i64 ec]) ∧ Ext w w') ∨ o2 = 1 ∧ (A0 = 0 ∧ A1 = 0 ∧ A2 = 0 ∧ ea = 1) ∧ (B0 = 0 ∧ B1 = 0 ∧ B2 = 0 ∧ eb = 1) ∧ (C0 = 0 ∧ C1 = 0 ∧ C2 = 0 ∧ ec = 1)) ∧ (o3 = 0 ∧ (∀ w, Calls Tryz.prog 11 #[.agg #[.int .i64 (z 0), .int .i64 (z 1), .int .i64 (z 2)], .int .i64 (z 6)] w fun e w' => e = .returned (.tuple #[.agg #[.int .i64 S0, .int .i64 S1, .int .i64 S2], .int .i64 es]) ∧ Ext w w') ∨ o3 = 1 ∧ (S0 = 0 ∧ S1 = 0 ∧ S2 = 0 ∧ es = 1)) ∧ (o1 = 0 ∧ (∀ w, Calls Tryz.prog 12 #[.agg #[.int .i64 (z 0), .int .i64 (z 1), .int .i64 (z 2)]] w fun e w' => e = .returned (.tuple #[.agg #[.int .i64 U0, .int .i64 U1, .int .i64 U2], .int .i64 eu]) ∧ Ext w w') ∧ (∀ w, Calls Tryz.prog 13 #[.agg #[.int .i64 (z 0), .int .i64 (z 1), .int .i64 (z 2)]] w fun e w' => e = .returned (.agg #[.int .i64 N0, .int .i64 N1, .int .i64 N2]) ∧ Ext w w') ∨ o1 = 1 ∧ (U0 = 0 ∧ U1 = 0 ∧ U2 = 0 ∧ eu = 1) ∧ N0 = 0 ∧ N1 = 0 ∧ N2 = 0) ∧ (om = 0 ∧ (∀ w, Calls Tryz.prog 14 #[.agg #[.int .i64 (z 7), .int .i64 (z 8), .int .i64 (z 9), .int .i64 (z 10), .int .i64 (z 11), .int .i64 (z 12), .int .i64 (z 13), .int .i64 (z 14), .int .i64 (z 15)], .agg #[.int .i64 (z 0), .int .i64 (z 1), .int .i64 (z 2)]] w fun e w' => e = .returned (.tuple #[.agg #[.int .i64 M0, .int .i64 M1, .int .i64 M2], .int .i64 em]) ∧ Ext w w') ∨ om = 1 ∧ (M0 = 0 ∧ M1 = 0 ∧ M2 = 0 ∧ em = 1)) := by
  obtain ⟨A0, A1, A2, ea, PA, IA, RA⟩ := add_both (z 0) (z 1) (z 2) (z 3) (z 4) (z 5)
  obtain ⟨B0, B1, B2, eb, PB, IB, RB⟩ := sub_both (z 0) (z 1) (z 2) (z 3) (z 4) (z 5)
  obtain ⟨C0, C1, C2, ec, PC, IC, RC⟩ := cross_both (z 0) (z 1) (z 2) (z 3) (z 4) (z 5) c1 c2 c3
  obtain ⟨S0, S1, S2, es, PS, IS, RS⟩ := scale_both (z 0) (z 1) (z 2) (z 6)
  obtain ⟨U0, U1, U2, eu, PU, IU, RU⟩ := unit_both (z 0) (z 1) (z 2)
  obtain ⟨N0, N1, N2, o1, PN, IN, RN⟩ := neg_both (z 0) (z 1) (z 2)
  obtain ⟨M0, M1, M2, em, PM, IM, RM⟩ := apply_both (z 7) (z 8) (z 9) (z 10) (z 11) (z 12) (z 13) (z 14) (z 15) (z 0) (z 1) (z 2)
  have HA := fun w => mayv_any (z 0) (z 1) (z 2) w
  have HB := fun w => mayv_any (z 3) (z 4) (z 5) w
  have HC := fun w => vCheck_any (z 0) (z 1) (z 2) w
  have HM := mcd_nine o1 z
  obtain ⟨om, hom⟩ : ∃ om : Int, mcd o1 z 9 = om := ⟨_, rfl⟩
  rw [hom] at HM
  unfold chk3 at HC
  have HK := fun w => may_any (z 6) w
  cases gA : ok3 (z 0) (z 1) (z 2)
  · rw [gA] at HC RA RB RC RS RU RN RM
    simp only [Bool.false_and, Bool.and_false, Bool.false_eq_true, false_and, true_and, false_or, if_false] at RA RB RC RS RU RN RM HC
    obtain ⟨rn0, rn1, rn2, rfl⟩ := RN
    obtain rfl : om = 1 := by rw [HM]; split <;> rfl
    refine ⟨ok3 (z 0) (z 1) (z 2), ok3 (z 3) (z 4) (z 5), okW (z 6), 1, 1, 1, 1, ea, eb, ec, es, eu, em, A0, A1, A2, B0, B1, B2, C0, C1, C2, S0, S1, S2, U0, U1, U2, N0, N1, N2, M0, M1, M2, HA, .inr ⟨gA, rfl⟩, HB, ?_, HK, ?_, hom, HC, PA, IA, PB, IB, PC, IC, PS, IS, PU, IU, PN, IN, PM, IM, .inr ⟨rfl, RA, RB, RC⟩, .inr ⟨rfl, RS⟩, .inr ⟨rfl, RU, rn0, rn1, rn2⟩, .inr ⟨rfl, RM⟩⟩
    · cases ok3 (z 3) (z 4) (z 5); exact .inr ⟨rfl, rfl⟩; exact .inl ⟨rfl, rfl⟩
    · cases okW (z 6); exact .inr ⟨rfl, rfl⟩; exact .inl ⟨rfl, rfl⟩
  · rw [gA] at HC RA RB RC RS RU RN
    simp only [Bool.true_and, Bool.true_eq_false, false_and, true_and, or_false, if_true] at RA RB RC RS RU RN HC
    obtain ⟨rfl, RN⟩ := RN
    obtain ⟨o3, M3, R3⟩ : ∃ o3 : Int, (okW (z 6) = true ∧ o3 = 0 ∨ okW (z 6) = false ∧ o3 = 1) ∧ (o3 = 0 ∧ (∀ w, Calls Tryz.prog 11 #[.agg #[.int .i64 (z 0), .int .i64 (z 1), .int .i64 (z 2)], .int .i64 (z 6)] w fun e w' => e = .returned (.tuple #[.agg #[.int .i64 S0, .int .i64 S1, .int .i64 S2], .int .i64 es]) ∧ Ext w w') ∨ o3 = 1 ∧ (S0 = 0 ∧ S1 = 0 ∧ S2 = 0 ∧ es = 1)) := by
      rcases RS with ⟨h, r⟩ | ⟨h, r⟩
      · exact ⟨0, .inl ⟨h, rfl⟩, .inl ⟨rfl, r⟩⟩
      · exact ⟨1, .inr ⟨h, rfl⟩, .inr ⟨rfl, r⟩⟩
    have R4 : (om = 0 ∧ (∀ w, Calls Tryz.prog 14 #[.agg #[.int .i64 (z 7), .int .i64 (z 8), .int .i64 (z 9), .int .i64 (z 10), .int .i64 (z 11), .int .i64 (z 12), .int .i64 (z 13), .int .i64 (z 14), .int .i64 (z 15)], .agg #[.int .i64 (z 0), .int .i64 (z 1), .int .i64 (z 2)]] w fun e w' => e = .returned (.tuple #[.agg #[.int .i64 M0, .int .i64 M1, .int .i64 M2], .int .i64 em]) ∧ Ext w w') ∨ om = 1 ∧ (M0 = 0 ∧ M1 = 0 ∧ M2 = 0 ∧ em = 1)) := by
      rcases RM with ⟨h, r⟩ | ⟨h, r⟩
      · obtain ⟨g1, h'⟩ := Bool.and_eq_true_iff.1 h
        obtain ⟨g2, h'⟩ := Bool.and_eq_true_iff.1 h'
        obtain ⟨g3, g4⟩ := Bool.and_eq_true_iff.1 h'
        exact .inl ⟨by rw [HM, g1, g2, g3]; rfl, r⟩
      · refine .inr ⟨?_, r⟩
        rw [HM, if_neg]
        intro hc
        obtain ⟨g1, h'⟩ := Bool.and_eq_true_iff.1 hc
        obtain ⟨g2, g3⟩ := Bool.and_eq_true_iff.1 h'
        rw [g1, g2, g3, gA] at h
        cases h
    cases gB : ok3 (z 3) (z 4) (z 5)
    · rw [gB] at RA RB RC
      simp only [Bool.false_eq_true, false_and, true_and, false_or] at RA RB RC
      exact ⟨ok3 (z 0) (z 1) (z 2), ok3 (z 3) (z 4) (z 5), okW (z 6), 0, 1, o3, om, ea, eb, ec, es, eu, em, A0, A1, A2, B0, B1, B2, C0, C1, C2, S0, S1, S2, U0, U1, U2, N0, N1, N2, M0, M1, M2, HA, .inl ⟨gA, rfl⟩, HB, .inr ⟨gB, rfl⟩, HK, M3, hom, HC, PA, IA, PB, IB, PC, IC, PS, IS, PU, IU, PN, IN, PM, IM, .inr ⟨rfl, RA, RB, RC⟩, R3, .inl ⟨rfl, RU, RN⟩, R4⟩
    · rw [gB] at RA RB RC
      simp only [Bool.true_eq_false, false_and, true_and, or_false] at RA RB RC
      exact ⟨ok3 (z 0) (z 1) (z 2), ok3 (z 3) (z 4) (z 5), okW (z 6), 0, 0, o3, om, ea, eb, ec, es, eu, em, A0, A1, A2, B0, B1, B2, C0, C1, C2, S0, S1, S2, U0, U1, U2, N0, N1, N2, M0, M1, M2, HA, .inl ⟨gA, rfl⟩, HB, .inl ⟨gB, rfl⟩, HK, M3, hom, HC, PA, IA, PB, IB, PC, IC, PS, IS, PU, IU, PN, IN, PM, IM, .inl ⟨rfl, RA, RB, RC⟩, R3, .inl ⟨rfl, RU, RN⟩, R4⟩
set_option maxRecDepth 20000 in
set_option maxHeartbeats 40000000 in
theorem vecs_any (b off len cap : Nat) (Z : Nat → Nat → Int) (w : World) (hl : len ≤ maxLen) (hc : Twos3 w b off len Z) :
    Calls Tryz.prog 3 #[.slice (some ⟨b, off, none⟩) len cap] w fun e w' => e = .returned (.bool true) ∧ Ext w w' := by
  have hl' : len ≤ 9223372036854775807 := by unfold maxLen at hl; omega
  clear hl
  go_enter Tryz.func3, Tryz.ntmps3
  go_wp2_with fail
  go_loopw [3] (fun i wr => ∃ k : Nat, k ≤ len ∧ i = .int .i64 k ∧ Hid (Ext w wr)) (fun i _ => len - (intOf i).toNat)
  case atStart => exact ⟨0, Nat.zero_le _, rfl, Ext.refl _⟩
  case round =>
    obtain ⟨k, hk, rfl, FX⟩ := hrel
    by_cases hlt : k < len
    · by_cases h5 : k < 20
      · skip
        obtain ⟨c0, n0a, n0b⟩ := (hc.ext FX.out) k hlt 0 (by omega)
        obtain ⟨c1, n1a, n1b⟩ := (hc.ext FX.out) k hlt 1 (by omega)
        obtain ⟨c2, n2a, n2b⟩ := (hc.ext FX.out) k hlt 2 (by omega)
        obtain ⟨c3, n3a, n3b⟩ := (hc.ext FX.out) k hlt 3 (by omega)
        obtain ⟨c4, n4a, n4b⟩ := (hc.ext FX.out) k hlt 4 (by omega)
        obtain ⟨c5, n5a, n5b⟩ := (hc.ext FX.out) k hlt 5 (by omega)
        obtain ⟨c6, n6a, n6b⟩ := (hc.ext FX.out) k hlt 6 (by omega)
        obtain ⟨c7, n7a, n7b⟩ := (hc.ext FX.out) k hlt 7 (by omega)
        obtain ⟨c8, n8a, n8b⟩ := (hc.ext FX.out) k hlt 8 (by omega)
        obtain ⟨c9, n9a, n9b⟩ := (hc.ext FX.out) k hlt 9 (by omega)
        obtain ⟨c10, n10a, n10b⟩ := (hc.ext FX.out) k hlt 10 (by omega)
        obtain ⟨c11, n11a, n11b⟩ := (hc.ext FX.out) k hlt 11 (by omega)
        obtain ⟨c12, n12a, n12b⟩ := (hc.ext FX.out) k hlt 12 (by omega)
        obtain ⟨c13, n13a, n13b⟩ := (hc.ext FX.out) k hlt 13 (by omega)
        obtain ⟨c14, n14a, n14b⟩ := (hc.ext FX.out) k hlt 14 (by omega)
        obtain ⟨c15, n15a, n15b⟩ := (hc.ext FX.out) k hlt 15 (by omega)
        rw [Nat.add_zero] at c0
        have hlt' : (k : Int) < (len : Int) := by omega
        clear hc
        generalize Z k = z at *
        obtain ⟨bA, bB, bK, o1, o2, o3, om, ea, eb, ec, es, eu, em, A0, A1, A2, B0, B1, B2, C0, C1, C2, S0, S1, S2, U0, U1, U2, N0, N1, N2, M0, M1, M2, MA, DA, MB, DB, MK, DK, EM, CK, PA, IA, PB, IB, PC, IC, PS, IS, PU, IU, PN, IN, PM, IM, R2, R3, R1, RM⟩ := vex_told z ⟨n3a, n3b⟩ ⟨n4a, n4b⟩ ⟨n5a, n5b⟩
        clear n0a n0b n1a n1b n2a n2b n3a n3b n4a n4b n5a n5b n6a n6b n7a n7b n8a n8b n9a n9b n10a n10b n11a n11b n12a n12b n13a n13b n14a n14b n15a n15b
        have MA : Hid ((∀ w, Calls Tryz.prog 6 #[.agg #[.int .i64 (z 0), .int .i64 (z 1), .int .i64 (z 2)]] w fun e w' => e = .returned (.bool bA) ∧ Ext w w')) := MA
        have DA : Hid ((bA = true ∧ o1 = 0 ∨ bA = false ∧ o1 = 1)) := DA
        have MB : Hid ((∀ w, Calls Tryz.prog 6 #[.agg #[.int .i64 (z 3), .int .i64 (z 4), .int .i64 (z 5)]] w fun e w' => e = .returned (.bool bB) ∧ Ext w w')) := MB
        have DB : Hid ((bB = true ∧ o2 = o1 ∨ bB = false ∧ o2 = 1)) := DB
        have MK : Hid ((∀ w, Calls Tryz.prog 7 #[.int .i64 (z 6)] w fun e w' => e = .returned (.bool bK) ∧ w' = w)) := MK
        have DK : Hid ((bK = true ∧ o3 = o1 ∨ bK = false ∧ o3 = 1)) := DK
        have EM : Hid (mcd o1 z 9 = om) := EM
        have CK : Hid ((∀ w, Calls Tryz.prog 17 #[.agg #[.int .i64 (z 0), .int .i64 (z 1), .int .i64 (z 2)]] w fun e w' => e = .returned (.int .i64 o1) ∧ Ext w w')) := CK
        have PA : Hid ((∀ w, Calls Tryz.prog 15 #[.agg #[.int .i64 (z 0), .int .i64 (z 1), .int .i64 (z 2)], .agg #[.int .i64 (z 3), .int .i64 (z 4), .int .i64 (z 5)]] w fun e w' => e = .returned (.tuple #[.agg #[.int .i64 A0, .int .i64 A1, .int .i64 A2], .int .i64 ea]) ∧ Ext w w')) := PA
        have IA : Hid ((∀ w, Calls Tryz.prog 18 #[.agg #[.int .i64 A0, .int .i64 A1, .int .i64 A2], .int .i64 ea, .agg #[.int .i64 A0, .int .i64 A1, .int .i64 A2], .int .i64 ea] w fun e w' => e = .returned (.bool true) ∧ Ext w w')) := IA
        have PB : Hid ((∀ w, Calls Tryz.prog 19 #[.agg #[.int .i64 (z 0), .int .i64 (z 1), .int .i64 (z 2)], .agg #[.int .i64 (z 3), .int .i64 (z 4), .int .i64 (z 5)]] w fun e w' => e = .returned (.tuple #[.agg #[.int .i64 B0, .int .i64 B1, .int .i64 B2], .int .i64 eb]) ∧ Ext w w')) := PB
        have IB : Hid ((∀ w, Calls Tryz.prog 18 #[.agg #[.int .i64 B0, .int .i64 B1, .int .i64 B2], .int .i64 eb, .agg #[.int .i64 B0, .int .i64 B1, .int .i64 B2], .int .i64 eb] w fun e w' => e = .returned (.bool true) ∧ Ext w w')) := IB
        have PC : Hid ((∀ w, Calls Tryz.prog 20 #[.agg #[.int .i64 (z 0), .int .i64 (z 1), .int .i64 (z 2)], .agg #[.int .i64 (z 3), .int .i64 (z 4), .int .i64 (z 5)]] w fun e w' => e = .returned (.tuple #[.agg #[.int .i64 C0, .int .i64 C1, .int .i64 C2], .int .i64 ec]) ∧ Ext w w')) := PC
        have IC : Hid ((∀ w, Calls Tryz.prog 18 #[.agg #[.int .i64 C0, .int .i64 C1, .int .i64 C2], .int .i64 ec, .agg #[.int .i64 C0, .int .i64 C1, .int .i64 C2], .int .i64 ec] w fun e w' => e = .returned (.bool true) ∧ Ext w w')) := IC
        have PS : Hid ((∀ w, Calls Tryz.prog 21 #[.agg #[.int .i64 (z 0), .int .i64 (z 1), .int .i64 (z 2)], .int .i64 (z 6)] w fun e w' => e = .returned (.tuple #[.agg #[.int .i64 S0, .int .i64 S1, .int .i64 S2], .int .i64 es]) ∧ Ext w w')) := PS
        have IS : Hid ((∀ w, Calls Tryz.prog 18 #[.agg #[.int .i64 S0, .int .i64 S1, .int .i64 S2], .int .i64 es, .agg #[.int .i64 S0, .int .i64 S1, .int .i64 S2], .int .i64 es] w fun e w' => e = .returned (.bool true) ∧ Ext w w')) := IS
        have PU : Hid ((∀ w, Calls Tryz.prog 22 #[.agg #[.int .i64 (z 0), .int .i64 (z 1), .int .i64 (z 2)]] w fun e w' => e = .returned (.tuple #[.agg #[.int .i64 U0, .int .i64 U1, .int .i64 U2], .int .i64 eu]) ∧ Ext w w')) := PU
        have IU : Hid ((∀ w, Calls Tryz.prog 18 #[.agg #[.int .i64 U0, .int .i64 U1, .int .i64 U2], .int .i64 eu, .agg #[.int .i64 U0, .int .i64 U1, .int .i64 U2], .int .i64 eu] w fun e w' => e = .returned (.bool true) ∧ Ext w w')) := IU
        have PN : Hid ((∀ w, Calls Tryz.prog 23 #[.agg #[.int .i64 (z 0), .int .i64 (z 1), .int .i64 (z 2)]] w fun e w' => e = .returned (.tuple #[.agg #[.int .i64 N0, .int .i64 N1, .int .i64 N2], .int .i64 o1]) ∧ Ext w w')) := PN
        have IN : Hid ((∀ w, Calls Tryz.prog 18 #[.agg #[.int .i64 N0, .int .i64 N1, .int .i64 N2], .int .i64 o1, .agg #[.int .i64 N0, .int .i64 N1, .int .i64 N2], .int .i64 o1] w fun e w' => e = .returned (.bool true) ∧ Ext w w')) := IN
        have PM : Hid ((∀ w, Calls Tryz.prog 24 #[.agg #[.int .i64 (z 7), .int .i64 (z 8), .int .i64 (z 9), .int .i64 (z 10), .int .i64 (z 11), .int .i64 (z 12), .int .i64 (z 13), .int .i64 (z 14), .int .i64 (z 15)], .agg #[.int .i64 (z 0), .int .i64 (z 1), .int .i64 (z 2)]] w fun e w' => e = .returned (.tuple #[.agg #[.int .i64 M0, .int .i64 M1, .int .i64 M2], .int .i64 em]) ∧ Ext w w')) := PM
        have IM : Hid ((∀ w, Calls Tryz.prog 18 #[.agg #[.int .i64 M0, .int .i64 M1, .int .i64 M2], .int .i64 em, .agg #[.int .i64 M0, .int .i64 M1, .int .i64 M2], .int .i64 em] w fun e w' => e = .returned (.bool true) ∧ Ext w w')) := IM
        have R2 : Hid ((o2 = 0 ∧ (∀ w, Calls Tryz.prog 8 #[.agg #[.int .i64 (z 0), .int .i64 (z 1), .int .i64 (z 2)], .agg #[.int .i64 (z 3), .int .i64 (z 4), .int .i64 (z 5)]] w fun e w' => e = .returned (.tuple #[.agg #[.int .i64 A0, .int .i64 A1, .int .i64 A2], .int .i64 ea]) ∧ Ext w w') ∧ (∀ w, Calls Tryz.prog 9 #[.agg #[.int .i64 (z 0), .int .i64 (z 1), .int .i64 (z 2)], .agg #[.int .i64 (z 3), .int .i64 (z 4), .int .i64 (z 5)]] w fun e w' => e = .returned (.tuple #[.agg #[.int .i64 B0, .int .i64 B1, .int .i64 B2], .int .i64 eb]) ∧ Ext w w') ∧ (∀ w, Calls Tryz.prog 10 #[.agg #[.int .i64 (z 0), .int .i64 (z 1), .int .i64 (z 2)], .agg #[.int .i64 (z 3), .int .i64 (z 4), .int .i64 (z 5)]] w fun e w' => e = .returned (.tuple #[.agg #[.int .i64 C0, .int .i64 C1, .int .i64 C2], .int .i64 ec]) ∧ Ext w w') ∨ o2 = 1 ∧ (A0 = 0 ∧ A1 = 0 ∧ A2 = 0 ∧ ea = 1) ∧ (B0 = 0 ∧ B1 = 0 ∧ B2 = 0 ∧ eb = 1) ∧ (C0 = 0 ∧ C1 = 0 ∧ C2 = 0 ∧ ec = 1))) := R2
        have R3 : Hid ((o3 = 0 ∧ (∀ w, Calls Tryz.prog 11 #[.agg #[.int .i64 (z 0), .int .i64 (z 1), .int .i64 (z 2)], .int .i64 (z 6)] w fun e w' => e = .returned (.tuple #[.agg #[.int .i64 S0, .int .i64 S1, .int .i64 S2], .int .i64 es]) ∧ Ext w w') ∨ o3 = 1 ∧ (S0 = 0 ∧ S1 = 0 ∧ S2 = 0 ∧ es = 1))) := R3
        have R1 : Hid ((o1 = 0 ∧ (∀ w, Calls Tryz.prog 12 #[.agg #[.int .i64 (z 0), .int .i64 (z 1), .int .i64 (z 2)]] w fun e w' => e = .returned (.tuple #[.agg #[.int .i64 U0, .int .i64 U1, .int .i64 U2], .int .i64 eu]) ∧ Ext w w') ∧ (∀ w, Calls Tryz.prog 13 #[.agg #[.int .i64 (z 0), .int .i64 (z 1), .int .i64 (z 2)]] w fun e w' => e = .returned (.agg #[.int .i64 N0, .int .i64 N1, .int .i64 N2]) ∧ Ext w w') ∨ o1 = 1 ∧ (U0 = 0 ∧ U1 = 0 ∧ U2 = 0 ∧ eu = 1) ∧ N0 = 0 ∧ N1 = 0 ∧ N2 = 0)) := R1
        have RM : Hid ((om = 0 ∧ (∀ w, Calls Tryz.prog 14 #[.agg #[.int .i64 (z 7), .int .i64 (z 8), .int .i64 (z 9), .int .i64 (z 10), .int .i64 (z 11), .int .i64 (z 12), .int .i64 (z 13), .int .i64 (z 14), .int .i64 (z 15)], .agg #[.int .i64 (z 0), .int .i64 (z 1), .int .i64 (z 2)]] w fun e w' => e = .returned (.tuple #[.agg #[.int .i64 M0, .int .i64 M1, .int .i64 M2], .int .i64 em]) ∧ Ext w w') ∨ om = 1 ∧ (M0 = 0 ∧ M1 = 0 ∧ M2 = 0 ∧ em = 1))) := RM
        go_upto_region 5 with fail
        clear c0 c1 c2 c3 c4 c5 c6 c7 c8 c9 c10 c11 c12 c13 c14 c15
        have Lp : Hid (w.heap.size ≤ wr.heap.size) := FX.out.size
        have Fp : Hid (HV (wr.alloc (.cells #[.int .i64 (z 0), .int .i64 (z 1), .int .i64 (z 2), .int .i64 (z 3), .int .i64 (z 4), .int .i64 (z 5), .int .i64 (z 6), .int .i64 (z 7), .int .i64 (z 8), .int .i64 (z 9), .int .i64 (z 10), .int .i64 (z 11), .int .i64 (z 12), .int .i64 (z 13), .int .i64 (z 14), .int .i64 (z 15)] 27)) wr.heap.size [.int .i64 (z 0), .int .i64 (z 1), .int .i64 (z 2), .int .i64 (z 3), .int .i64 (z 4), .int .i64 (z 5), .int .i64 (z 6), .int .i64 (z 7), .int .i64 (z 8), .int .i64 (z 9), .int .i64 (z 10), .int .i64 (z 11), .int .i64 (z 12), .int .i64 (z 13), .int .i64 (z 14), .int .i64 (z 15)]) := hv_at rfl
        have FX : Hid (Ext w (wr.alloc (.cells #[.int .i64 (z 0), .int .i64 (z 1), .int .i64 (z 2), .int .i64 (z 3), .int .i64 (z 4), .int .i64 (z 5), .int .i64 (z 6), .int .i64 (z 7), .int .i64 (z 8), .int .i64 (z 9), .int .i64 (z 10), .int .i64 (z 11), .int .i64 (z 12), .int .i64 (z 13), .int .i64 (z 14), .int .i64 (z 15)] 27))) := FX.out.alloc _
        generalize (wr.alloc (.cells #[.int .i64 (z 0), .int .i64 (z 1), .int .i64 (z 2), .int .i64 (z 3), .int .i64 (z 4), .int .i64 (z 5), .int .i64 (z 6), .int .i64 (z 7), .int .i64 (z 8), .int .i64 (z 9), .int .i64 (z 10), .int .i64 (z 11), .int .i64 (z 12), .int .i64 (z 13), .int .i64 (z 14), .int .i64 (z 15)] 27)) = wx1 at *
        generalize wr.heap.size = np at *
        have qp0 : wx1.cell? ⟨np, 0, none⟩ = some (.int .i64 (z 0)) := Fp.out.c 0 rfl
        have qp1 : wx1.cell? ⟨np, 1, none⟩ = some (.int .i64 (z 1)) := Fp.out.c 1 rfl
        have qp2 : wx1.cell? ⟨np, 2, none⟩ = some (.int .i64 (z 2)) := Fp.out.c 2 rfl
        go_upto_if 40 with (go_at_call 6; refine (MA.out _).mono ?_; rintro e wm40 ⟨rfl, xm⟩)
        have Fp : Hid (HV wm40 np [.int .i64 (z 0), .int .i64 (z 1), .int .i64 (z 2), .int .i64 (z 3), .int .i64 (z 4), .int .i64 (z 5), .int .i64 (z 6), .int .i64 (z 7), .int .i64 (z 8), .int .i64 (z 9), .int .i64 (z 10), .int .i64 (z 11), .int .i64 (z 12), .int .i64 (z 13), .int .i64 (z 14), .int .i64 (z 15)]) := Fp.out.ext xm
        have FX : Hid (Ext w wm40) := FX.out.trans xm
        clear xm qp0 qp1 qp2 MA
        go_cut [5] from 23 to 224 (fun v5 wx => v5 = .int .i64 o1 ∧ Hid (Ext wm40 wx))
        case first =>
          as_aux_lemma =>
            clear MB DB MK DK EM CK PA IA PB IB PC IC PS IS PU IU PN IN PM IM R2 R3 R1 RM
            rcases DA.out with ⟨rfl, rfl⟩ | ⟨rfl, rfl⟩
            · clear DA
              go_wp2_with fail
              go_meet
              exact ⟨rfl, Ext.refl _⟩
            · clear DA
              go_wp2_with fail
              go_meet
              exact ⟨rfl, Ext.refl _⟩
        case rest =>
          as_aux_lemma =>
            obtain ⟨rfl, hx⟩ := hcut
            have hx := hx.out
            have Fp : Hid (HV wc np [.int .i64 (z 0), .int .i64 (z 1), .int .i64 (z 2), .int .i64 (z 3), .int .i64 (z 4), .int .i64 (z 5), .int .i64 (z 6), .int .i64 (z 7), .int .i64 (z 8), .int .i64 (z 9), .int .i64 (z 10), .int .i64 (z 11), .int .i64 (z 12), .int .i64 (z 13), .int .i64 (z 14), .int .i64 (z 15)]) := Fp.out.ext hx
            have FX : Hid (Ext w wc) := FX.out.trans hx
            clear hx DA
            generalize wc = wx2 at *
            have qp3 : wx2.cell? ⟨np, 3, none⟩ = some (.int .i64 (z 3)) := Fp.out.c 3 rfl
            have qp4 : wx2.cell? ⟨np, 4, none⟩ = some (.int .i64 (z 4)) := Fp.out.c 4 rfl
            have qp5 : wx2.cell? ⟨np, 5, none⟩ = some (.int .i64 (z 5)) := Fp.out.c 5 rfl
            go_upto_if 45 with (go_at_call 6; refine (MB.out _).mono ?_; rintro e wm45 ⟨rfl, xm⟩)
            have Fp : Hid (HV wm45 np [.int .i64 (z 0), .int .i64 (z 1), .int .i64 (z 2), .int .i64 (z 3), .int .i64 (z 4), .int .i64 (z 5), .int .i64 (z 6), .int .i64 (z 7), .int .i64 (z 8), .int .i64 (z 9), .int .i64 (z 10), .int .i64 (z 11), .int .i64 (z 12), .int .i64 (z 13), .int .i64 (z 14), .int .i64 (z 15)]) := Fp.out.ext xm
            have FX : Hid (Ext w wm45) := FX.out.trans xm
            clear xm qp3 qp4 qp5 MB
            go_cut [6] from 23 to 224 (fun v6 wx => v6 = .int .i64 o2 ∧ Hid (Ext wm45 wx))
            case first =>
              as_aux_lemma =>
                clear MK DK EM CK PA IA PB IB PC IC PS IS PU IU PN IN PM IM R2 R3 R1 RM
                rcases DB.out with ⟨rfl, rfl⟩ | ⟨rfl, rfl⟩
                · clear DB
                  go_wp2_with fail
                  go_meet
                  exact ⟨rfl, Ext.refl _⟩
                · clear DB
                  go_wp2_with fail
                  go_meet
                  exact ⟨rfl, Ext.refl _⟩
            case rest =>
              as_aux_lemma =>
                obtain ⟨rfl, hx⟩ := hcut
                have hx := hx.out
                have Fp : Hid (HV wc np [.int .i64 (z 0), .int .i64 (z 1), .int .i64 (z 2), .int .i64 (z 3), .int .i64 (z 4), .int .i64 (z 5), .int .i64 (z 6), .int .i64 (z 7), .int .i64 (z 8), .int .i64 (z 9), .int .i64 (z 10), .int .i64 (z 11), .int .i64 (z 12), .int .i64 (z 13), .int .i64 (z 14), .int .i64 (z 15)]) := Fp.out.ext hx
                have FX : Hid (Ext w wc) := FX.out.trans hx
                clear hx DB
                generalize wc = wx3 at *
                have qp6 : wx3.cell? ⟨np, 6, none⟩ = some (.int .i64 (z 6)) := Fp.out.c 6 rfl
                go_upto_if 55 with (go_at_call 7; refine (MK.out _).mono ?_; rintro e wx ⟨rfl, hwx⟩; have hwy := hwx.symm; clear hwx; subst hwy)
                clear qp6 MK
                go_cut [10] from 23 to 224 (fun v10 wx => v10 = .int .i64 o3 ∧ Hid (Ext wx3 wx))
                case first =>
                  as_aux_lemma =>
                    clear EM CK PA IA PB IB PC IC PS IS PU IU PN IN PM IM R2 R3 R1 RM
                    rcases DK.out with ⟨rfl, rfl⟩ | ⟨rfl, rfl⟩
                    · clear DK
                      go_wp2_with fail
                      go_meet
                      exact ⟨rfl, Ext.refl _⟩
                    · clear DK
                      go_wp2_with fail
                      go_meet
                      exact ⟨rfl, Ext.refl _⟩
                case rest =>
                  as_aux_lemma =>
                    obtain ⟨rfl, hx⟩ := hcut
                    have hx := hx.out
                    have Fp : Hid (HV wc np [.int .i64 (z 0), .int .i64 (z 1), .int .i64 (z 2), .int .i64 (z 3), .int .i64 (z 4), .int .i64 (z 5), .int .i64 (z 6), .int .i64 (z 7), .int .i64 (z 8), .int .i64 (z 9), .int .i64 (z 10), .int .i64 (z 11), .int .i64 (z 12), .int .i64 (z 13), .int .i64 (z 14), .int .i64 (z 15)]) := Fp.out.ext hx
                    have FX : Hid (Ext w wc) := FX.out.trans hx
                    clear hx DK
                    generalize wc = wx4 at *
                    have HMM : Hid (∀ j, j < 9 → wx4.cell? ⟨np, 7 + j, none⟩ = some (.int .i64 (z (7 + j)))) := by
                      intro j hj
                      have hj' : j = 0 ∨ j = 1 ∨ j = 2 ∨ j = 3 ∨ j = 4 ∨ j = 5 ∨ j = 6 ∨ j = 7 ∨ j = 8 := by omega
                      rcases hj' with rfl | rfl | rfl | rfl | rfl | rfl | rfl | rfl | rfl
                      · exact Fp.out.c 7 rfl
                      · exact Fp.out.c 8 rfl
                      · exact Fp.out.c 9 rfl
                      · exact Fp.out.c 10 rfl
                      · exact Fp.out.c 11 rfl
                      · exact Fp.out.c 12 rfl
                      · exact Fp.out.c 13 rfl
                      · exact Fp.out.c 14 rfl
                      · exact Fp.out.c 15 rfl
                    go_wp2_with fail
                    go_loop [12, 13] (fun m j => ∃ n : Nat, n ≤ 9 ∧ j = .int .i64 (n : Int) ∧ m = .int .i64 (mcd o1 z n)) (fun _ j => 9 - (intOf j).toNat)
                    case atStart => exact ⟨0, by omega, rfl, rfl⟩
                    case round =>
                      obtain ⟨j, hj, rfl, rfl⟩ := hrel
                      by_cases hj9 : j < 9
                      · have hcell := HMM.out j hj9
                        have hj9' : (j : Int) < 9 := by omega
                        clear EM CK PA IA PB IB PC IC PS IS PU IU PN IN PM IM R2 R3 R1 RM HMM
                        cases hz : okW (z (7 + j))
                        · have hs : Hid (mcd o1 z (j + 1) = 1) := by show (if okW (z (7 + j)) then mcd o1 z j else 1) = _; rw [hz]; rfl
                          have H : Hid (∀ w, Calls Tryz.prog 7 #[.int .i64 (z (7 + j))] w fun e w' => e = .returned (.bool false) ∧ w' = w) := fun w => by have H := may_any (z (7 + j)) w; rw [hz] at H; exact H
                          clear hz
                          go_wp2_with (go_at_call 7; refine (H.out _).mono ?_; rintro e wx ⟨rfl, hwx⟩; have hwy := hwx.symm; clear hwx; subst hwy)
                          go_round
                          case rel => exact ⟨j + 1, by omega, by go_num, congrArg (Value.int .i64) hs.out.symm⟩
                          case measure => simp [intOf]; omega
                        · have hs : Hid (mcd o1 z (j + 1) = mcd o1 z j) := by show (if okW (z (7 + j)) then mcd o1 z j else 1) = _; rw [hz]; rfl
                          have H : Hid (∀ w, Calls Tryz.prog 7 #[.int .i64 (z (7 + j))] w fun e w' => e = .returned (.bool true) ∧ w' = w) := fun w => by have H := may_any (z (7 + j)) w; rw [hz] at H; exact H
                          clear hz
                          go_wp2_with (go_at_call 7; refine (H.out _).mono ?_; rintro e wx ⟨rfl, hwx⟩; have hwy := hwx.symm; clear hwx; subst hwy)
                          go_round
                          case rel => exact ⟨j + 1, by omega, by go_num, congrArg (Value.int .i64) hs.out.symm⟩
                          case measure => simp [intOf]; omega
                      · obtain rfl : j = 9 := by omega
                        rw [EM.out]
                        clear HMM EM
                        go_upto_region 19 with fail
                        go_cut [14, 15, 16, 17, 18, 19, 20] from 23 to 224 (fun v14 v15 v16 v17 v18 v19 v20 wx => ∃ n14 n15 n16 n17 n18 n19 n20 : Nat, v14 = .pointer (some ⟨n14, 0, none⟩) ∧ v15 = .pointer (some ⟨n15, 0, none⟩) ∧ v16 = .pointer (some ⟨n16, 0, none⟩) ∧ v17 = .pointer (some ⟨n17, 0, none⟩) ∧ v18 = .pointer (some ⟨n18, 0, none⟩) ∧ v19 = .pointer (some ⟨n19, 0, none⟩) ∧ v20 = .pointer (some ⟨n20, 0, none⟩) ∧ Hid (wx4.heap.size ≤ n14 ∧ n14 < n15 ∧ n15 < n16 ∧ n16 < n17 ∧ n17 < n18 ∧ n18 < n19 ∧ n19 < n20) ∧ Hid (HV wx n14 [.int .i64 0, .int .i64 0, .int .i64 0]) ∧ Hid (HV wx n15 [.int .i64 0, .int .i64 0, .int .i64 0]) ∧ Hid (HV wx n16 [.int .i64 0, .int .i64 0, .int .i64 0]) ∧ Hid (HV wx n17 [.int .i64 0, .int .i64 0, .int .i64 0]) ∧ Hid (HV wx n18 [.int .i64 0, .int .i64 0, .int .i64 0]) ∧ Hid (HV wx n19 [.int .i64 0, .int .i64 0, .int .i64 0]) ∧ Hid (HV wx n20 [.int .i64 0, .int .i64 0, .int .i64 0]) ∧ Hid (Ext wx4 wx))
                        case first =>
                          as_aux_lemma =>
                            clear CK PA IA PB IB PC IC PS IS PU IU PN IN PM IM R2 R3 R1 RM
                            go_wp2_with fail
                            go_meet
                            exact ⟨wx4.heap.size, wx4.heap.size + 1, wx4.heap.size + 2, wx4.heap.size + 3, wx4.heap.size + 4, wx4.heap.size + 5, wx4.heap.size + 6, rfl, (by first | with_reducible rfl | simp [go_sem]), (by first | with_reducible rfl | simp [go_sem]), (by first | with_reducible rfl | simp [go_sem]), (by first | with_reducible rfl | simp [go_sem]), (by first | with_reducible rfl | simp [go_sem]), (by first | with_reducible rfl | simp [go_sem]), (by show _ ∧ _; omega), (HV.alloc (HV.alloc (HV.alloc (HV.alloc (HV.alloc (HV.alloc (hv_at rfl) _) _) _) _) _) _), (HV.alloc (HV.alloc (HV.alloc (HV.alloc (HV.alloc (hv_at (by simp [go_sem])) _) _) _) _) _), (HV.alloc (HV.alloc (HV.alloc (HV.alloc (hv_at (by simp [go_sem])) _) _) _) _), (HV.alloc (HV.alloc (HV.alloc (hv_at (by simp [go_sem])) _) _) _), (HV.alloc (HV.alloc (hv_at (by simp [go_sem])) _) _), (HV.alloc (hv_at (by simp [go_sem])) _), (hv_at (by simp [go_sem])), ((((((((Ext.refl _).alloc _).alloc _).alloc _).alloc _).alloc _).alloc _).alloc _)⟩
                        case rest =>
                          as_aux_lemma =>
                            obtain ⟨n14, n15, n16, n17, n18, n19, n20, rfl, rfl, rfl, rfl, rfl, rfl, rfl, hord, FA, FB, FC, FSz, FU, FM, FN, hx⟩ := hcut
                            have hx := hx.out
                            obtain ⟨l14, l15, l16, l17, l18, l19, l20⟩ := hord.out
                            clear hord
                            have ltpA : np < n14 := Nat.lt_of_lt_of_le Fp.out.1 l14
                            have LA : Hid (w.heap.size ≤ n14) := Nat.le_trans FX.out.size l14
                            have LB : Hid (w.heap.size ≤ n15) := Nat.le_trans LA.out (Nat.le_of_lt l15)
                            have LC : Hid (w.heap.size ≤ n16) := Nat.le_trans LB.out (Nat.le_of_lt l16)
                            have LS : Hid (w.heap.size ≤ n17) := Nat.le_trans LC.out (Nat.le_of_lt l17)
                            have LU : Hid (w.heap.size ≤ n18) := Nat.le_trans LS.out (Nat.le_of_lt l18)
                            have LM : Hid (w.heap.size ≤ n19) := Nat.le_trans LU.out (Nat.le_of_lt l19)
                            have LN : Hid (w.heap.size ≤ n20) := Nat.le_trans LM.out (Nat.le_of_lt l20)
                            clear l14
                            have Fp : Hid (HV wc np [.int .i64 (z 0), .int .i64 (z 1), .int .i64 (z 2), .int .i64 (z 3), .int .i64 (z 4), .int .i64 (z 5), .int .i64 (z 6), .int .i64 (z 7), .int .i64 (z 8), .int .i64 (z 9), .int .i64 (z 10), .int .i64 (z 11), .int .i64 (z 12), .int .i64 (z 13), .int .i64 (z 14), .int .i64 (z 15)]) := Fp.out.ext hx
                            have FX : Hid (Ext w wc) := FX.out.trans hx
                            clear hx
                            generalize wc = wx5 at *
                            go_upto_if 67 with fail
                            go_cut [7, 8, 9] from 23 to 224 (fun v7 v8 v9 wx => v7 = .int .i64 ea ∧ v8 = .int .i64 eb ∧ v9 = .int .i64 ec ∧ Hid (HV wx np [.int .i64 (z 0), .int .i64 (z 1), .int .i64 (z 2), .int .i64 (z 3), .int .i64 (z 4), .int .i64 (z 5), .int .i64 (z 6), .int .i64 (z 7), .int .i64 (z 8), .int .i64 (z 9), .int .i64 (z 10), .int .i64 (z 11), .int .i64 (z 12), .int .i64 (z 13), .int .i64 (z 14), .int .i64 (z 15)]) ∧ Hid (HV wx n14 [.int .i64 A0, .int .i64 A1, .int .i64 A2]) ∧ Hid (HV wx n15 [.int .i64 B0, .int .i64 B1, .int .i64 B2]) ∧ Hid (HV wx n16 [.int .i64 C0, .int .i64 C1, .int .i64 C2]) ∧ Hid (HV wx n17 [.int .i64 0, .int .i64 0, .int .i64 0]) ∧ Hid (HV wx n18 [.int .i64 0, .int .i64 0, .int .i64 0]) ∧ Hid (HV wx n19 [.int .i64 0, .int .i64 0, .int .i64 0]) ∧ Hid (HV wx n20 [.int .i64 0, .int .i64 0, .int .i64 0]) ∧ Hid (Ext w wx))
                            case first =>
                              as_aux_lemma =>
                                clear CK PA IA PB IB PC IC PS IS PU IU PN IN PM IM R3 R1 RM
                                rcases R2.out with ⟨rfl, HA, HB, HC⟩ | ⟨rfl, ⟨rfl, rfl, rfl, rfl⟩, ⟨rfl, rfl, rfl, rfl⟩, ⟨rfl, rfl, rfl, rfl⟩⟩
                                · clear R2
                                  have HA : Hid (∀ w, Calls Tryz.prog 8 #[.agg #[.int .i64 (z 0), .int .i64 (z 1), .int .i64 (z 2)], .agg #[.int .i64 (z 3), .int .i64 (z 4), .int .i64 (z 5)]] w fun e w' => e = .returned (.tuple #[.agg #[.int .i64 A0, .int .i64 A1, .int .i64 A2], .int .i64 ea]) ∧ Ext w w') := HA
                                  have HB : Hid (∀ w, Calls Tryz.prog 9 #[.agg #[.int .i64 (z 0), .int .i64 (z 1), .int .i64 (z 2)], .agg #[.int .i64 (z 3), .int .i64 (z 4), .int .i64 (z 5)]] w fun e w' => e = .returned (.tuple #[.agg #[.int .i64 B0, .int .i64 B1, .int .i64 B2], .int .i64 eb]) ∧ Ext w w') := HB
                                  have HC : Hid (∀ w, Calls Tryz.prog 10 #[.agg #[.int .i64 (z 0), .int .i64 (z 1), .int .i64 (z 2)], .agg #[.int .i64 (z 3), .int .i64 (z 4), .int .i64 (z 5)]] w fun e w' => e = .returned (.tuple #[.agg #[.int .i64 C0, .int .i64 C1, .int .i64 C2], .int .i64 ec]) ∧ Ext w w') := HC
                                  have qp0 : wx5.cell? ⟨np, 0, none⟩ = some (.int .i64 (z 0)) := Fp.out.c 0 rfl
                                  have qp1 : wx5.cell? ⟨np, 1, none⟩ = some (.int .i64 (z 1)) := Fp.out.c 1 rfl
                                  have qp2 : wx5.cell? ⟨np, 2, none⟩ = some (.int .i64 (z 2)) := Fp.out.c 2 rfl
                                  have qp3 : wx5.cell? ⟨np, 3, none⟩ = some (.int .i64 (z 3)) := Fp.out.c 3 rfl
                                  have qp4 : wx5.cell? ⟨np, 4, none⟩ = some (.int .i64 (z 4)) := Fp.out.c 4 rfl
                                  have qp5 : wx5.cell? ⟨np, 5, none⟩ = some (.int .i64 (z 5)) := Fp.out.c 5 rfl
                                  have qA0 : wx5.cell? ⟨n14, 0, none⟩ = some (.int .i64 0) := FA.out.c 0 rfl
                                  have zA0 : wx5.frozen? ⟨n14, 0, none⟩ = false := FA.out.f 0 rfl
                                  have qA1 : wx5.cell? ⟨n14, 1, none⟩ = some (.int .i64 0) := FA.out.c 1 rfl
                                  have zA1 : wx5.frozen? ⟨n14, 1, none⟩ = false := FA.out.f 1 rfl
                                  have qA2 : wx5.cell? ⟨n14, 2, none⟩ = some (.int .i64 0) := FA.out.c 2 rfl
                                  have zA2 : wx5.frozen? ⟨n14, 2, none⟩ = false := FA.out.f 2 rfl
                                  go_upto_region 22 with (first | (go_at_call 8; refine (HA.out _).mono ?_; rintro e wk0 ⟨rfl, xk0⟩; have kA0 : wk0.cell? ⟨n14, 0, none⟩ = some (.int .i64 0) := (FA.out.ext xk0).c 0 rfl; have zA0 : wk0.frozen? ⟨n14, 0, none⟩ = false := (FA.out.ext xk0).f 0 rfl; have kA1 : wk0.cell? ⟨n14, 1, none⟩ = some (.int .i64 0) := (FA.out.ext xk0).c 1 rfl; have zA1 : wk0.frozen? ⟨n14, 1, none⟩ = false := (FA.out.ext xk0).f 1 rfl; have kA2 : wk0.cell? ⟨n14, 2, none⟩ = some (.int .i64 0) := (FA.out.ext xk0).c 2 rfl; have zA2 : wk0.frozen? ⟨n14, 2, none⟩ = false := (FA.out.ext xk0).f 2 rfl))
                                  have Fp : Hid (HV wk0 np [.int .i64 (z 0), .int .i64 (z 1), .int .i64 (z 2), .int .i64 (z 3), .int .i64 (z 4), .int .i64 (z 5), .int .i64 (z 6), .int .i64 (z 7), .int .i64 (z 8), .int .i64 (z 9), .int .i64 (z 10), .int .i64 (z 11), .int .i64 (z 12), .int .i64 (z 13), .int .i64 (z 14), .int .i64 (z 15)]) := Fp.out.ext xk0
                                  have FA : Hid (HV wk0 n14 [.int .i64 0, .int .i64 0, .int .i64 0]) := FA.out.ext xk0
                                  have FB : Hid (HV wk0 n15 [.int .i64 0, .int .i64 0, .int .i64 0]) := FB.out.ext xk0
                                  have FC : Hid (HV wk0 n16 [.int .i64 0, .int .i64 0, .int .i64 0]) := FC.out.ext xk0
                                  have FSz : Hid (HV wk0 n17 [.int .i64 0, .int .i64 0, .int .i64 0]) := FSz.out.ext xk0
                                  have FU : Hid (HV wk0 n18 [.int .i64 0, .int .i64 0, .int .i64 0]) := FU.out.ext xk0
                                  have FM : Hid (HV wk0 n19 [.int .i64 0, .int .i64 0, .int .i64 0]) := FM.out.ext xk0
                                  have FN : Hid (HV wk0 n20 [.int .i64 0, .int .i64 0, .int .i64 0]) := FN.out.ext xk0
                                  have FX : Hid (Ext w wk0) := FX.out.trans xk0
                                  clear qp0 qp1 qp2 qp3 qp4 qp5 qA0 qA1 qA2 kA0 kA1 kA2 zA0 zA1 zA2 xk0 HA
                                  have Fp : Hid (HV (((wk0.setCell ⟨n14, 0, none⟩ (.int .i64 A0)).setCell ⟨n14, 1, none⟩ (.int .i64 A1)).setCell ⟨n14, 2, none⟩ (.int .i64 A2)) np [.int .i64 (z 0), .int .i64 (z 1), .int .i64 (z 2), .int .i64 (z 3), .int .i64 (z 4), .int .i64 (z 5), .int .i64 (z 6), .int .i64 (z 7), .int .i64 (z 8), .int .i64 (z 9), .int .i64 (z 10), .int .i64 (z 11), .int .i64 (z 12), .int .i64 (z 13), .int .i64 (z 14), .int .i64 (z 15)]) := (((Fp.out.far (by omega)).far (by omega)).far (by omega))
                                  have FB : Hid (HV (((wk0.setCell ⟨n14, 0, none⟩ (.int .i64 A0)).setCell ⟨n14, 1, none⟩ (.int .i64 A1)).setCell ⟨n14, 2, none⟩ (.int .i64 A2)) n15 [.int .i64 0, .int .i64 0, .int .i64 0]) := (((FB.out.far (by omega)).far (by omega)).far (by omega))
                                  have FC : Hid (HV (((wk0.setCell ⟨n14, 0, none⟩ (.int .i64 A0)).setCell ⟨n14, 1, none⟩ (.int .i64 A1)).setCell ⟨n14, 2, none⟩ (.int .i64 A2)) n16 [.int .i64 0, .int .i64 0, .int .i64 0]) := (((FC.out.far (by omega)).far (by omega)).far (by omega))
                                  have FSz : Hid (HV (((wk0.setCell ⟨n14, 0, none⟩ (.int .i64 A0)).setCell ⟨n14, 1, none⟩ (.int .i64 A1)).setCell ⟨n14, 2, none⟩ (.int .i64 A2)) n17 [.int .i64 0, .int .i64 0, .int .i64 0]) := (((FSz.out.far (by omega)).far (by omega)).far (by omega))
                                  have FU : Hid (HV (((wk0.setCell ⟨n14, 0, none⟩ (.int .i64 A0)).setCell ⟨n14, 1, none⟩ (.int .i64 A1)).setCell ⟨n14, 2, none⟩ (.int .i64 A2)) n18 [.int .i64 0, .int .i64 0, .int .i64 0]) := (((FU.out.far (by omega)).far (by omega)).far (by omega))
                                  have FM : Hid (HV (((wk0.setCell ⟨n14, 0, none⟩ (.int .i64 A0)).setCell ⟨n14, 1, none⟩ (.int .i64 A1)).setCell ⟨n14, 2, none⟩ (.int .i64 A2)) n19 [.int .i64 0, .int .i64 0, .int .i64 0]) := (((FM.out.far (by omega)).far (by omega)).far (by omega))
                                  have FN : Hid (HV (((wk0.setCell ⟨n14, 0, none⟩ (.int .i64 A0)).setCell ⟨n14, 1, none⟩ (.int .i64 A1)).setCell ⟨n14, 2, none⟩ (.int .i64 A2)) n20 [.int .i64 0, .int .i64 0, .int .i64 0]) := (((FN.out.far (by omega)).far (by omega)).far (by omega))
                                  have FA : Hid (HV (((wk0.setCell ⟨n14, 0, none⟩ (.int .i64 A0)).setCell ⟨n14, 1, none⟩ (.int .i64 A1)).setCell ⟨n14, 2, none⟩ (.int .i64 A2)) n14 [.int .i64 A0, .int .i64 A1, .int .i64 A2]) := (((FA.out.set 0 (.int .i64 A0)).set 1 (.int .i64 A1)).set 2 (.int .i64 A2))
                                  have FX : Hid (Ext w (((wk0.setCell ⟨n14, 0, none⟩ (.int .i64 A0)).setCell ⟨n14, 1, none⟩ (.int .i64 A1)).setCell ⟨n14, 2, none⟩ (.int .i64 A2))) := (((FX.out.set (p := ⟨n14, 0, none⟩) LA.out (.int .i64 A0)).set (p := ⟨n14, 1, none⟩) LA.out (.int .i64 A1)).set (p := ⟨n14, 2, none⟩) LA.out (.int .i64 A2))
                                  generalize (((wk0.setCell ⟨n14, 0, none⟩ (.int .i64 A0)).setCell ⟨n14, 1, none⟩ (.int .i64 A1)).setCell ⟨n14, 2, none⟩ (.int .i64 A2)) = wx36 at *
                                  have qp0 : wx36.cell? ⟨np, 0, none⟩ = some (.int .i64 (z 0)) := Fp.out.c 0 rfl
                                  have qp1 : wx36.cell? ⟨np, 1, none⟩ = some (.int .i64 (z 1)) := Fp.out.c 1 rfl
                                  have qp2 : wx36.cell? ⟨np, 2, none⟩ = some (.int .i64 (z 2)) := Fp.out.c 2 rfl
                                  have qp3 : wx36.cell? ⟨np, 3, none⟩ = some (.int .i64 (z 3)) := Fp.out.c 3 rfl
                                  have qp4 : wx36.cell? ⟨np, 4, none⟩ = some (.int .i64 (z 4)) := Fp.out.c 4 rfl
                                  have qp5 : wx36.cell? ⟨np, 5, none⟩ = some (.int .i64 (z 5)) := Fp.out.c 5 rfl
                                  have qB0 : wx36.cell? ⟨n15, 0, none⟩ = some (.int .i64 0) := FB.out.c 0 rfl
                                  have zB0 : wx36.frozen? ⟨n15, 0, none⟩ = false := FB.out.f 0 rfl
                                  have qB1 : wx36.cell? ⟨n15, 1, none⟩ = some (.int .i64 0) := FB.out.c 1 rfl
                                  have zB1 : wx36.frozen? ⟨n15, 1, none⟩ = false := FB.out.f 1 rfl
                                  have qB2 : wx36.cell? ⟨n15, 2, none⟩ = some (.int .i64 0) := FB.out.c 2 rfl
                                  have zB2 : wx36.frozen? ⟨n15, 2, none⟩ = false := FB.out.f 2 rfl
                                  go_upto_region 23 with (first | (go_at_call 9; refine (HB.out _).mono ?_; rintro e wk1 ⟨rfl, xk1⟩; have kB0 : wk1.cell? ⟨n15, 0, none⟩ = some (.int .i64 0) := (FB.out.ext xk1).c 0 rfl; have zB0 : wk1.frozen? ⟨n15, 0, none⟩ = false := (FB.out.ext xk1).f 0 rfl; have kB1 : wk1.cell? ⟨n15, 1, none⟩ = some (.int .i64 0) := (FB.out.ext xk1).c 1 rfl; have zB1 : wk1.frozen? ⟨n15, 1, none⟩ = false := (FB.out.ext xk1).f 1 rfl; have kB2 : wk1.cell? ⟨n15, 2, none⟩ = some (.int .i64 0) := (FB.out.ext xk1).c 2 rfl; have zB2 : wk1.frozen? ⟨n15, 2, none⟩ = false := (FB.out.ext xk1).f 2 rfl))
                                  have Fp : Hid (HV wk1 np [.int .i64 (z 0), .int .i64 (z 1), .int .i64 (z 2), .int .i64 (z 3), .int .i64 (z 4), .int .i64 (z 5), .int .i64 (z 6), .int .i64 (z 7), .int .i64 (z 8), .int .i64 (z 9), .int .i64 (z 10), .int .i64 (z 11), .int .i64 (z 12), .int .i64 (z 13), .int .i64 (z 14), .int .i64 (z 15)]) := Fp.out.ext xk1
                                  have FA : Hid (HV wk1 n14 [.int .i64 A0, .int .i64 A1, .int .i64 A2]) := FA.out.ext xk1
                                  have FB : Hid (HV wk1 n15 [.int .i64 0, .int .i64 0, .int .i64 0]) := FB.out.ext xk1
                                  have FC : Hid (HV wk1 n16 [.int .i64 0, .int .i64 0, .int .i64 0]) := FC.out.ext xk1
                                  have FSz : Hid (HV wk1 n17 [.int .i64 0, .int .i64 0, .int .i64 0]) := FSz.out.ext xk1
                                  have FU : Hid (HV wk1 n18 [.int .i64 0, .int .i64 0, .int .i64 0]) := FU.out.ext xk1
                                  have FM : Hid (HV wk1 n19 [.int .i64 0, .int .i64 0, .int .i64 0]) := FM.out.ext xk1
                                  have FN : Hid (HV wk1 n20 [.int .i64 0, .int .i64 0, .int .i64 0]) := FN.out.ext xk1
                                  have FX : Hid (Ext w wk1) := FX.out.trans xk1
                                  clear qp0 qp1 qp2 qp3 qp4 qp5 qB0 qB1 qB2 kB0 kB1 kB2 zB0 zB1 zB2 xk1 HB
                                  have Fp : Hid (HV (((wk1.setCell ⟨n15, 0, none⟩ (.int .i64 B0)).setCell ⟨n15, 1, none⟩ (.int .i64 B1)).setCell ⟨n15, 2, none⟩ (.int .i64 B2)) np [.int .i64 (z 0), .int .i64 (z 1), .int .i64 (z 2), .int .i64 (z 3), .int .i64 (z 4), .int .i64 (z 5), .int .i64 (z 6), .int .i64 (z 7), .int .i64 (z 8), .int .i64 (z 9), .int .i64 (z 10), .int .i64 (z 11), .int .i64 (z 12), .int .i64 (z 13), .int .i64 (z 14), .int .i64 (z 15)]) := (((Fp.out.far (by omega)).far (by omega)).far (by omega))
                                  have FA : Hid (HV (((wk1.setCell ⟨n15, 0, none⟩ (.int .i64 B0)).setCell ⟨n15, 1, none⟩ (.int .i64 B1)).setCell ⟨n15, 2, none⟩ (.int .i64 B2)) n14 [.int .i64 A0, .int .i64 A1, .int .i64 A2]) := (((FA.out.far (by omega)).far (by omega)).far (by omega))
                                  have FC : Hid (HV (((wk1.setCell ⟨n15, 0, none⟩ (.int .i64 B0)).setCell ⟨n15, 1, none⟩ (.int .i64 B1)).setCell ⟨n15, 2, none⟩ (.int .i64 B2)) n16 [.int .i64 0, .int .i64 0, .int .i64 0]) := (((FC.out.far (by omega)).far (by omega)).far (by omega))
                                  have FSz : Hid (HV (((wk1.setCell ⟨n15, 0, none⟩ (.int .i64 B0)).setCell ⟨n15, 1, none⟩ (.int .i64 B1)).setCell ⟨n15, 2, none⟩ (.int .i64 B2)) n17 [.int .i64 0, .int .i64 0, .int .i64 0]) := (((FSz.out.far (by omega)).far (by omega)).far (by omega))
                                  have FU : Hid (HV (((wk1.setCell ⟨n15, 0, none⟩ (.int .i64 B0)).setCell ⟨n15, 1, none⟩ (.int .i64 B1)).setCell ⟨n15, 2, none⟩ (.int .i64 B2)) n18 [.int .i64 0, .int .i64 0, .int .i64 0]) := (((FU.out.far (by omega)).far (by omega)).far (by omega))
                                  have FM : Hid (HV (((wk1.setCell ⟨n15, 0, none⟩ (.int .i64 B0)).setCell ⟨n15, 1, none⟩ (.int .i64 B1)).setCell ⟨n15, 2, none⟩ (.int .i64 B2)) n19 [.int .i64 0, .int .i64 0, .int .i64 0]) := (((FM.out.far (by omega)).far (by omega)).far (by omega))
                                  have FN : Hid (HV (((wk1.setCell ⟨n15, 0, none⟩ (.int .i64 B0)).setCell ⟨n15, 1, none⟩ (.int .i64 B1)).setCell ⟨n15, 2, none⟩ (.int .i64 B2)) n20 [.int .i64 0, .int .i64 0, .int .i64 0]) := (((FN.out.far (by omega)).far (by omega)).far (by omega))
                                  have FB : Hid (HV (((wk1.setCell ⟨n15, 0, none⟩ (.int .i64 B0)).setCell ⟨n15, 1, none⟩ (.int .i64 B1)).setCell ⟨n15, 2, none⟩ (.int .i64 B2)) n15 [.int .i64 B0, .int .i64 B1, .int .i64 B2]) := (((FB.out.set 0 (.int .i64 B0)).set 1 (.int .i64 B1)).set 2 (.int .i64 B2))
                                  have FX : Hid (Ext w (((wk1.setCell ⟨n15, 0, none⟩ (.int .i64 B0)).setCell ⟨n15, 1, none⟩ (.int .i64 B1)).setCell ⟨n15, 2, none⟩ (.int .i64 B2))) := (((FX.out.set (p := ⟨n15, 0, none⟩) LB.out (.int .i64 B0)).set (p := ⟨n15, 1, none⟩) LB.out (.int .i64 B1)).set (p := ⟨n15, 2, none⟩) LB.out (.int .i64 B2))
                                  generalize (((wk1.setCell ⟨n15, 0, none⟩ (.int .i64 B0)).setCell ⟨n15, 1, none⟩ (.int .i64 B1)).setCell ⟨n15, 2, none⟩ (.int .i64 B2)) = wx37 at *
                                  have qp0 : wx37.cell? ⟨np, 0, none⟩ = some (.int .i64 (z 0)) := Fp.out.c 0 rfl
                                  have qp1 : wx37.cell? ⟨np, 1, none⟩ = some (.int .i64 (z 1)) := Fp.out.c 1 rfl
                                  have qp2 : wx37.cell? ⟨np, 2, none⟩ = some (.int .i64 (z 2)) := Fp.out.c 2 rfl
                                  have qp3 : wx37.cell? ⟨np, 3, none⟩ = some (.int .i64 (z 3)) := Fp.out.c 3 rfl
                                  have qp4 : wx37.cell? ⟨np, 4, none⟩ = some (.int .i64 (z 4)) := Fp.out.c 4 rfl
                                  have qp5 : wx37.cell? ⟨np, 5, none⟩ = some (.int .i64 (z 5)) := Fp.out.c 5 rfl
                                  have qC0 : wx37.cell? ⟨n16, 0, none⟩ = some (.int .i64 0) := FC.out.c 0 rfl
                                  have zC0 : wx37.frozen? ⟨n16, 0, none⟩ = false := FC.out.f 0 rfl
                                  have qC1 : wx37.cell? ⟨n16, 1, none⟩ = some (.int .i64 0) := FC.out.c 1 rfl
                                  have zC1 : wx37.frozen? ⟨n16, 1, none⟩ = false := FC.out.f 1 rfl
                                  have qC2 : wx37.cell? ⟨n16, 2, none⟩ = some (.int .i64 0) := FC.out.c 2 rfl
                                  have zC2 : wx37.frozen? ⟨n16, 2, none⟩ = false := FC.out.f 2 rfl
                                  go_wp2_with (go_at_call 10; refine (HC.out _).mono ?_; rintro e wk2 ⟨rfl, xk2⟩; have kC0 : wk2.cell? ⟨n16, 0, none⟩ = some (.int .i64 0) := (FC.out.ext xk2).c 0 rfl; have zC0 : wk2.frozen? ⟨n16, 0, none⟩ = false := (FC.out.ext xk2).f 0 rfl; have kC1 : wk2.cell? ⟨n16, 1, none⟩ = some (.int .i64 0) := (FC.out.ext xk2).c 1 rfl; have zC1 : wk2.frozen? ⟨n16, 1, none⟩ = false := (FC.out.ext xk2).f 1 rfl; have kC2 : wk2.cell? ⟨n16, 2, none⟩ = some (.int .i64 0) := (FC.out.ext xk2).c 2 rfl; have zC2 : wk2.frozen? ⟨n16, 2, none⟩ = false := (FC.out.ext xk2).f 2 rfl)
                                  have Fp : Hid (HV wk2 np [.int .i64 (z 0), .int .i64 (z 1), .int .i64 (z 2), .int .i64 (z 3), .int .i64 (z 4), .int .i64 (z 5), .int .i64 (z 6), .int .i64 (z 7), .int .i64 (z 8), .int .i64 (z 9), .int .i64 (z 10), .int .i64 (z 11), .int .i64 (z 12), .int .i64 (z 13), .int .i64 (z 14), .int .i64 (z 15)]) := Fp.out.ext xk2
                                  have FA : Hid (HV wk2 n14 [.int .i64 A0, .int .i64 A1, .int .i64 A2]) := FA.out.ext xk2
                                  have FB : Hid (HV wk2 n15 [.int .i64 B0, .int .i64 B1, .int .i64 B2]) := FB.out.ext xk2
                                  have FC : Hid (HV wk2 n16 [.int .i64 0, .int .i64 0, .int .i64 0]) := FC.out.ext xk2
                                  have FSz : Hid (HV wk2 n17 [.int .i64 0, .int .i64 0, .int .i64 0]) := FSz.out.ext xk2
                                  have FU : Hid (HV wk2 n18 [.int .i64 0, .int .i64 0, .int .i64 0]) := FU.out.ext xk2
                                  have FM : Hid (HV wk2 n19 [.int .i64 0, .int .i64 0, .int .i64 0]) := FM.out.ext xk2
                                  have FN : Hid (HV wk2 n20 [.int .i64 0, .int .i64 0, .int .i64 0]) := FN.out.ext xk2
                                  have FX : Hid (Ext w wk2) := FX.out.trans xk2
                                  go_meet
                                  exact ⟨rfl, rfl, rfl, (((Fp.out.far (by omega)).far (by omega)).far (by omega)), (((FA.out.far (by omega)).far (by omega)).far (by omega)), (((FB.out.far (by omega)).far (by omega)).far (by omega)), (((FC.out.set 0 (.int .i64 C0)).set 1 (.int .i64 C1)).set 2 (.int .i64 C2)), (((FSz.out.far (by omega)).far (by omega)).far (by omega)), (((FU.out.far (by omega)).far (by omega)).far (by omega)), (((FM.out.far (by omega)).far (by omega)).far (by omega)), (((FN.out.far (by omega)).far (by omega)).far (by omega)), (((FX.out.set (p := ⟨n16, 0, none⟩) LC.out (.int .i64 C0)).set (p := ⟨n16, 1, none⟩) LC.out (.int .i64 C1)).set (p := ⟨n16, 2, none⟩) LC.out (.int .i64 C2))⟩
                                · clear R2
                                  go_wp2_with fail
                                  go_meet
                                  exact ⟨rfl, rfl, rfl, Fp, FA, FB, FC, FSz, FU, FM, FN, FX⟩
                            case rest =>
                              as_aux_lemma =>
                                clear Fp FA FB FC FSz FU FM FN FX R2
                                obtain ⟨rfl, rfl, rfl, Fp, FA, FB, FC, FSz, FU, FM, FN, FX⟩ := hcut
                                generalize wc = wx6 at *
                                go_upto_if 93 with fail
                                go_cut [10] from 23 to 224 (fun v10 wx => v10 = .int .i64 es ∧ Hid (HV wx np [.int .i64 (z 0), .int .i64 (z 1), .int .i64 (z 2), .int .i64 (z 3), .int .i64 (z 4), .int .i64 (z 5), .int .i64 (z 6), .int .i64 (z 7), .int .i64 (z 8), .int .i64 (z 9), .int .i64 (z 10), .int .i64 (z 11), .int .i64 (z 12), .int .i64 (z 13), .int .i64 (z 14), .int .i64 (z 15)]) ∧ Hid (HV wx n14 [.int .i64 A0, .int .i64 A1, .int .i64 A2]) ∧ Hid (HV wx n15 [.int .i64 B0, .int .i64 B1, .int .i64 B2]) ∧ Hid (HV wx n16 [.int .i64 C0, .int .i64 C1, .int .i64 C2]) ∧ Hid (HV wx n17 [.int .i64 S0, .int .i64 S1, .int .i64 S2]) ∧ Hid (HV wx n18 [.int .i64 0, .int .i64 0, .int .i64 0]) ∧ Hid (HV wx n19 [.int .i64 0, .int .i64 0, .int .i64 0]) ∧ Hid (HV wx n20 [.int .i64 0, .int .i64 0, .int .i64 0]) ∧ Hid (Ext w wx))
                                case first =>
                                  as_aux_lemma =>
                                    clear CK PA IA PB IB PC IC PS IS PU IU PN IN PM IM R1 RM
                                    rcases R3.out with ⟨rfl, HS⟩ | ⟨rfl, ⟨rfl, rfl, rfl, rfl⟩⟩
                                    · clear R3
                                      have HS : Hid (∀ w, Calls Tryz.prog 11 #[.agg #[.int .i64 (z 0), .int .i64 (z 1), .int .i64 (z 2)], .int .i64 (z 6)] w fun e w' => e = .returned (.tuple #[.agg #[.int .i64 S0, .int .i64 S1, .int .i64 S2], .int .i64 es]) ∧ Ext w w') := HS
                                      have qp0 : wx6.cell? ⟨np, 0, none⟩ = some (.int .i64 (z 0)) := Fp.out.c 0 rfl
                                      have qp1 : wx6.cell? ⟨np, 1, none⟩ = some (.int .i64 (z 1)) := Fp.out.c 1 rfl
                                      have qp2 : wx6.cell? ⟨np, 2, none⟩ = some (.int .i64 (z 2)) := Fp.out.c 2 rfl
                                      have qp6 : wx6.cell? ⟨np, 6, none⟩ = some (.int .i64 (z 6)) := Fp.out.c 6 rfl
                                      have qS0 : wx6.cell? ⟨n17, 0, none⟩ = some (.int .i64 0) := FSz.out.c 0 rfl
                                      have zS0 : wx6.frozen? ⟨n17, 0, none⟩ = false := FSz.out.f 0 rfl
                                      have qS1 : wx6.cell? ⟨n17, 1, none⟩ = some (.int .i64 0) := FSz.out.c 1 rfl
                                      have zS1 : wx6.frozen? ⟨n17, 1, none⟩ = false := FSz.out.f 1 rfl
                                      have qS2 : wx6.cell? ⟨n17, 2, none⟩ = some (.int .i64 0) := FSz.out.c 2 rfl
                                      have zS2 : wx6.frozen? ⟨n17, 2, none⟩ = false := FSz.out.f 2 rfl
                                      go_wp2_with (go_at_call 11; refine (HS.out _).mono ?_; rintro e wk0 ⟨rfl, xk0⟩; have kS0 : wk0.cell? ⟨n17, 0, none⟩ = some (.int .i64 0) := (FSz.out.ext xk0).c 0 rfl; have zS0 : wk0.frozen? ⟨n17, 0, none⟩ = false := (FSz.out.ext xk0).f 0 rfl; have kS1 : wk0.cell? ⟨n17, 1, none⟩ = some (.int .i64 0) := (FSz.out.ext xk0).c 1 rfl; have zS1 : wk0.frozen? ⟨n17, 1, none⟩ = false := (FSz.out.ext xk0).f 1 rfl; have kS2 : wk0.cell? ⟨n17, 2, none⟩ = some (.int .i64 0) := (FSz.out.ext xk0).c 2 rfl; have zS2 : wk0.frozen? ⟨n17, 2, none⟩ = false := (FSz.out.ext xk0).f 2 rfl)
                                      have Fp : Hid (HV wk0 np [.int .i64 (z 0), .int .i64 (z 1), .int .i64 (z 2), .int .i64 (z 3), .int .i64 (z 4), .int .i64 (z 5), .int .i64 (z 6), .int .i64 (z 7), .int .i64 (z 8), .int .i64 (z 9), .int .i64 (z 10), .int .i64 (z 11), .int .i64 (z 12), .int .i64 (z 13), .int .i64 (z 14), .int .i64 (z 15)]) := Fp.out.ext xk0
                                      have FA : Hid (HV wk0 n14 [.int .i64 A0, .int .i64 A1, .int .i64 A2]) := FA.out.ext xk0
                                      have FB : Hid (HV wk0 n15 [.int .i64 B0, .int .i64 B1, .int .i64 B2]) := FB.out.ext xk0
                                      have FC : Hid (HV wk0 n16 [.int .i64 C0, .int .i64 C1, .int .i64 C2]) := FC.out.ext xk0
                                      have FSz : Hid (HV wk0 n17 [.int .i64 0, .int .i64 0, .int .i64 0]) := FSz.out.ext xk0
                                      have FU : Hid (HV wk0 n18 [.int .i64 0, .int .i64 0, .int .i64 0]) := FU.out.ext xk0
                                      have FM : Hid (HV wk0 n19 [.int .i64 0, .int .i64 0, .int .i64 0]) := FM.out.ext xk0
                                      have FN : Hid (HV wk0 n20 [.int .i64 0, .int .i64 0, .int .i64 0]) := FN.out.ext xk0
                                      have FX : Hid (Ext w wk0) := FX.out.trans xk0
                                      go_meet
                                      exact ⟨rfl, (((Fp.out.far (by omega)).far (by omega)).far (by omega)), (((FA.out.far (by omega)).far (by omega)).far (by omega)), (((FB.out.far (by omega)).far (by omega)).far (by omega)), (((FC.out.far (by omega)).far (by omega)).far (by omega)), (((FSz.out.set 0 (.int .i64 S0)).set 1 (.int .i64 S1)).set 2 (.int .i64 S2)), (((FU.out.far (by omega)).far (by omega)).far (by omega)), (((FM.out.far (by omega)).far (by omega)).far (by omega)), (((FN.out.far (by omega)).far (by omega)).far (by omega)), (((FX.out.set (p := ⟨n17, 0, none⟩) LS.out (.int .i64 S0)).set (p := ⟨n17, 1, none⟩) LS.out (.int .i64 S1)).set (p := ⟨n17, 2, none⟩) LS.out (.int .i64 S2))⟩
                                    · clear R3
                                      go_wp2_with fail
                                      go_meet
                                      exact ⟨rfl, Fp, FA, FB, FC, FSz, FU, FM, FN, FX⟩
                                case rest =>
                                  as_aux_lemma =>
                                    clear Fp FA FB FC FSz FU FM FN FX R3
                                    obtain ⟨rfl, Fp, FA, FB, FC, FSz, FU, FM, FN, FX⟩ := hcut
                                    generalize wc = wx7 at *
                                    go_upto_if 103 with fail
                                    go_cut [11] from 23 to 224 (fun v11 wx => v11 = .int .i64 eu ∧ Hid (HV wx np [.int .i64 (z 0), .int .i64 (z 1), .int .i64 (z 2), .int .i64 (z 3), .int .i64 (z 4), .int .i64 (z 5), .int .i64 (z 6), .int .i64 (z 7), .int .i64 (z 8), .int .i64 (z 9), .int .i64 (z 10), .int .i64 (z 11), .int .i64 (z 12), .int .i64 (z 13), .int .i64 (z 14), .int .i64 (z 15)]) ∧ Hid (HV wx n14 [.int .i64 A0, .int .i64 A1, .int .i64 A2]) ∧ Hid (HV wx n15 [.int .i64 B0, .int .i64 B1, .int .i64 B2]) ∧ Hid (HV wx n16 [.int .i64 C0, .int .i64 C1, .int .i64 C2]) ∧ Hid (HV wx n17 [.int .i64 S0, .int .i64 S1, .int .i64 S2]) ∧ Hid (HV wx n18 [.int .i64 U0, .int .i64 U1, .int .i64 U2]) ∧ Hid (HV wx n19 [.int .i64 0, .int .i64 0, .int .i64 0]) ∧ Hid (HV wx n20 [.int .i64 N0, .int .i64 N1, .int .i64 N2]) ∧ Hid (Ext w wx))
                                    case first =>
                                      as_aux_lemma =>
                                        clear CK PA IA PB IB PC IC PS IS PU IU PN IN PM IM RM
                                        rcases R1.out with ⟨rfl, HU, HN⟩ | ⟨rfl, ⟨rfl, rfl, rfl, rfl⟩, rfl, rfl, rfl⟩
                                        · clear R1
                                          have HU : Hid (∀ w, Calls Tryz.prog 12 #[.agg #[.int .i64 (z 0), .int .i64 (z 1), .int .i64 (z 2)]] w fun e w' => e = .returned (.tuple #[.agg #[.int .i64 U0, .int .i64 U1, .int .i64 U2], .int .i64 eu]) ∧ Ext w w') := HU
                                          have HN : Hid (∀ w, Calls Tryz.prog 13 #[.agg #[.int .i64 (z 0), .int .i64 (z 1), .int .i64 (z 2)]] w fun e w' => e = .returned (.agg #[.int .i64 N0, .int .i64 N1, .int .i64 N2]) ∧ Ext w w') := HN
                                          have qp0 : wx7.cell? ⟨np, 0, none⟩ = some (.int .i64 (z 0)) := Fp.out.c 0 rfl
                                          have qp1 : wx7.cell? ⟨np, 1, none⟩ = some (.int .i64 (z 1)) := Fp.out.c 1 rfl
                                          have qp2 : wx7.cell? ⟨np, 2, none⟩ = some (.int .i64 (z 2)) := Fp.out.c 2 rfl
                                          have qU0 : wx7.cell? ⟨n18, 0, none⟩ = some (.int .i64 0) := FU.out.c 0 rfl
                                          have zU0 : wx7.frozen? ⟨n18, 0, none⟩ = false := FU.out.f 0 rfl
                                          have qU1 : wx7.cell? ⟨n18, 1, none⟩ = some (.int .i64 0) := FU.out.c 1 rfl
                                          have zU1 : wx7.frozen? ⟨n18, 1, none⟩ = false := FU.out.f 1 rfl
                                          have qU2 : wx7.cell? ⟨n18, 2, none⟩ = some (.int .i64 0) := FU.out.c 2 rfl
                                          have zU2 : wx7.frozen? ⟨n18, 2, none⟩ = false := FU.out.f 2 rfl
                                          go_upto_region 28 with (first | (go_at_call 12; refine (HU.out _).mono ?_; rintro e wk0 ⟨rfl, xk0⟩; have kU0 : wk0.cell? ⟨n18, 0, none⟩ = some (.int .i64 0) := (FU.out.ext xk0).c 0 rfl; have zU0 : wk0.frozen? ⟨n18, 0, none⟩ = false := (FU.out.ext xk0).f 0 rfl; have kU1 : wk0.cell? ⟨n18, 1, none⟩ = some (.int .i64 0) := (FU.out.ext xk0).c 1 rfl; have zU1 : wk0.frozen? ⟨n18, 1, none⟩ = false := (FU.out.ext xk0).f 1 rfl; have kU2 : wk0.cell? ⟨n18, 2, none⟩ = some (.int .i64 0) := (FU.out.ext xk0).c 2 rfl; have zU2 : wk0.frozen? ⟨n18, 2, none⟩ = false := (FU.out.ext xk0).f 2 rfl))
                                          have Fp : Hid (HV wk0 np [.int .i64 (z 0), .int .i64 (z 1), .int .i64 (z 2), .int .i64 (z 3), .int .i64 (z 4), .int .i64 (z 5), .int .i64 (z 6), .int .i64 (z 7), .int .i64 (z 8), .int .i64 (z 9), .int .i64 (z 10), .int .i64 (z 11), .int .i64 (z 12), .int .i64 (z 13), .int .i64 (z 14), .int .i64 (z 15)]) := Fp.out.ext xk0
                                          have FA : Hid (HV wk0 n14 [.int .i64 A0, .int .i64 A1, .int .i64 A2]) := FA.out.ext xk0
                                          have FB : Hid (HV wk0 n15 [.int .i64 B0, .int .i64 B1, .int .i64 B2]) := FB.out.ext xk0
                                          have FC : Hid (HV wk0 n16 [.int .i64 C0, .int .i64 C1, .int .i64 C2]) := FC.out.ext xk0
                                          have FSz : Hid (HV wk0 n17 [.int .i64 S0, .int .i64 S1, .int .i64 S2]) := FSz.out.ext xk0
                                          have FU : Hid (HV wk0 n18 [.int .i64 0, .int .i64 0, .int .i64 0]) := FU.out.ext xk0
                                          have FM : Hid (HV wk0 n19 [.int .i64 0, .int .i64 0, .int .i64 0]) := FM.out.ext xk0
                                          have FN : Hid (HV wk0 n20 [.int .i64 0, .int .i64 0, .int .i64 0]) := FN.out.ext xk0
                                          have FX : Hid (Ext w wk0) := FX.out.trans xk0
                                          clear qp0 qp1 qp2 qU0 qU1 qU2 kU0 kU1 kU2 zU0 zU1 zU2 xk0 HU
                                          have Fp : Hid (HV (((wk0.setCell ⟨n18, 0, none⟩ (.int .i64 U0)).setCell ⟨n18, 1, none⟩ (.int .i64 U1)).setCell ⟨n18, 2, none⟩ (.int .i64 U2)) np [.int .i64 (z 0), .int .i64 (z 1), .int .i64 (z 2), .int .i64 (z 3), .int .i64 (z 4), .int .i64 (z 5), .int .i64 (z 6), .int .i64 (z 7), .int .i64 (z 8), .int .i64 (z 9), .int .i64 (z 10), .int .i64 (z 11), .int .i64 (z 12), .int .i64 (z 13), .int .i64 (z 14), .int .i64 (z 15)]) := (((Fp.out.far (by omega)).far (by omega)).far (by omega))
                                          have FA : Hid (HV (((wk0.setCell ⟨n18, 0, none⟩ (.int .i64 U0)).setCell ⟨n18, 1, none⟩ (.int .i64 U1)).setCell ⟨n18, 2, none⟩ (.int .i64 U2)) n14 [.int .i64 A0, .int .i64 A1, .int .i64 A2]) := (((FA.out.far (by omega)).far (by omega)).far (by omega))
                                          have FB : Hid (HV (((wk0.setCell ⟨n18, 0, none⟩ (.int .i64 U0)).setCell ⟨n18, 1, none⟩ (.int .i64 U1)).setCell ⟨n18, 2, none⟩ (.int .i64 U2)) n15 [.int .i64 B0, .int .i64 B1, .int .i64 B2]) := (((FB.out.far (by omega)).far (by omega)).far (by omega))
                                          have FC : Hid (HV (((wk0.setCell ⟨n18, 0, none⟩ (.int .i64 U0)).setCell ⟨n18, 1, none⟩ (.int .i64 U1)).setCell ⟨n18, 2, none⟩ (.int .i64 U2)) n16 [.int .i64 C0, .int .i64 C1, .int .i64 C2]) := (((FC.out.far (by omega)).far (by omega)).far (by omega))
                                          have FSz : Hid (HV (((wk0.setCell ⟨n18, 0, none⟩ (.int .i64 U0)).setCell ⟨n18, 1, none⟩ (.int .i64 U1)).setCell ⟨n18, 2, none⟩ (.int .i64 U2)) n17 [.int .i64 S0, .int .i64 S1, .int .i64 S2]) := (((FSz.out.far (by omega)).far (by omega)).far (by omega))
                                          have FM : Hid (HV (((wk0.setCell ⟨n18, 0, none⟩ (.int .i64 U0)).setCell ⟨n18, 1, none⟩ (.int .i64 U1)).setCell ⟨n18, 2, none⟩ (.int .i64 U2)) n19 [.int .i64 0, .int .i64 0, .int .i64 0]) := (((FM.out.far (by omega)).far (by omega)).far (by omega))
                                          have FN : Hid (HV (((wk0.setCell ⟨n18, 0, none⟩ (.int .i64 U0)).setCell ⟨n18, 1, none⟩ (.int .i64 U1)).setCell ⟨n18, 2, none⟩ (.int .i64 U2)) n20 [.int .i64 0, .int .i64 0, .int .i64 0]) := (((FN.out.far (by omega)).far (by omega)).far (by omega))
                                          have FU : Hid (HV (((wk0.setCell ⟨n18, 0, none⟩ (.int .i64 U0)).setCell ⟨n18, 1, none⟩ (.int .i64 U1)).setCell ⟨n18, 2, none⟩ (.int .i64 U2)) n18 [.int .i64 U0, .int .i64 U1, .int .i64 U2]) := (((FU.out.set 0 (.int .i64 U0)).set 1 (.int .i64 U1)).set 2 (.int .i64 U2))
                                          have FX : Hid (Ext w (((wk0.setCell ⟨n18, 0, none⟩ (.int .i64 U0)).setCell ⟨n18, 1, none⟩ (.int .i64 U1)).setCell ⟨n18, 2, none⟩ (.int .i64 U2))) := (((FX.out.set (p := ⟨n18, 0, none⟩) LU.out (.int .i64 U0)).set (p := ⟨n18, 1, none⟩) LU.out (.int .i64 U1)).set (p := ⟨n18, 2, none⟩) LU.out (.int .i64 U2))
                                          generalize (((wk0.setCell ⟨n18, 0, none⟩ (.int .i64 U0)).setCell ⟨n18, 1, none⟩ (.int .i64 U1)).setCell ⟨n18, 2, none⟩ (.int .i64 U2)) = wx38 at *
                                          have qp0 : wx38.cell? ⟨np, 0, none⟩ = some (.int .i64 (z 0)) := Fp.out.c 0 rfl
                                          have qp1 : wx38.cell? ⟨np, 1, none⟩ = some (.int .i64 (z 1)) := Fp.out.c 1 rfl
                                          have qp2 : wx38.cell? ⟨np, 2, none⟩ = some (.int .i64 (z 2)) := Fp.out.c 2 rfl
                                          have qN0 : wx38.cell? ⟨n20, 0, none⟩ = some (.int .i64 0) := FN.out.c 0 rfl
                                          have zN0 : wx38.frozen? ⟨n20, 0, none⟩ = false := FN.out.f 0 rfl
                                          have qN1 : wx38.cell? ⟨n20, 1, none⟩ = some (.int .i64 0) := FN.out.c 1 rfl
                                          have zN1 : wx38.frozen? ⟨n20, 1, none⟩ = false := FN.out.f 1 rfl
                                          have qN2 : wx38.cell? ⟨n20, 2, none⟩ = some (.int .i64 0) := FN.out.c 2 rfl
                                          have zN2 : wx38.frozen? ⟨n20, 2, none⟩ = false := FN.out.f 2 rfl
                                          go_wp2_with (go_at_call 13; refine (HN.out _).mono ?_; rintro e wk1 ⟨rfl, xk1⟩; have kN0 : wk1.cell? ⟨n20, 0, none⟩ = some (.int .i64 0) := (FN.out.ext xk1).c 0 rfl; have zN0 : wk1.frozen? ⟨n20, 0, none⟩ = false := (FN.out.ext xk1).f 0 rfl; have kN1 : wk1.cell? ⟨n20, 1, none⟩ = some (.int .i64 0) := (FN.out.ext xk1).c 1 rfl; have zN1 : wk1.frozen? ⟨n20, 1, none⟩ = false := (FN.out.ext xk1).f 1 rfl; have kN2 : wk1.cell? ⟨n20, 2, none⟩ = some (.int .i64 0) := (FN.out.ext xk1).c 2 rfl; have zN2 : wk1.frozen? ⟨n20, 2, none⟩ = false := (FN.out.ext xk1).f 2 rfl)
                                          have Fp : Hid (HV wk1 np [.int .i64 (z 0), .int .i64 (z 1), .int .i64 (z 2), .int .i64 (z 3), .int .i64 (z 4), .int .i64 (z 5), .int .i64 (z 6), .int .i64 (z 7), .int .i64 (z 8), .int .i64 (z 9), .int .i64 (z 10), .int .i64 (z 11), .int .i64 (z 12), .int .i64 (z 13), .int .i64 (z 14), .int .i64 (z 15)]) := Fp.out.ext xk1
                                          have FA : Hid (HV wk1 n14 [.int .i64 A0, .int .i64 A1, .int .i64 A2]) := FA.out.ext xk1
                                          have FB : Hid (HV wk1 n15 [.int .i64 B0, .int .i64 B1, .int .i64 B2]) := FB.out.ext xk1
                                          have FC : Hid (HV wk1 n16 [.int .i64 C0, .int .i64 C1, .int .i64 C2]) := FC.out.ext xk1
                                          have FSz : Hid (HV wk1 n17 [.int .i64 S0, .int .i64 S1, .int .i64 S2]) := FSz.out.ext xk1
                                          have FU : Hid (HV wk1 n18 [.int .i64 U0, .int .i64 U1, .int .i64 U2]) := FU.out.ext xk1
                                          have FM : Hid (HV wk1 n19 [.int .i64 0, .int .i64 0, .int .i64 0]) := FM.out.ext xk1
                                          have FN : Hid (HV wk1 n20 [.int .i64 0, .int .i64 0, .int .i64 0]) := FN.out.ext xk1
                                          have FX : Hid (Ext w wk1) := FX.out.trans xk1
                                          go_meet
                                          exact ⟨rfl, (((Fp.out.far (by omega)).far (by omega)).far (by omega)), (((FA.out.far (by omega)).far (by omega)).far (by omega)), (((FB.out.far (by omega)).far (by omega)).far (by omega)), (((FC.out.far (by omega)).far (by omega)).far (by omega)), (((FSz.out.far (by omega)).far (by omega)).far (by omega)), (((FU.out.far (by omega)).far (by omega)).far (by omega)), (((FM.out.far (by omega)).far (by omega)).far (by omega)), (((FN.out.set 0 (.int .i64 N0)).set 1 (.int .i64 N1)).set 2 (.int .i64 N2)), (((FX.out.set (p := ⟨n20, 0, none⟩) LN.out (.int .i64 N0)).set (p := ⟨n20, 1, none⟩) LN.out (.int .i64 N1)).set (p := ⟨n20, 2, none⟩) LN.out (.int .i64 N2))⟩
                                        · clear R1
                                          go_wp2_with fail
                                          go_meet
                                          exact ⟨rfl, Fp, FA, FB, FC, FSz, FU, FM, FN, FX⟩
                                    case rest =>
                                      as_aux_lemma =>
                                        clear Fp FA FB FC FSz FU FM FN FX R1
                                        obtain ⟨rfl, Fp, FA, FB, FC, FSz, FU, FM, FN, FX⟩ := hcut
                                        generalize wc = wx8 at *
                                        go_upto_if 114 with fail
                                        go_cut [12] from 23 to 224 (fun v12 wx => v12 = .int .i64 em ∧ Hid (HV wx np [.int .i64 (z 0), .int .i64 (z 1), .int .i64 (z 2), .int .i64 (z 3), .int .i64 (z 4), .int .i64 (z 5), .int .i64 (z 6), .int .i64 (z 7), .int .i64 (z 8), .int .i64 (z 9), .int .i64 (z 10), .int .i64 (z 11), .int .i64 (z 12), .int .i64 (z 13), .int .i64 (z 14), .int .i64 (z 15)]) ∧ Hid (HV wx n14 [.int .i64 A0, .int .i64 A1, .int .i64 A2]) ∧ Hid (HV wx n15 [.int .i64 B0, .int .i64 B1, .int .i64 B2]) ∧ Hid (HV wx n16 [.int .i64 C0, .int .i64 C1, .int .i64 C2]) ∧ Hid (HV wx n17 [.int .i64 S0, .int .i64 S1, .int .i64 S2]) ∧ Hid (HV wx n18 [.int .i64 U0, .int .i64 U1, .int .i64 U2]) ∧ Hid (HV wx n19 [.int .i64 M0, .int .i64 M1, .int .i64 M2]) ∧ Hid (HV wx n20 [.int .i64 N0, .int .i64 N1, .int .i64 N2]) ∧ Hid (Ext w wx))
                                        case first =>
                                          as_aux_lemma =>
                                            clear CK PA IA PB IB PC IC PS IS PU IU PN IN PM IM
                                            rcases RM.out with ⟨rfl, HM⟩ | ⟨rfl, ⟨rfl, rfl, rfl, rfl⟩⟩
                                            · clear RM
                                              have HM : Hid (∀ w, Calls Tryz.prog 14 #[.agg #[.int .i64 (z 7), .int .i64 (z 8), .int .i64 (z 9), .int .i64 (z 10), .int .i64 (z 11), .int .i64 (z 12), .int .i64 (z 13), .int .i64 (z 14), .int .i64 (z 15)], .agg #[.int .i64 (z 0), .int .i64 (z 1), .int .i64 (z 2)]] w fun e w' => e = .returned (.tuple #[.agg #[.int .i64 M0, .int .i64 M1, .int .i64 M2], .int .i64 em]) ∧ Ext w w') := HM
                                              have qp0 : wx8.cell? ⟨np, 0, none⟩ = some (.int .i64 (z 0)) := Fp.out.c 0 rfl
                                              have qp1 : wx8.cell? ⟨np, 1, none⟩ = some (.int .i64 (z 1)) := Fp.out.c 1 rfl
                                              have qp2 : wx8.cell? ⟨np, 2, none⟩ = some (.int .i64 (z 2)) := Fp.out.c 2 rfl
                                              have qp7 : wx8.cell? ⟨np, 7, none⟩ = some (.int .i64 (z 7)) := Fp.out.c 7 rfl
                                              have qp8 : wx8.cell? ⟨np, 8, none⟩ = some (.int .i64 (z 8)) := Fp.out.c 8 rfl
                                              have qp9 : wx8.cell? ⟨np, 9, none⟩ = some (.int .i64 (z 9)) := Fp.out.c 9 rfl
                                              have qp10 : wx8.cell? ⟨np, 10, none⟩ = some (.int .i64 (z 10)) := Fp.out.c 10 rfl
                                              have qp11 : wx8.cell? ⟨np, 11, none⟩ = some (.int .i64 (z 11)) := Fp.out.c 11 rfl
                                              have qp12 : wx8.cell? ⟨np, 12, none⟩ = some (.int .i64 (z 12)) := Fp.out.c 12 rfl
                                              have qp13 : wx8.cell? ⟨np, 13, none⟩ = some (.int .i64 (z 13)) := Fp.out.c 13 rfl
                                              have qp14 : wx8.cell? ⟨np, 14, none⟩ = some (.int .i64 (z 14)) := Fp.out.c 14 rfl
                                              have qp15 : wx8.cell? ⟨np, 15, none⟩ = some (.int .i64 (z 15)) := Fp.out.c 15 rfl
                                              have qM0 : wx8.cell? ⟨n19, 0, none⟩ = some (.int .i64 0) := FM.out.c 0 rfl
                                              have zM0 : wx8.frozen? ⟨n19, 0, none⟩ = false := FM.out.f 0 rfl
                                              have qM1 : wx8.cell? ⟨n19, 1, none⟩ = some (.int .i64 0) := FM.out.c 1 rfl
                                              have zM1 : wx8.frozen? ⟨n19, 1, none⟩ = false := FM.out.f 1 rfl
                                              have qM2 : wx8.cell? ⟨n19, 2, none⟩ = some (.int .i64 0) := FM.out.c 2 rfl
                                              have zM2 : wx8.frozen? ⟨n19, 2, none⟩ = false := FM.out.f 2 rfl
                                              go_wp2_with (go_at_call 14; refine (HM.out _).mono ?_; rintro e wk0 ⟨rfl, xk0⟩; have kM0 : wk0.cell? ⟨n19, 0, none⟩ = some (.int .i64 0) := (FM.out.ext xk0).c 0 rfl; have zM0 : wk0.frozen? ⟨n19, 0, none⟩ = false := (FM.out.ext xk0).f 0 rfl; have kM1 : wk0.cell? ⟨n19, 1, none⟩ = some (.int .i64 0) := (FM.out.ext xk0).c 1 rfl; have zM1 : wk0.frozen? ⟨n19, 1, none⟩ = false := (FM.out.ext xk0).f 1 rfl; have kM2 : wk0.cell? ⟨n19, 2, none⟩ = some (.int .i64 0) := (FM.out.ext xk0).c 2 rfl; have zM2 : wk0.frozen? ⟨n19, 2, none⟩ = false := (FM.out.ext xk0).f 2 rfl)
                                              have Fp : Hid (HV wk0 np [.int .i64 (z 0), .int .i64 (z 1), .int .i64 (z 2), .int .i64 (z 3), .int .i64 (z 4), .int .i64 (z 5), .int .i64 (z 6), .int .i64 (z 7), .int .i64 (z 8), .int .i64 (z 9), .int .i64 (z 10), .int .i64 (z 11), .int .i64 (z 12), .int .i64 (z 13), .int .i64 (z 14), .int .i64 (z 15)]) := Fp.out.ext xk0
                                              have FA : Hid (HV wk0 n14 [.int .i64 A0, .int .i64 A1, .int .i64 A2]) := FA.out.ext xk0
                                              have FB : Hid (HV wk0 n15 [.int .i64 B0, .int .i64 B1, .int .i64 B2]) := FB.out.ext xk0
                                              have FC : Hid (HV wk0 n16 [.int .i64 C0, .int .i64 C1, .int .i64 C2]) := FC.out.ext xk0
                                              have FSz : Hid (HV wk0 n17 [.int .i64 S0, .int .i64 S1, .int .i64 S2]) := FSz.out.ext xk0
                                              have FU : Hid (HV wk0 n18 [.int .i64 U0, .int .i64 U1, .int .i64 U2]) := FU.out.ext xk0
                                              have FM : Hid (HV wk0 n19 [.int .i64 0, .int .i64 0, .int .i64 0]) := FM.out.ext xk0
                                              have FN : Hid (HV wk0 n20 [.int .i64 N0, .int .i64 N1, .int .i64 N2]) := FN.out.ext xk0
                                              have FX : Hid (Ext w wk0) := FX.out.trans xk0
                                              go_meet
                                              exact ⟨rfl, (((Fp.out.far (by omega)).far (by omega)).far (by omega)), (((FA.out.far (by omega)).far (by omega)).far (by omega)), (((FB.out.far (by omega)).far (by omega)).far (by omega)), (((FC.out.far (by omega)).far (by omega)).far (by omega)), (((FSz.out.far (by omega)).far (by omega)).far (by omega)), (((FU.out.far (by omega)).far (by omega)).far (by omega)), (((FM.out.set 0 (.int .i64 M0)).set 1 (.int .i64 M1)).set 2 (.int .i64 M2)), (((FN.out.far (by omega)).far (by omega)).far (by omega)), (((FX.out.set (p := ⟨n19, 0, none⟩) LM.out (.int .i64 M0)).set (p := ⟨n19, 1, none⟩) LM.out (.int .i64 M1)).set (p := ⟨n19, 2, none⟩) LM.out (.int .i64 M2))⟩
                                            · clear RM
                                              go_wp2_with fail
                                              go_meet
                                              exact ⟨rfl, Fp, FA, FB, FC, FSz, FU, FM, FN, FX⟩
                                        case rest =>
                                          as_aux_lemma =>
                                            clear Fp FA FB FC FSz FU FM FN FX RM
                                            obtain ⟨rfl, Fp, FA, FB, FC, FSz, FU, FM, FN, FX⟩ := hcut
                                            generalize wc = wx9 at *
                                            as_aux_lemma =>
                                              have qp0 : wx9.cell? ⟨np, 0, none⟩ = some (.int .i64 (z 0)) := Fp.out.c 0 rfl
                                              have qp1 : wx9.cell? ⟨np, 1, none⟩ = some (.int .i64 (z 1)) := Fp.out.c 1 rfl
                                              have qp2 : wx9.cell? ⟨np, 2, none⟩ = some (.int .i64 (z 2)) := Fp.out.c 2 rfl
                                              have qp3 : wx9.cell? ⟨np, 3, none⟩ = some (.int .i64 (z 3)) := Fp.out.c 3 rfl
                                              have qp4 : wx9.cell? ⟨np, 4, none⟩ = some (.int .i64 (z 4)) := Fp.out.c 4 rfl
                                              have qp5 : wx9.cell? ⟨np, 5, none⟩ = some (.int .i64 (z 5)) := Fp.out.c 5 rfl
                                              go_upto_region 32 with (first | (go_at_call 15; refine (PA.out _).mono ?_; rintro e wa ⟨rfl, xa⟩))
                                              have Fp : Hid (HV wa np [.int .i64 (z 0), .int .i64 (z 1), .int .i64 (z 2), .int .i64 (z 3), .int .i64 (z 4), .int .i64 (z 5), .int .i64 (z 6), .int .i64 (z 7), .int .i64 (z 8), .int .i64 (z 9), .int .i64 (z 10), .int .i64 (z 11), .int .i64 (z 12), .int .i64 (z 13), .int .i64 (z 14), .int .i64 (z 15)]) := Fp.out.ext xa
                                              have FA : Hid (HV wa n14 [.int .i64 A0, .int .i64 A1, .int .i64 A2]) := FA.out.ext xa
                                              have FB : Hid (HV wa n15 [.int .i64 B0, .int .i64 B1, .int .i64 B2]) := FB.out.ext xa
                                              have FC : Hid (HV wa n16 [.int .i64 C0, .int .i64 C1, .int .i64 C2]) := FC.out.ext xa
                                              have FSz : Hid (HV wa n17 [.int .i64 S0, .int .i64 S1, .int .i64 S2]) := FSz.out.ext xa
                                              have FU : Hid (HV wa n18 [.int .i64 U0, .int .i64 U1, .int .i64 U2]) := FU.out.ext xa
                                              have FM : Hid (HV wa n19 [.int .i64 M0, .int .i64 M1, .int .i64 M2]) := FM.out.ext xa
                                              have FN : Hid (HV wa n20 [.int .i64 N0, .int .i64 N1, .int .i64 N2]) := FN.out.ext xa
                                              have FX : Hid (Ext w wa) := FX.out.trans xa
                                              clear qp0 qp1 qp2 qp3 qp4 qp5 xa PA
                                              have ltpv : np < wa.heap.size := Fp.out.1
                                              have ltAv : n14 < wa.heap.size := FA.out.1
                                              have ltBv : n15 < wa.heap.size := FB.out.1
                                              have ltCv : n16 < wa.heap.size := FC.out.1
                                              have ltSv : n17 < wa.heap.size := FSz.out.1
                                              have ltUv : n18 < wa.heap.size := FU.out.1
                                              have ltMv : n19 < wa.heap.size := FM.out.1
                                              have ltNv : n20 < wa.heap.size := FN.out.1
                                              have Lv : Hid (w.heap.size ≤ wa.heap.size) := FX.out.size
                                              have Fp : Hid (HV (wa.alloc (.cells #[.int .i64 A0, .int .i64 A1, .int .i64 A2] 24)) np [.int .i64 (z 0), .int .i64 (z 1), .int .i64 (z 2), .int .i64 (z 3), .int .i64 (z 4), .int .i64 (z 5), .int .i64 (z 6), .int .i64 (z 7), .int .i64 (z 8), .int .i64 (z 9), .int .i64 (z 10), .int .i64 (z 11), .int .i64 (z 12), .int .i64 (z 13), .int .i64 (z 14), .int .i64 (z 15)]) := Fp.out.alloc _
                                              have FA : Hid (HV (wa.alloc (.cells #[.int .i64 A0, .int .i64 A1, .int .i64 A2] 24)) n14 [.int .i64 A0, .int .i64 A1, .int .i64 A2]) := FA.out.alloc _
                                              have FB : Hid (HV (wa.alloc (.cells #[.int .i64 A0, .int .i64 A1, .int .i64 A2] 24)) n15 [.int .i64 B0, .int .i64 B1, .int .i64 B2]) := FB.out.alloc _
                                              have FC : Hid (HV (wa.alloc (.cells #[.int .i64 A0, .int .i64 A1, .int .i64 A2] 24)) n16 [.int .i64 C0, .int .i64 C1, .int .i64 C2]) := FC.out.alloc _
                                              have FSz : Hid (HV (wa.alloc (.cells #[.int .i64 A0, .int .i64 A1, .int .i64 A2] 24)) n17 [.int .i64 S0, .int .i64 S1, .int .i64 S2]) := FSz.out.alloc _
                                              have FU : Hid (HV (wa.alloc (.cells #[.int .i64 A0, .int .i64 A1, .int .i64 A2] 24)) n18 [.int .i64 U0, .int .i64 U1, .int .i64 U2]) := FU.out.alloc _
                                              have FM : Hid (HV (wa.alloc (.cells #[.int .i64 A0, .int .i64 A1, .int .i64 A2] 24)) n19 [.int .i64 M0, .int .i64 M1, .int .i64 M2]) := FM.out.alloc _
                                              have FN : Hid (HV (wa.alloc (.cells #[.int .i64 A0, .int .i64 A1, .int .i64 A2] 24)) n20 [.int .i64 N0, .int .i64 N1, .int .i64 N2]) := FN.out.alloc _
                                              have Fv : Hid (HV (wa.alloc (.cells #[.int .i64 A0, .int .i64 A1, .int .i64 A2] 24)) wa.heap.size [.int .i64 A0, .int .i64 A1, .int .i64 A2]) := hv_at rfl
                                              have FX : Hid (Ext w (wa.alloc (.cells #[.int .i64 A0, .int .i64 A1, .int .i64 A2] 24))) := FX.out.alloc _
                                              generalize (wa.alloc (.cells #[.int .i64 A0, .int .i64 A1, .int .i64 A2] 24)) = wx10 at *
                                              generalize wa.heap.size = nv at *
                                              have qp0 : wx10.cell? ⟨np, 0, none⟩ = some (.int .i64 (z 0)) := Fp.out.c 0 rfl
                                              have qp1 : wx10.cell? ⟨np, 1, none⟩ = some (.int .i64 (z 1)) := Fp.out.c 1 rfl
                                              have qp2 : wx10.cell? ⟨np, 2, none⟩ = some (.int .i64 (z 2)) := Fp.out.c 2 rfl
                                              have qv0 : wx10.cell? ⟨nv, 0, none⟩ = some (.int .i64 A0) := Fv.out.c 0 rfl
                                              have qv1 : wx10.cell? ⟨nv, 1, none⟩ = some (.int .i64 A1) := Fv.out.c 1 rfl
                                              have qv2 : wx10.cell? ⟨nv, 2, none⟩ = some (.int .i64 A2) := Fv.out.c 2 rfl
                                              have qA0 : wx10.cell? ⟨n14, 0, none⟩ = some (.int .i64 A0) := FA.out.c 0 rfl
                                              have qA1 : wx10.cell? ⟨n14, 1, none⟩ = some (.int .i64 A1) := FA.out.c 1 rfl
                                              have qA2 : wx10.cell? ⟨n14, 2, none⟩ = some (.int .i64 A2) := FA.out.c 2 rfl
                                              go_upto_region 34 with (first | (go_at_call 16; refine (num3_any _ _).mono ?_; rintro e wx ⟨rfl, hwx⟩; have hwy := hwx.symm; clear hwx; subst hwy) | (go_at_call 17; refine (CK.out _).mono ?_; rintro e wb ⟨rfl, xb⟩; have kv0 : wb.cell? ⟨nv, 0, none⟩ = some (.int .i64 A0) := (Fv.out.ext xb).c 0 rfl; have kv1 : wb.cell? ⟨nv, 1, none⟩ = some (.int .i64 A1) := (Fv.out.ext xb).c 1 rfl; have kv2 : wb.cell? ⟨nv, 2, none⟩ = some (.int .i64 A2) := (Fv.out.ext xb).c 2 rfl; have kA0 : wb.cell? ⟨n14, 0, none⟩ = some (.int .i64 A0) := (FA.out.ext xb).c 0 rfl; have kA1 : wb.cell? ⟨n14, 1, none⟩ = some (.int .i64 A1) := (FA.out.ext xb).c 1 rfl; have kA2 : wb.cell? ⟨n14, 2, none⟩ = some (.int .i64 A2) := (FA.out.ext xb).c 2 rfl) | (go_at_call 18; refine (IA.out _).mono ?_; rintro e wd ⟨rfl, xd⟩; have xd : Ext wx10 wd := Ext.trans xb xd))
                                              have Fp : Hid (HV wd np [.int .i64 (z 0), .int .i64 (z 1), .int .i64 (z 2), .int .i64 (z 3), .int .i64 (z 4), .int .i64 (z 5), .int .i64 (z 6), .int .i64 (z 7), .int .i64 (z 8), .int .i64 (z 9), .int .i64 (z 10), .int .i64 (z 11), .int .i64 (z 12), .int .i64 (z 13), .int .i64 (z 14), .int .i64 (z 15)]) := Fp.out.ext xd
                                              have FA : Hid (HV wd n14 [.int .i64 A0, .int .i64 A1, .int .i64 A2]) := FA.out.ext xd
                                              have FB : Hid (HV wd n15 [.int .i64 B0, .int .i64 B1, .int .i64 B2]) := FB.out.ext xd
                                              have FC : Hid (HV wd n16 [.int .i64 C0, .int .i64 C1, .int .i64 C2]) := FC.out.ext xd
                                              have FSz : Hid (HV wd n17 [.int .i64 S0, .int .i64 S1, .int .i64 S2]) := FSz.out.ext xd
                                              have FU : Hid (HV wd n18 [.int .i64 U0, .int .i64 U1, .int .i64 U2]) := FU.out.ext xd
                                              have FM : Hid (HV wd n19 [.int .i64 M0, .int .i64 M1, .int .i64 M2]) := FM.out.ext xd
                                              have FN : Hid (HV wd n20 [.int .i64 N0, .int .i64 N1, .int .i64 N2]) := FN.out.ext xd
                                              have Fv : Hid (HV wd nv [.int .i64 A0, .int .i64 A1, .int .i64 A2]) := Fv.out.ext xd
                                              have FX : Hid (Ext w wd) := FX.out.trans xd
                                              clear qp0 qp1 qp2 qv0 qv1 qv2 qA0 qA1 qA2 xd xb CK IA kv0 kv1 kv2 kA0 kA1 kA2
                                              have qp0 : wd.cell? ⟨np, 0, none⟩ = some (.int .i64 (z 0)) := Fp.out.c 0 rfl
                                              have qp1 : wd.cell? ⟨np, 1, none⟩ = some (.int .i64 (z 1)) := Fp.out.c 1 rfl
                                              have qp2 : wd.cell? ⟨np, 2, none⟩ = some (.int .i64 (z 2)) := Fp.out.c 2 rfl
                                              have qp3 : wd.cell? ⟨np, 3, none⟩ = some (.int .i64 (z 3)) := Fp.out.c 3 rfl
                                              have qp4 : wd.cell? ⟨np, 4, none⟩ = some (.int .i64 (z 4)) := Fp.out.c 4 rfl
                                              have qp5 : wd.cell? ⟨np, 5, none⟩ = some (.int .i64 (z 5)) := Fp.out.c 5 rfl
                                              have qv0 : wd.cell? ⟨nv, 0, none⟩ = some (.int .i64 A0) := Fv.out.c 0 rfl
                                              have zv0 : wd.frozen? ⟨nv, 0, none⟩ = false := Fv.out.f 0 rfl
                                              have qv1 : wd.cell? ⟨nv, 1, none⟩ = some (.int .i64 A1) := Fv.out.c 1 rfl
                                              have zv1 : wd.frozen? ⟨nv, 1, none⟩ = false := Fv.out.f 1 rfl
                                              have qv2 : wd.cell? ⟨nv, 2, none⟩ = some (.int .i64 A2) := Fv.out.c 2 rfl
                                              have zv2 : wd.frozen? ⟨nv, 2, none⟩ = false := Fv.out.f 2 rfl
                                              go_upto_region 35 with (first | (go_at_call 19; refine (PB.out _).mono ?_; rintro e wpB ⟨rfl, xpB⟩; have kv0 : wpB.cell? ⟨nv, 0, none⟩ = some (.int .i64 A0) := (Fv.out.ext xpB).c 0 rfl; have zv0 : wpB.frozen? ⟨nv, 0, none⟩ = false := (Fv.out.ext xpB).f 0 rfl; have kv1 : wpB.cell? ⟨nv, 1, none⟩ = some (.int .i64 A1) := (Fv.out.ext xpB).c 1 rfl; have zv1 : wpB.frozen? ⟨nv, 1, none⟩ = false := (Fv.out.ext xpB).f 1 rfl; have kv2 : wpB.cell? ⟨nv, 2, none⟩ = some (.int .i64 A2) := (Fv.out.ext xpB).c 2 rfl; have zv2 : wpB.frozen? ⟨nv, 2, none⟩ = false := (Fv.out.ext xpB).f 2 rfl))
                                              have Fp : Hid (HV wpB np [.int .i64 (z 0), .int .i64 (z 1), .int .i64 (z 2), .int .i64 (z 3), .int .i64 (z 4), .int .i64 (z 5), .int .i64 (z 6), .int .i64 (z 7), .int .i64 (z 8), .int .i64 (z 9), .int .i64 (z 10), .int .i64 (z 11), .int .i64 (z 12), .int .i64 (z 13), .int .i64 (z 14), .int .i64 (z 15)]) := Fp.out.ext xpB
                                              have FA : Hid (HV wpB n14 [.int .i64 A0, .int .i64 A1, .int .i64 A2]) := FA.out.ext xpB
                                              have FB : Hid (HV wpB n15 [.int .i64 B0, .int .i64 B1, .int .i64 B2]) := FB.out.ext xpB
                                              have FC : Hid (HV wpB n16 [.int .i64 C0, .int .i64 C1, .int .i64 C2]) := FC.out.ext xpB
                                              have FSz : Hid (HV wpB n17 [.int .i64 S0, .int .i64 S1, .int .i64 S2]) := FSz.out.ext xpB
                                              have FU : Hid (HV wpB n18 [.int .i64 U0, .int .i64 U1, .int .i64 U2]) := FU.out.ext xpB
                                              have FM : Hid (HV wpB n19 [.int .i64 M0, .int .i64 M1, .int .i64 M2]) := FM.out.ext xpB
                                              have FN : Hid (HV wpB n20 [.int .i64 N0, .int .i64 N1, .int .i64 N2]) := FN.out.ext xpB
                                              have Fv : Hid (HV wpB nv [.int .i64 A0, .int .i64 A1, .int .i64 A2]) := Fv.out.ext xpB
                                              have FX : Hid (Ext w wpB) := FX.out.trans xpB
                                              clear qp0 qp1 qp2 qp3 qp4 qp5 qv0 qv1 qv2 kv0 kv1 kv2 zv0 zv1 zv2 xpB PB
                                              have Fp : Hid (HV (((wpB.setCell ⟨nv, 0, none⟩ (.int .i64 B0)).setCell ⟨nv, 1, none⟩ (.int .i64 B1)).setCell ⟨nv, 2, none⟩ (.int .i64 B2)) np [.int .i64 (z 0), .int .i64 (z 1), .int .i64 (z 2), .int .i64 (z 3), .int .i64 (z 4), .int .i64 (z 5), .int .i64 (z 6), .int .i64 (z 7), .int .i64 (z 8), .int .i64 (z 9), .int .i64 (z 10), .int .i64 (z 11), .int .i64 (z 12), .int .i64 (z 13), .int .i64 (z 14), .int .i64 (z 15)]) := (((Fp.out.far (by omega)).far (by omega)).far (by omega))
                                              have FA : Hid (HV (((wpB.setCell ⟨nv, 0, none⟩ (.int .i64 B0)).setCell ⟨nv, 1, none⟩ (.int .i64 B1)).setCell ⟨nv, 2, none⟩ (.int .i64 B2)) n14 [.int .i64 A0, .int .i64 A1, .int .i64 A2]) := (((FA.out.far (by omega)).far (by omega)).far (by omega))
                                              have FB : Hid (HV (((wpB.setCell ⟨nv, 0, none⟩ (.int .i64 B0)).setCell ⟨nv, 1, none⟩ (.int .i64 B1)).setCell ⟨nv, 2, none⟩ (.int .i64 B2)) n15 [.int .i64 B0, .int .i64 B1, .int .i64 B2]) := (((FB.out.far (by omega)).far (by omega)).far (by omega))
                                              have FC : Hid (HV (((wpB.setCell ⟨nv, 0, none⟩ (.int .i64 B0)).setCell ⟨nv, 1, none⟩ (.int .i64 B1)).setCell ⟨nv, 2, none⟩ (.int .i64 B2)) n16 [.int .i64 C0, .int .i64 C1, .int .i64 C2]) := (((FC.out.far (by omega)).far (by omega)).far (by omega))
                                              have FSz : Hid (HV (((wpB.setCell ⟨nv, 0, none⟩ (.int .i64 B0)).setCell ⟨nv, 1, none⟩ (.int .i64 B1)).setCell ⟨nv, 2, none⟩ (.int .i64 B2)) n17 [.int .i64 S0, .int .i64 S1, .int .i64 S2]) := (((FSz.out.far (by omega)).far (by omega)).far (by omega))
                                              have FU : Hid (HV (((wpB.setCell ⟨nv, 0, none⟩ (.int .i64 B0)).setCell ⟨nv, 1, none⟩ (.int .i64 B1)).setCell ⟨nv, 2, none⟩ (.int .i64 B2)) n18 [.int .i64 U0, .int .i64 U1, .int .i64 U2]) := (((FU.out.far (by omega)).far (by omega)).far (by omega))
                                              have FM : Hid (HV (((wpB.setCell ⟨nv, 0, none⟩ (.int .i64 B0)).setCell ⟨nv, 1, none⟩ (.int .i64 B1)).setCell ⟨nv, 2, none⟩ (.int .i64 B2)) n19 [.int .i64 M0, .int .i64 M1, .int .i64 M2]) := (((FM.out.far (by omega)).far (by omega)).far (by omega))
                                              have FN : Hid (HV (((wpB.setCell ⟨nv, 0, none⟩ (.int .i64 B0)).setCell ⟨nv, 1, none⟩ (.int .i64 B1)).setCell ⟨nv, 2, none⟩ (.int .i64 B2)) n20 [.int .i64 N0, .int .i64 N1, .int .i64 N2]) := (((FN.out.far (by omega)).far (by omega)).far (by omega))
                                              have Fv : Hid (HV (((wpB.setCell ⟨nv, 0, none⟩ (.int .i64 B0)).setCell ⟨nv, 1, none⟩ (.int .i64 B1)).setCell ⟨nv, 2, none⟩ (.int .i64 B2)) nv [.int .i64 B0, .int .i64 B1, .int .i64 B2]) := (((Fv.out.set 0 (.int .i64 B0)).set 1 (.int .i64 B1)).set 2 (.int .i64 B2))
                                              have FX : Hid (Ext w (((wpB.setCell ⟨nv, 0, none⟩ (.int .i64 B0)).setCell ⟨nv, 1, none⟩ (.int .i64 B1)).setCell ⟨nv, 2, none⟩ (.int .i64 B2))) := (((FX.out.set (p := ⟨nv, 0, none⟩) Lv.out (.int .i64 B0)).set (p := ⟨nv, 1, none⟩) Lv.out (.int .i64 B1)).set (p := ⟨nv, 2, none⟩) Lv.out (.int .i64 B2))
                                              generalize (((wpB.setCell ⟨nv, 0, none⟩ (.int .i64 B0)).setCell ⟨nv, 1, none⟩ (.int .i64 B1)).setCell ⟨nv, 2, none⟩ (.int .i64 B2)) = wx11 at *
                                              have qv0 : wx11.cell? ⟨nv, 0, none⟩ = some (.int .i64 B0) := Fv.out.c 0 rfl
                                              have qv1 : wx11.cell? ⟨nv, 1, none⟩ = some (.int .i64 B1) := Fv.out.c 1 rfl
                                              have qv2 : wx11.cell? ⟨nv, 2, none⟩ = some (.int .i64 B2) := Fv.out.c 2 rfl
                                              have qB0 : wx11.cell? ⟨n15, 0, none⟩ = some (.int .i64 B0) := FB.out.c 0 rfl
                                              have qB1 : wx11.cell? ⟨n15, 1, none⟩ = some (.int .i64 B1) := FB.out.c 1 rfl
                                              have qB2 : wx11.cell? ⟨n15, 2, none⟩ = some (.int .i64 B2) := FB.out.c 2 rfl
                                              go_upto_region 37 with (first | (go_at_call 18; refine (IB.out _).mono ?_; rintro e wiB ⟨rfl, xiB⟩))
                                              have Fp : Hid (HV wiB np [.int .i64 (z 0), .int .i64 (z 1), .int .i64 (z 2), .int .i64 (z 3), .int .i64 (z 4), .int .i64 (z 5), .int .i64 (z 6), .int .i64 (z 7), .int .i64 (z 8), .int .i64 (z 9), .int .i64 (z 10), .int .i64 (z 11), .int .i64 (z 12), .int .i64 (z 13), .int .i64 (z 14), .int .i64 (z 15)]) := Fp.out.ext xiB
                                              have FA : Hid (HV wiB n14 [.int .i64 A0, .int .i64 A1, .int .i64 A2]) := FA.out.ext xiB
                                              have FB : Hid (HV wiB n15 [.int .i64 B0, .int .i64 B1, .int .i64 B2]) := FB.out.ext xiB
                                              have FC : Hid (HV wiB n16 [.int .i64 C0, .int .i64 C1, .int .i64 C2]) := FC.out.ext xiB
                                              have FSz : Hid (HV wiB n17 [.int .i64 S0, .int .i64 S1, .int .i64 S2]) := FSz.out.ext xiB
                                              have FU : Hid (HV wiB n18 [.int .i64 U0, .int .i64 U1, .int .i64 U2]) := FU.out.ext xiB
                                              have FM : Hid (HV wiB n19 [.int .i64 M0, .int .i64 M1, .int .i64 M2]) := FM.out.ext xiB
                                              have FN : Hid (HV wiB n20 [.int .i64 N0, .int .i64 N1, .int .i64 N2]) := FN.out.ext xiB
                                              have Fv : Hid (HV wiB nv [.int .i64 B0, .int .i64 B1, .int .i64 B2]) := Fv.out.ext xiB
                                              have FX : Hid (Ext w wiB) := FX.out.trans xiB
                                              clear qv0 qv1 qv2 qB0 qB1 qB2 xiB IB
                                              have qp0 : wiB.cell? ⟨np, 0, none⟩ = some (.int .i64 (z 0)) := Fp.out.c 0 rfl
                                              have qp1 : wiB.cell? ⟨np, 1, none⟩ = some (.int .i64 (z 1)) := Fp.out.c 1 rfl
                                              have qp2 : wiB.cell? ⟨np, 2, none⟩ = some (.int .i64 (z 2)) := Fp.out.c 2 rfl
                                              have qp3 : wiB.cell? ⟨np, 3, none⟩ = some (.int .i64 (z 3)) := Fp.out.c 3 rfl
                                              have qp4 : wiB.cell? ⟨np, 4, none⟩ = some (.int .i64 (z 4)) := Fp.out.c 4 rfl
                                              have qp5 : wiB.cell? ⟨np, 5, none⟩ = some (.int .i64 (z 5)) := Fp.out.c 5 rfl
                                              have qv0 : wiB.cell? ⟨nv, 0, none⟩ = some (.int .i64 B0) := Fv.out.c 0 rfl
                                              have zv0 : wiB.frozen? ⟨nv, 0, none⟩ = false := Fv.out.f 0 rfl
                                              have qv1 : wiB.cell? ⟨nv, 1, none⟩ = some (.int .i64 B1) := Fv.out.c 1 rfl
                                              have zv1 : wiB.frozen? ⟨nv, 1, none⟩ = false := Fv.out.f 1 rfl
                                              have qv2 : wiB.cell? ⟨nv, 2, none⟩ = some (.int .i64 B2) := Fv.out.c 2 rfl
                                              have zv2 : wiB.frozen? ⟨nv, 2, none⟩ = false := Fv.out.f 2 rfl
                                              go_upto_region 38 with (first | (go_at_call 20; refine (PC.out _).mono ?_; rintro e wpC ⟨rfl, xpC⟩; have kv0 : wpC.cell? ⟨nv, 0, none⟩ = some (.int .i64 B0) := (Fv.out.ext xpC).c 0 rfl; have zv0 : wpC.frozen? ⟨nv, 0, none⟩ = false := (Fv.out.ext xpC).f 0 rfl; have kv1 : wpC.cell? ⟨nv, 1, none⟩ = some (.int .i64 B1) := (Fv.out.ext xpC).c 1 rfl; have zv1 : wpC.frozen? ⟨nv, 1, none⟩ = false := (Fv.out.ext xpC).f 1 rfl; have kv2 : wpC.cell? ⟨nv, 2, none⟩ = some (.int .i64 B2) := (Fv.out.ext xpC).c 2 rfl; have zv2 : wpC.frozen? ⟨nv, 2, none⟩ = false := (Fv.out.ext xpC).f 2 rfl))
                                              have Fp : Hid (HV wpC np [.int .i64 (z 0), .int .i64 (z 1), .int .i64 (z 2), .int .i64 (z 3), .int .i64 (z 4), .int .i64 (z 5), .int .i64 (z 6), .int .i64 (z 7), .int .i64 (z 8), .int .i64 (z 9), .int .i64 (z 10), .int .i64 (z 11), .int .i64 (z 12), .int .i64 (z 13), .int .i64 (z 14), .int .i64 (z 15)]) := Fp.out.ext xpC
                                              have FA : Hid (HV wpC n14 [.int .i64 A0, .int .i64 A1, .int .i64 A2]) := FA.out.ext xpC
                                              have FB : Hid (HV wpC n15 [.int .i64 B0, .int .i64 B1, .int .i64 B2]) := FB.out.ext xpC
                                              have FC : Hid (HV wpC n16 [.int .i64 C0, .int .i64 C1, .int .i64 C2]) := FC.out.ext xpC
                                              have FSz : Hid (HV wpC n17 [.int .i64 S0, .int .i64 S1, .int .i64 S2]) := FSz.out.ext xpC
                                              have FU : Hid (HV wpC n18 [.int .i64 U0, .int .i64 U1, .int .i64 U2]) := FU.out.ext xpC
                                              have FM : Hid (HV wpC n19 [.int .i64 M0, .int .i64 M1, .int .i64 M2]) := FM.out.ext xpC
                                              have FN : Hid (HV wpC n20 [.int .i64 N0, .int .i64 N1, .int .i64 N2]) := FN.out.ext xpC
                                              have Fv : Hid (HV wpC nv [.int .i64 B0, .int .i64 B1, .int .i64 B2]) := Fv.out.ext xpC
                                              have FX : Hid (Ext w wpC) := FX.out.trans xpC
                                              clear qp0 qp1 qp2 qp3 qp4 qp5 qv0 qv1 qv2 kv0 kv1 kv2 zv0 zv1 zv2 xpC PC
                                              have Fp : Hid (HV (((wpC.setCell ⟨nv, 0, none⟩ (.int .i64 C0)).setCell ⟨nv, 1, none⟩ (.int .i64 C1)).setCell ⟨nv, 2, none⟩ (.int .i64 C2)) np [.int .i64 (z 0), .int .i64 (z 1), .int .i64 (z 2), .int .i64 (z 3), .int .i64 (z 4), .int .i64 (z 5), .int .i64 (z 6), .int .i64 (z 7), .int .i64 (z 8), .int .i64 (z 9), .int .i64 (z 10), .int .i64 (z 11), .int .i64 (z 12), .int .i64 (z 13), .int .i64 (z 14), .int .i64 (z 15)]) := (((Fp.out.far (by omega)).far (by omega)).far (by omega))
                                              have FA : Hid (HV (((wpC.setCell ⟨nv, 0, none⟩ (.int .i64 C0)).setCell ⟨nv, 1, none⟩ (.int .i64 C1)).setCell ⟨nv, 2, none⟩ (.int .i64 C2)) n14 [.int .i64 A0, .int .i64 A1, .int .i64 A2]) := (((FA.out.far (by omega)).far (by omega)).far (by omega))
                                              have FB : Hid (HV (((wpC.setCell ⟨nv, 0, none⟩ (.int .i64 C0)).setCell ⟨nv, 1, none⟩ (.int .i64 C1)).setCell ⟨nv, 2, none⟩ (.int .i64 C2)) n15 [.int .i64 B0, .int .i64 B1, .int .i64 B2]) := (((FB.out.far (by omega)).far (by omega)).far (by omega))
                                              have FC : Hid (HV (((wpC.setCell ⟨nv, 0, none⟩ (.int .i64 C0)).setCell ⟨nv, 1, none⟩ (.int .i64 C1)).setCell ⟨nv, 2, none⟩ (.int .i64 C2)) n16 [.int .i64 C0, .int .i64 C1, .int .i64 C2]) := (((FC.out.far (by omega)).far (by omega)).far (by omega))
                                              have FSz : Hid (HV (((wpC.setCell ⟨nv, 0, none⟩ (.int .i64 C0)).setCell ⟨nv, 1, none⟩ (.int .i64 C1)).setCell ⟨nv, 2, none⟩ (.int .i64 C2)) n17 [.int .i64 S0, .int .i64 S1, .int .i64 S2]) := (((FSz.out.far (by omega)).far (by omega)).far (by omega))
                                              have FU : Hid (HV (((wpC.setCell ⟨nv, 0, none⟩ (.int .i64 C0)).setCell ⟨nv, 1, none⟩ (.int .i64 C1)).setCell ⟨nv, 2, none⟩ (.int .i64 C2)) n18 [.int .i64 U0, .int .i64 U1, .int .i64 U2]) := (((FU.out.far (by omega)).far (by omega)).far (by omega))
                                              have FM : Hid (HV (((wpC.setCell ⟨nv, 0, none⟩ (.int .i64 C0)).setCell ⟨nv, 1, none⟩ (.int .i64 C1)).setCell ⟨nv, 2, none⟩ (.int .i64 C2)) n19 [.int .i64 M0, .int .i64 M1, .int .i64 M2]) := (((FM.out.far (by omega)).far (by omega)).far (by omega))
                                              have FN : Hid (HV (((wpC.setCell ⟨nv, 0, none⟩ (.int .i64 C0)).setCell ⟨nv, 1, none⟩ (.int .i64 C1)).setCell ⟨nv, 2, none⟩ (.int .i64 C2)) n20 [.int .i64 N0, .int .i64 N1, .int .i64 N2]) := (((FN.out.far (by omega)).far (by omega)).far (by omega))
                                              have Fv : Hid (HV (((wpC.setCell ⟨nv, 0, none⟩ (.int .i64 C0)).setCell ⟨nv, 1, none⟩ (.int .i64 C1)).setCell ⟨nv, 2, none⟩ (.int .i64 C2)) nv [.int .i64 C0, .int .i64 C1, .int .i64 C2]) := (((Fv.out.set 0 (.int .i64 C0)).set 1 (.int .i64 C1)).set 2 (.int .i64 C2))
                                              have FX : Hid (Ext w (((wpC.setCell ⟨nv, 0, none⟩ (.int .i64 C0)).setCell ⟨nv, 1, none⟩ (.int .i64 C1)).setCell ⟨nv, 2, none⟩ (.int .i64 C2))) := (((FX.out.set (p := ⟨nv, 0, none⟩) Lv.out (.int .i64 C0)).set (p := ⟨nv, 1, none⟩) Lv.out (.int .i64 C1)).set (p := ⟨nv, 2, none⟩) Lv.out (.int .i64 C2))
                                              generalize (((wpC.setCell ⟨nv, 0, none⟩ (.int .i64 C0)).setCell ⟨nv, 1, none⟩ (.int .i64 C1)).setCell ⟨nv, 2, none⟩ (.int .i64 C2)) = wx12 at *
                                              have qv0 : wx12.cell? ⟨nv, 0, none⟩ = some (.int .i64 C0) := Fv.out.c 0 rfl
                                              have qv1 : wx12.cell? ⟨nv, 1, none⟩ = some (.int .i64 C1) := Fv.out.c 1 rfl
                                              have qv2 : wx12.cell? ⟨nv, 2, none⟩ = some (.int .i64 C2) := Fv.out.c 2 rfl
                                              have qC0 : wx12.cell? ⟨n16, 0, none⟩ = some (.int .i64 C0) := FC.out.c 0 rfl
                                              have qC1 : wx12.cell? ⟨n16, 1, none⟩ = some (.int .i64 C1) := FC.out.c 1 rfl
                                              have qC2 : wx12.cell? ⟨n16, 2, none⟩ = some (.int .i64 C2) := FC.out.c 2 rfl
                                              go_upto_region 40 with (first | (go_at_call 18; refine (IC.out _).mono ?_; rintro e wiC ⟨rfl, xiC⟩))
                                              have Fp : Hid (HV wiC np [.int .i64 (z 0), .int .i64 (z 1), .int .i64 (z 2), .int .i64 (z 3), .int .i64 (z 4), .int .i64 (z 5), .int .i64 (z 6), .int .i64 (z 7), .int .i64 (z 8), .int .i64 (z 9), .int .i64 (z 10), .int .i64 (z 11), .int .i64 (z 12), .int .i64 (z 13), .int .i64 (z 14), .int .i64 (z 15)]) := Fp.out.ext xiC
                                              have FA : Hid (HV wiC n14 [.int .i64 A0, .int .i64 A1, .int .i64 A2]) := FA.out.ext xiC
                                              have FB : Hid (HV wiC n15 [.int .i64 B0, .int .i64 B1, .int .i64 B2]) := FB.out.ext xiC
                                              have FC : Hid (HV wiC n16 [.int .i64 C0, .int .i64 C1, .int .i64 C2]) := FC.out.ext xiC
                                              have FSz : Hid (HV wiC n17 [.int .i64 S0, .int .i64 S1, .int .i64 S2]) := FSz.out.ext xiC
                                              have FU : Hid (HV wiC n18 [.int .i64 U0, .int .i64 U1, .int .i64 U2]) := FU.out.ext xiC
                                              have FM : Hid (HV wiC n19 [.int .i64 M0, .int .i64 M1, .int .i64 M2]) := FM.out.ext xiC
                                              have FN : Hid (HV wiC n20 [.int .i64 N0, .int .i64 N1, .int .i64 N2]) := FN.out.ext xiC
                                              have Fv : Hid (HV wiC nv [.int .i64 C0, .int .i64 C1, .int .i64 C2]) := Fv.out.ext xiC
                                              have FX : Hid (Ext w wiC) := FX.out.trans xiC
                                              clear qv0 qv1 qv2 qC0 qC1 qC2 xiC IC
                                              have qp0 : wiC.cell? ⟨np, 0, none⟩ = some (.int .i64 (z 0)) := Fp.out.c 0 rfl
                                              have qp1 : wiC.cell? ⟨np, 1, none⟩ = some (.int .i64 (z 1)) := Fp.out.c 1 rfl
                                              have qp2 : wiC.cell? ⟨np, 2, none⟩ = some (.int .i64 (z 2)) := Fp.out.c 2 rfl
                                              have qp6 : wiC.cell? ⟨np, 6, none⟩ = some (.int .i64 (z 6)) := Fp.out.c 6 rfl
                                              have qv0 : wiC.cell? ⟨nv, 0, none⟩ = some (.int .i64 C0) := Fv.out.c 0 rfl
                                              have zv0 : wiC.frozen? ⟨nv, 0, none⟩ = false := Fv.out.f 0 rfl
                                              have qv1 : wiC.cell? ⟨nv, 1, none⟩ = some (.int .i64 C1) := Fv.out.c 1 rfl
                                              have zv1 : wiC.frozen? ⟨nv, 1, none⟩ = false := Fv.out.f 1 rfl
                                              have qv2 : wiC.cell? ⟨nv, 2, none⟩ = some (.int .i64 C2) := Fv.out.c 2 rfl
                                              have zv2 : wiC.frozen? ⟨nv, 2, none⟩ = false := Fv.out.f 2 rfl
                                              go_upto_region 41 with (first | (go_at_call 21; refine (PS.out _).mono ?_; rintro e wpS ⟨rfl, xpS⟩; have kv0 : wpS.cell? ⟨nv, 0, none⟩ = some (.int .i64 C0) := (Fv.out.ext xpS).c 0 rfl; have zv0 : wpS.frozen? ⟨nv, 0, none⟩ = false := (Fv.out.ext xpS).f 0 rfl; have kv1 : wpS.cell? ⟨nv, 1, none⟩ = some (.int .i64 C1) := (Fv.out.ext xpS).c 1 rfl; have zv1 : wpS.frozen? ⟨nv, 1, none⟩ = false := (Fv.out.ext xpS).f 1 rfl; have kv2 : wpS.cell? ⟨nv, 2, none⟩ = some (.int .i64 C2) := (Fv.out.ext xpS).c 2 rfl; have zv2 : wpS.frozen? ⟨nv, 2, none⟩ = false := (Fv.out.ext xpS).f 2 rfl))
                                              have Fp : Hid (HV wpS np [.int .i64 (z 0), .int .i64 (z 1), .int .i64 (z 2), .int .i64 (z 3), .int .i64 (z 4), .int .i64 (z 5), .int .i64 (z 6), .int .i64 (z 7), .int .i64 (z 8), .int .i64 (z 9), .int .i64 (z 10), .int .i64 (z 11), .int .i64 (z 12), .int .i64 (z 13), .int .i64 (z 14), .int .i64 (z 15)]) := Fp.out.ext xpS
                                              have FA : Hid (HV wpS n14 [.int .i64 A0, .int .i64 A1, .int .i64 A2]) := FA.out.ext xpS
                                              have FB : Hid (HV wpS n15 [.int .i64 B0, .int .i64 B1, .int .i64 B2]) := FB.out.ext xpS
                                              have FC : Hid (HV wpS n16 [.int .i64 C0, .int .i64 C1, .int .i64 C2]) := FC.out.ext xpS
                                              have FSz : Hid (HV wpS n17 [.int .i64 S0, .int .i64 S1, .int .i64 S2]) := FSz.out.ext xpS
                                              have FU : Hid (HV wpS n18 [.int .i64 U0, .int .i64 U1, .int .i64 U2]) := FU.out.ext xpS
                                              have FM : Hid (HV wpS n19 [.int .i64 M0, .int .i64 M1, .int .i64 M2]) := FM.out.ext xpS
                                              have FN : Hid (HV wpS n20 [.int .i64 N0, .int .i64 N1, .int .i64 N2]) := FN.out.ext xpS
                                              have Fv : Hid (HV wpS nv [.int .i64 C0, .int .i64 C1, .int .i64 C2]) := Fv.out.ext xpS
                                              have FX : Hid (Ext w wpS) := FX.out.trans xpS
                                              clear qp0 qp1 qp2 qp6 qv0 qv1 qv2 kv0 kv1 kv2 zv0 zv1 zv2 xpS PS
                                              have Fp : Hid (HV (((wpS.setCell ⟨nv, 0, none⟩ (.int .i64 S0)).setCell ⟨nv, 1, none⟩ (.int .i64 S1)).setCell ⟨nv, 2, none⟩ (.int .i64 S2)) np [.int .i64 (z 0), .int .i64 (z 1), .int .i64 (z 2), .int .i64 (z 3), .int .i64 (z 4), .int .i64 (z 5), .int .i64 (z 6), .int .i64 (z 7), .int .i64 (z 8), .int .i64 (z 9), .int .i64 (z 10), .int .i64 (z 11), .int .i64 (z 12), .int .i64 (z 13), .int .i64 (z 14), .int .i64 (z 15)]) := (((Fp.out.far (by omega)).far (by omega)).far (by omega))
                                              have FA : Hid (HV (((wpS.setCell ⟨nv, 0, none⟩ (.int .i64 S0)).setCell ⟨nv, 1, none⟩ (.int .i64 S1)).setCell ⟨nv, 2, none⟩ (.int .i64 S2)) n14 [.int .i64 A0, .int .i64 A1, .int .i64 A2]) := (((FA.out.far (by omega)).far (by omega)).far (by omega))
                                              have FB : Hid (HV (((wpS.setCell ⟨nv, 0, none⟩ (.int .i64 S0)).setCell ⟨nv, 1, none⟩ (.int .i64 S1)).setCell ⟨nv, 2, none⟩ (.int .i64 S2)) n15 [.int .i64 B0, .int .i64 B1, .int .i64 B2]) := (((FB.out.far (by omega)).far (by omega)).far (by omega))
                                              have FC : Hid (HV (((wpS.setCell ⟨nv, 0, none⟩ (.int .i64 S0)).setCell ⟨nv, 1, none⟩ (.int .i64 S1)).setCell ⟨nv, 2, none⟩ (.int .i64 S2)) n16 [.int .i64 C0, .int .i64 C1, .int .i64 C2]) := (((FC.out.far (by omega)).far (by omega)).far (by omega))
                                              have FSz : Hid (HV (((wpS.setCell ⟨nv, 0, none⟩ (.int .i64 S0)).setCell ⟨nv, 1, none⟩ (.int .i64 S1)).setCell ⟨nv, 2, none⟩ (.int .i64 S2)) n17 [.int .i64 S0, .int .i64 S1, .int .i64 S2]) := (((FSz.out.far (by omega)).far (by omega)).far (by omega))
                                              have FU : Hid (HV (((wpS.setCell ⟨nv, 0, none⟩ (.int .i64 S0)).setCell ⟨nv, 1, none⟩ (.int .i64 S1)).setCell ⟨nv, 2, none⟩ (.int .i64 S2)) n18 [.int .i64 U0, .int .i64 U1, .int .i64 U2]) := (((FU.out.far (by omega)).far (by omega)).far (by omega))
                                              have FM : Hid (HV (((wpS.setCell ⟨nv, 0, none⟩ (.int .i64 S0)).setCell ⟨nv, 1, none⟩ (.int .i64 S1)).setCell ⟨nv, 2, none⟩ (.int .i64 S2)) n19 [.int .i64 M0, .int .i64 M1, .int .i64 M2]) := (((FM.out.far (by omega)).far (by omega)).far (by omega))
                                              have FN : Hid (HV (((wpS.setCell ⟨nv, 0, none⟩ (.int .i64 S0)).setCell ⟨nv, 1, none⟩ (.int .i64 S1)).setCell ⟨nv, 2, none⟩ (.int .i64 S2)) n20 [.int .i64 N0, .int .i64 N1, .int .i64 N2]) := (((FN.out.far (by omega)).far (by omega)).far (by omega))
                                              have Fv : Hid (HV (((wpS.setCell ⟨nv, 0, none⟩ (.int .i64 S0)).setCell ⟨nv, 1, none⟩ (.int .i64 S1)).setCell ⟨nv, 2, none⟩ (.int .i64 S2)) nv [.int .i64 S0, .int .i64 S1, .int .i64 S2]) := (((Fv.out.set 0 (.int .i64 S0)).set 1 (.int .i64 S1)).set 2 (.int .i64 S2))
                                              have FX : Hid (Ext w (((wpS.setCell ⟨nv, 0, none⟩ (.int .i64 S0)).setCell ⟨nv, 1, none⟩ (.int .i64 S1)).setCell ⟨nv, 2, none⟩ (.int .i64 S2))) := (((FX.out.set (p := ⟨nv, 0, none⟩) Lv.out (.int .i64 S0)).set (p := ⟨nv, 1, none⟩) Lv.out (.int .i64 S1)).set (p := ⟨nv, 2, none⟩) Lv.out (.int .i64 S2))
                                              generalize (((wpS.setCell ⟨nv, 0, none⟩ (.int .i64 S0)).setCell ⟨nv, 1, none⟩ (.int .i64 S1)).setCell ⟨nv, 2, none⟩ (.int .i64 S2)) = wx13 at *
                                              have qv0 : wx13.cell? ⟨nv, 0, none⟩ = some (.int .i64 S0) := Fv.out.c 0 rfl
                                              have qv1 : wx13.cell? ⟨nv, 1, none⟩ = some (.int .i64 S1) := Fv.out.c 1 rfl
                                              have qv2 : wx13.cell? ⟨nv, 2, none⟩ = some (.int .i64 S2) := Fv.out.c 2 rfl
                                              have qS0 : wx13.cell? ⟨n17, 0, none⟩ = some (.int .i64 S0) := FSz.out.c 0 rfl
                                              have qS1 : wx13.cell? ⟨n17, 1, none⟩ = some (.int .i64 S1) := FSz.out.c 1 rfl
                                              have qS2 : wx13.cell? ⟨n17, 2, none⟩ = some (.int .i64 S2) := FSz.out.c 2 rfl
                                              go_upto_region 43 with (first | (go_at_call 18; refine (IS.out _).mono ?_; rintro e wiS ⟨rfl, xiS⟩))
                                              have Fp : Hid (HV wiS np [.int .i64 (z 0), .int .i64 (z 1), .int .i64 (z 2), .int .i64 (z 3), .int .i64 (z 4), .int .i64 (z 5), .int .i64 (z 6), .int .i64 (z 7), .int .i64 (z 8), .int .i64 (z 9), .int .i64 (z 10), .int .i64 (z 11), .int .i64 (z 12), .int .i64 (z 13), .int .i64 (z 14), .int .i64 (z 15)]) := Fp.out.ext xiS
                                              have FA : Hid (HV wiS n14 [.int .i64 A0, .int .i64 A1, .int .i64 A2]) := FA.out.ext xiS
                                              have FB : Hid (HV wiS n15 [.int .i64 B0, .int .i64 B1, .int .i64 B2]) := FB.out.ext xiS
                                              have FC : Hid (HV wiS n16 [.int .i64 C0, .int .i64 C1, .int .i64 C2]) := FC.out.ext xiS
                                              have FSz : Hid (HV wiS n17 [.int .i64 S0, .int .i64 S1, .int .i64 S2]) := FSz.out.ext xiS
                                              have FU : Hid (HV wiS n18 [.int .i64 U0, .int .i64 U1, .int .i64 U2]) := FU.out.ext xiS
                                              have FM : Hid (HV wiS n19 [.int .i64 M0, .int .i64 M1, .int .i64 M2]) := FM.out.ext xiS
                                              have FN : Hid (HV wiS n20 [.int .i64 N0, .int .i64 N1, .int .i64 N2]) := FN.out.ext xiS
                                              have Fv : Hid (HV wiS nv [.int .i64 S0, .int .i64 S1, .int .i64 S2]) := Fv.out.ext xiS
                                              have FX : Hid (Ext w wiS) := FX.out.trans xiS
                                              clear qv0 qv1 qv2 qS0 qS1 qS2 xiS IS
                                              have qp0 : wiS.cell? ⟨np, 0, none⟩ = some (.int .i64 (z 0)) := Fp.out.c 0 rfl
                                              have qp1 : wiS.cell? ⟨np, 1, none⟩ = some (.int .i64 (z 1)) := Fp.out.c 1 rfl
                                              have qp2 : wiS.cell? ⟨np, 2, none⟩ = some (.int .i64 (z 2)) := Fp.out.c 2 rfl
                                              have qv0 : wiS.cell? ⟨nv, 0, none⟩ = some (.int .i64 S0) := Fv.out.c 0 rfl
                                              have zv0 : wiS.frozen? ⟨nv, 0, none⟩ = false := Fv.out.f 0 rfl
                                              have qv1 : wiS.cell? ⟨nv, 1, none⟩ = some (.int .i64 S1) := Fv.out.c 1 rfl
                                              have zv1 : wiS.frozen? ⟨nv, 1, none⟩ = false := Fv.out.f 1 rfl
                                              have qv2 : wiS.cell? ⟨nv, 2, none⟩ = some (.int .i64 S2) := Fv.out.c 2 rfl
                                              have zv2 : wiS.frozen? ⟨nv, 2, none⟩ = false := Fv.out.f 2 rfl
                                              go_upto_region 44 with (first | (go_at_call 22; refine (PU.out _).mono ?_; rintro e wpU ⟨rfl, xpU⟩; have kv0 : wpU.cell? ⟨nv, 0, none⟩ = some (.int .i64 S0) := (Fv.out.ext xpU).c 0 rfl; have zv0 : wpU.frozen? ⟨nv, 0, none⟩ = false := (Fv.out.ext xpU).f 0 rfl; have kv1 : wpU.cell? ⟨nv, 1, none⟩ = some (.int .i64 S1) := (Fv.out.ext xpU).c 1 rfl; have zv1 : wpU.frozen? ⟨nv, 1, none⟩ = false := (Fv.out.ext xpU).f 1 rfl; have kv2 : wpU.cell? ⟨nv, 2, none⟩ = some (.int .i64 S2) := (Fv.out.ext xpU).c 2 rfl; have zv2 : wpU.frozen? ⟨nv, 2, none⟩ = false := (Fv.out.ext xpU).f 2 rfl))
                                              have Fp : Hid (HV wpU np [.int .i64 (z 0), .int .i64 (z 1), .int .i64 (z 2), .int .i64 (z 3), .int .i64 (z 4), .int .i64 (z 5), .int .i64 (z 6), .int .i64 (z 7), .int .i64 (z 8), .int .i64 (z 9), .int .i64 (z 10), .int .i64 (z 11), .int .i64 (z 12), .int .i64 (z 13), .int .i64 (z 14), .int .i64 (z 15)]) := Fp.out.ext xpU
                                              have FA : Hid (HV wpU n14 [.int .i64 A0, .int .i64 A1, .int .i64 A2]) := FA.out.ext xpU
                                              have FB : Hid (HV wpU n15 [.int .i64 B0, .int .i64 B1, .int .i64 B2]) := FB.out.ext xpU
                                              have FC : Hid (HV wpU n16 [.int .i64 C0, .int .i64 C1, .int .i64 C2]) := FC.out.ext xpU
                                              have FSz : Hid (HV wpU n17 [.int .i64 S0, .int .i64 S1, .int .i64 S2]) := FSz.out.ext xpU
                                              have FU : Hid (HV wpU n18 [.int .i64 U0, .int .i64 U1, .int .i64 U2]) := FU.out.ext xpU
                                              have FM : Hid (HV wpU n19 [.int .i64 M0, .int .i64 M1, .int .i64 M2]) := FM.out.ext xpU
                                              have FN : Hid (HV wpU n20 [.int .i64 N0, .int .i64 N1, .int .i64 N2]) := FN.out.ext xpU
                                              have Fv : Hid (HV wpU nv [.int .i64 S0, .int .i64 S1, .int .i64 S2]) := Fv.out.ext xpU
                                              have FX : Hid (Ext w wpU) := FX.out.trans xpU
                                              clear qp0 qp1 qp2 qv0 qv1 qv2 kv0 kv1 kv2 zv0 zv1 zv2 xpU PU
                                              have Fp : Hid (HV (((wpU.setCell ⟨nv, 0, none⟩ (.int .i64 U0)).setCell ⟨nv, 1, none⟩ (.int .i64 U1)).setCell ⟨nv, 2, none⟩ (.int .i64 U2)) np [.int .i64 (z 0), .int .i64 (z 1), .int .i64 (z 2), .int .i64 (z 3), .int .i64 (z 4), .int .i64 (z 5), .int .i64 (z 6), .int .i64 (z 7), .int .i64 (z 8), .int .i64 (z 9), .int .i64 (z 10), .int .i64 (z 11), .int .i64 (z 12), .int .i64 (z 13), .int .i64 (z 14), .int .i64 (z 15)]) := (((Fp.out.far (by omega)).far (by omega)).far (by omega))
                                              have FA : Hid (HV (((wpU.setCell ⟨nv, 0, none⟩ (.int .i64 U0)).setCell ⟨nv, 1, none⟩ (.int .i64 U1)).setCell ⟨nv, 2, none⟩ (.int .i64 U2)) n14 [.int .i64 A0, .int .i64 A1, .int .i64 A2]) := (((FA.out.far (by omega)).far (by omega)).far (by omega))
                                              have FB : Hid (HV (((wpU.setCell ⟨nv, 0, none⟩ (.int .i64 U0)).setCell ⟨nv, 1, none⟩ (.int .i64 U1)).setCell ⟨nv, 2, none⟩ (.int .i64 U2)) n15 [.int .i64 B0, .int .i64 B1, .int .i64 B2]) := (((FB.out.far (by omega)).far (by omega)).far (by omega))
                                              have FC : Hid (HV (((wpU.setCell ⟨nv, 0, none⟩ (.int .i64 U0)).setCell ⟨nv, 1, none⟩ (.int .i64 U1)).setCell ⟨nv, 2, none⟩ (.int .i64 U2)) n16 [.int .i64 C0, .int .i64 C1, .int .i64 C2]) := (((FC.out.far (by omega)).far (by omega)).far (by omega))
                                              have FSz : Hid (HV (((wpU.setCell ⟨nv, 0, none⟩ (.int .i64 U0)).setCell ⟨nv, 1, none⟩ (.int .i64 U1)).setCell ⟨nv, 2, none⟩ (.int .i64 U2)) n17 [.int .i64 S0, .int .i64 S1, .int .i64 S2]) := (((FSz.out.far (by omega)).far (by omega)).far (by omega))
                                              have FU : Hid (HV (((wpU.setCell ⟨nv, 0, none⟩ (.int .i64 U0)).setCell ⟨nv, 1, none⟩ (.int .i64 U1)).setCell ⟨nv, 2, none⟩ (.int .i64 U2)) n18 [.int .i64 U0, .int .i64 U1, .int .i64 U2]) := (((FU.out.far (by omega)).far (by omega)).far (by omega))
                                              have FM : Hid (HV (((wpU.setCell ⟨nv, 0, none⟩ (.int .i64 U0)).setCell ⟨nv, 1, none⟩ (.int .i64 U1)).setCell ⟨nv, 2, none⟩ (.int .i64 U2)) n19 [.int .i64 M0, .int .i64 M1, .int .i64 M2]) := (((FM.out.far (by omega)).far (by omega)).far (by omega))
                                              have FN : Hid (HV (((wpU.setCell ⟨nv, 0, none⟩ (.int .i64 U0)).setCell ⟨nv, 1, none⟩ (.int .i64 U1)).setCell ⟨nv, 2, none⟩ (.int .i64 U2)) n20 [.int .i64 N0, .int .i64 N1, .int .i64 N2]) := (((FN.out.far (by omega)).far (by omega)).far (by omega))
                                              have Fv : Hid (HV (((wpU.setCell ⟨nv, 0, none⟩ (.int .i64 U0)).setCell ⟨nv, 1, none⟩ (.int .i64 U1)).setCell ⟨nv, 2, none⟩ (.int .i64 U2)) nv [.int .i64 U0, .int .i64 U1, .int .i64 U2]) := (((Fv.out.set 0 (.int .i64 U0)).set 1 (.int .i64 U1)).set 2 (.int .i64 U2))
                                              have FX : Hid (Ext w (((wpU.setCell ⟨nv, 0, none⟩ (.int .i64 U0)).setCell ⟨nv, 1, none⟩ (.int .i64 U1)).setCell ⟨nv, 2, none⟩ (.int .i64 U2))) := (((FX.out.set (p := ⟨nv, 0, none⟩) Lv.out (.int .i64 U0)).set (p := ⟨nv, 1, none⟩) Lv.out (.int .i64 U1)).set (p := ⟨nv, 2, none⟩) Lv.out (.int .i64 U2))
                                              generalize (((wpU.setCell ⟨nv, 0, none⟩ (.int .i64 U0)).setCell ⟨nv, 1, none⟩ (.int .i64 U1)).setCell ⟨nv, 2, none⟩ (.int .i64 U2)) = wx14 at *
                                              have qv0 : wx14.cell? ⟨nv, 0, none⟩ = some (.int .i64 U0) := Fv.out.c 0 rfl
                                              have qv1 : wx14.cell? ⟨nv, 1, none⟩ = some (.int .i64 U1) := Fv.out.c 1 rfl
                                              have qv2 : wx14.cell? ⟨nv, 2, none⟩ = some (.int .i64 U2) := Fv.out.c 2 rfl
                                              have qU0 : wx14.cell? ⟨n18, 0, none⟩ = some (.int .i64 U0) := FU.out.c 0 rfl
                                              have qU1 : wx14.cell? ⟨n18, 1, none⟩ = some (.int .i64 U1) := FU.out.c 1 rfl
                                              have qU2 : wx14.cell? ⟨n18, 2, none⟩ = some (.int .i64 U2) := FU.out.c 2 rfl
                                              go_upto_region 46 with (first | (go_at_call 18; refine (IU.out _).mono ?_; rintro e wiU ⟨rfl, xiU⟩))
                                              have Fp : Hid (HV wiU np [.int .i64 (z 0), .int .i64 (z 1), .int .i64 (z 2), .int .i64 (z 3), .int .i64 (z 4), .int .i64 (z 5), .int .i64 (z 6), .int .i64 (z 7), .int .i64 (z 8), .int .i64 (z 9), .int .i64 (z 10), .int .i64 (z 11), .int .i64 (z 12), .int .i64 (z 13), .int .i64 (z 14), .int .i64 (z 15)]) := Fp.out.ext xiU
                                              have FA : Hid (HV wiU n14 [.int .i64 A0, .int .i64 A1, .int .i64 A2]) := FA.out.ext xiU
                                              have FB : Hid (HV wiU n15 [.int .i64 B0, .int .i64 B1, .int .i64 B2]) := FB.out.ext xiU
                                              have FC : Hid (HV wiU n16 [.int .i64 C0, .int .i64 C1, .int .i64 C2]) := FC.out.ext xiU
                                              have FSz : Hid (HV wiU n17 [.int .i64 S0, .int .i64 S1, .int .i64 S2]) := FSz.out.ext xiU
                                              have FU : Hid (HV wiU n18 [.int .i64 U0, .int .i64 U1, .int .i64 U2]) := FU.out.ext xiU
                                              have FM : Hid (HV wiU n19 [.int .i64 M0, .int .i64 M1, .int .i64 M2]) := FM.out.ext xiU
                                              have FN : Hid (HV wiU n20 [.int .i64 N0, .int .i64 N1, .int .i64 N2]) := FN.out.ext xiU
                                              have Fv : Hid (HV wiU nv [.int .i64 U0, .int .i64 U1, .int .i64 U2]) := Fv.out.ext xiU
                                              have FX : Hid (Ext w wiU) := FX.out.trans xiU
                                              clear qv0 qv1 qv2 qU0 qU1 qU2 xiU IU
                                              have qp0 : wiU.cell? ⟨np, 0, none⟩ = some (.int .i64 (z 0)) := Fp.out.c 0 rfl
                                              have qp1 : wiU.cell? ⟨np, 1, none⟩ = some (.int .i64 (z 1)) := Fp.out.c 1 rfl
                                              have qp2 : wiU.cell? ⟨np, 2, none⟩ = some (.int .i64 (z 2)) := Fp.out.c 2 rfl
                                              have qv0 : wiU.cell? ⟨nv, 0, none⟩ = some (.int .i64 U0) := Fv.out.c 0 rfl
                                              have zv0 : wiU.frozen? ⟨nv, 0, none⟩ = false := Fv.out.f 0 rfl
                                              have qv1 : wiU.cell? ⟨nv, 1, none⟩ = some (.int .i64 U1) := Fv.out.c 1 rfl
                                              have zv1 : wiU.frozen? ⟨nv, 1, none⟩ = false := Fv.out.f 1 rfl
                                              have qv2 : wiU.cell? ⟨nv, 2, none⟩ = some (.int .i64 U2) := Fv.out.c 2 rfl
                                              have zv2 : wiU.frozen? ⟨nv, 2, none⟩ = false := Fv.out.f 2 rfl
                                              go_upto_region 47 with (first | (go_at_call 23; refine (PN.out _).mono ?_; rintro e wpN ⟨rfl, xpN⟩; have kv0 : wpN.cell? ⟨nv, 0, none⟩ = some (.int .i64 U0) := (Fv.out.ext xpN).c 0 rfl; have zv0 : wpN.frozen? ⟨nv, 0, none⟩ = false := (Fv.out.ext xpN).f 0 rfl; have kv1 : wpN.cell? ⟨nv, 1, none⟩ = some (.int .i64 U1) := (Fv.out.ext xpN).c 1 rfl; have zv1 : wpN.frozen? ⟨nv, 1, none⟩ = false := (Fv.out.ext xpN).f 1 rfl; have kv2 : wpN.cell? ⟨nv, 2, none⟩ = some (.int .i64 U2) := (Fv.out.ext xpN).c 2 rfl; have zv2 : wpN.frozen? ⟨nv, 2, none⟩ = false := (Fv.out.ext xpN).f 2 rfl))
                                              have Fp : Hid (HV wpN np [.int .i64 (z 0), .int .i64 (z 1), .int .i64 (z 2), .int .i64 (z 3), .int .i64 (z 4), .int .i64 (z 5), .int .i64 (z 6), .int .i64 (z 7), .int .i64 (z 8), .int .i64 (z 9), .int .i64 (z 10), .int .i64 (z 11), .int .i64 (z 12), .int .i64 (z 13), .int .i64 (z 14), .int .i64 (z 15)]) := Fp.out.ext xpN
                                              have FA : Hid (HV wpN n14 [.int .i64 A0, .int .i64 A1, .int .i64 A2]) := FA.out.ext xpN
                                              have FB : Hid (HV wpN n15 [.int .i64 B0, .int .i64 B1, .int .i64 B2]) := FB.out.ext xpN
                                              have FC : Hid (HV wpN n16 [.int .i64 C0, .int .i64 C1, .int .i64 C2]) := FC.out.ext xpN
                                              have FSz : Hid (HV wpN n17 [.int .i64 S0, .int .i64 S1, .int .i64 S2]) := FSz.out.ext xpN
                                              have FU : Hid (HV wpN n18 [.int .i64 U0, .int .i64 U1, .int .i64 U2]) := FU.out.ext xpN
                                              have FM : Hid (HV wpN n19 [.int .i64 M0, .int .i64 M1, .int .i64 M2]) := FM.out.ext xpN
                                              have FN : Hid (HV wpN n20 [.int .i64 N0, .int .i64 N1, .int .i64 N2]) := FN.out.ext xpN
                                              have Fv : Hid (HV wpN nv [.int .i64 U0, .int .i64 U1, .int .i64 U2]) := Fv.out.ext xpN
                                              have FX : Hid (Ext w wpN) := FX.out.trans xpN
                                              clear qp0 qp1 qp2 qv0 qv1 qv2 kv0 kv1 kv2 zv0 zv1 zv2 xpN PN
                                              have Fp : Hid (HV (((wpN.setCell ⟨nv, 0, none⟩ (.int .i64 N0)).setCell ⟨nv, 1, none⟩ (.int .i64 N1)).setCell ⟨nv, 2, none⟩ (.int .i64 N2)) np [.int .i64 (z 0), .int .i64 (z 1), .int .i64 (z 2), .int .i64 (z 3), .int .i64 (z 4), .int .i64 (z 5), .int .i64 (z 6), .int .i64 (z 7), .int .i64 (z 8), .int .i64 (z 9), .int .i64 (z 10), .int .i64 (z 11), .int .i64 (z 12), .int .i64 (z 13), .int .i64 (z 14), .int .i64 (z 15)]) := (((Fp.out.far (by omega)).far (by omega)).far (by omega))
                                              have FA : Hid (HV (((wpN.setCell ⟨nv, 0, none⟩ (.int .i64 N0)).setCell ⟨nv, 1, none⟩ (.int .i64 N1)).setCell ⟨nv, 2, none⟩ (.int .i64 N2)) n14 [.int .i64 A0, .int .i64 A1, .int .i64 A2]) := (((FA.out.far (by omega)).far (by omega)).far (by omega))
                                              have FB : Hid (HV (((wpN.setCell ⟨nv, 0, none⟩ (.int .i64 N0)).setCell ⟨nv, 1, none⟩ (.int .i64 N1)).setCell ⟨nv, 2, none⟩ (.int .i64 N2)) n15 [.int .i64 B0, .int .i64 B1, .int .i64 B2]) := (((FB.out.far (by omega)).far (by omega)).far (by omega))
                                              have FC : Hid (HV (((wpN.setCell ⟨nv, 0, none⟩ (.int .i64 N0)).setCell ⟨nv, 1, none⟩ (.int .i64 N1)).setCell ⟨nv, 2, none⟩ (.int .i64 N2)) n16 [.int .i64 C0, .int .i64 C1, .int .i64 C2]) := (((FC.out.far (by omega)).far (by omega)).far (by omega))
                                              have FSz : Hid (HV (((wpN.setCell ⟨nv, 0, none⟩ (.int .i64 N0)).setCell ⟨nv, 1, none⟩ (.int .i64 N1)).setCell ⟨nv, 2, none⟩ (.int .i64 N2)) n17 [.int .i64 S0, .int .i64 S1, .int .i64 S2]) := (((FSz.out.far (by omega)).far (by omega)).far (by omega))
                                              have FU : Hid (HV (((wpN.setCell ⟨nv, 0, none⟩ (.int .i64 N0)).setCell ⟨nv, 1, none⟩ (.int .i64 N1)).setCell ⟨nv, 2, none⟩ (.int .i64 N2)) n18 [.int .i64 U0, .int .i64 U1, .int .i64 U2]) := (((FU.out.far (by omega)).far (by omega)).far (by omega))
                                              have FM : Hid (HV (((wpN.setCell ⟨nv, 0, none⟩ (.int .i64 N0)).setCell ⟨nv, 1, none⟩ (.int .i64 N1)).setCell ⟨nv, 2, none⟩ (.int .i64 N2)) n19 [.int .i64 M0, .int .i64 M1, .int .i64 M2]) := (((FM.out.far (by omega)).far (by omega)).far (by omega))
                                              have FN : Hid (HV (((wpN.setCell ⟨nv, 0, none⟩ (.int .i64 N0)).setCell ⟨nv, 1, none⟩ (.int .i64 N1)).setCell ⟨nv, 2, none⟩ (.int .i64 N2)) n20 [.int .i64 N0, .int .i64 N1, .int .i64 N2]) := (((FN.out.far (by omega)).far (by omega)).far (by omega))
                                              have Fv : Hid (HV (((wpN.setCell ⟨nv, 0, none⟩ (.int .i64 N0)).setCell ⟨nv, 1, none⟩ (.int .i64 N1)).setCell ⟨nv, 2, none⟩ (.int .i64 N2)) nv [.int .i64 N0, .int .i64 N1, .int .i64 N2]) := (((Fv.out.set 0 (.int .i64 N0)).set 1 (.int .i64 N1)).set 2 (.int .i64 N2))
                                              have FX : Hid (Ext w (((wpN.setCell ⟨nv, 0, none⟩ (.int .i64 N0)).setCell ⟨nv, 1, none⟩ (.int .i64 N1)).setCell ⟨nv, 2, none⟩ (.int .i64 N2))) := (((FX.out.set (p := ⟨nv, 0, none⟩) Lv.out (.int .i64 N0)).set (p := ⟨nv, 1, none⟩) Lv.out (.int .i64 N1)).set (p := ⟨nv, 2, none⟩) Lv.out (.int .i64 N2))
                                              generalize (((wpN.setCell ⟨nv, 0, none⟩ (.int .i64 N0)).setCell ⟨nv, 1, none⟩ (.int .i64 N1)).setCell ⟨nv, 2, none⟩ (.int .i64 N2)) = wx15 at *
                                              have qv0 : wx15.cell? ⟨nv, 0, none⟩ = some (.int .i64 N0) := Fv.out.c 0 rfl
                                              have qv1 : wx15.cell? ⟨nv, 1, none⟩ = some (.int .i64 N1) := Fv.out.c 1 rfl
                                              have qv2 : wx15.cell? ⟨nv, 2, none⟩ = some (.int .i64 N2) := Fv.out.c 2 rfl
                                              have qN0 : wx15.cell? ⟨n20, 0, none⟩ = some (.int .i64 N0) := FN.out.c 0 rfl
                                              have qN1 : wx15.cell? ⟨n20, 1, none⟩ = some (.int .i64 N1) := FN.out.c 1 rfl
                                              have qN2 : wx15.cell? ⟨n20, 2, none⟩ = some (.int .i64 N2) := FN.out.c 2 rfl
                                              go_upto_region 49 with (first | (go_at_call 18; refine (IN.out _).mono ?_; rintro e wiN ⟨rfl, xiN⟩))
                                              have Fp : Hid (HV wiN np [.int .i64 (z 0), .int .i64 (z 1), .int .i64 (z 2), .int .i64 (z 3), .int .i64 (z 4), .int .i64 (z 5), .int .i64 (z 6), .int .i64 (z 7), .int .i64 (z 8), .int .i64 (z 9), .int .i64 (z 10), .int .i64 (z 11), .int .i64 (z 12), .int .i64 (z 13), .int .i64 (z 14), .int .i64 (z 15)]) := Fp.out.ext xiN
                                              have FA : Hid (HV wiN n14 [.int .i64 A0, .int .i64 A1, .int .i64 A2]) := FA.out.ext xiN
                                              have FB : Hid (HV wiN n15 [.int .i64 B0, .int .i64 B1, .int .i64 B2]) := FB.out.ext xiN
                                              have FC : Hid (HV wiN n16 [.int .i64 C0, .int .i64 C1, .int .i64 C2]) := FC.out.ext xiN
                                              have FSz : Hid (HV wiN n17 [.int .i64 S0, .int .i64 S1, .int .i64 S2]) := FSz.out.ext xiN
                                              have FU : Hid (HV wiN n18 [.int .i64 U0, .int .i64 U1, .int .i64 U2]) := FU.out.ext xiN
                                              have FM : Hid (HV wiN n19 [.int .i64 M0, .int .i64 M1, .int .i64 M2]) := FM.out.ext xiN
                                              have FN : Hid (HV wiN n20 [.int .i64 N0, .int .i64 N1, .int .i64 N2]) := FN.out.ext xiN
                                              have Fv : Hid (HV wiN nv [.int .i64 N0, .int .i64 N1, .int .i64 N2]) := Fv.out.ext xiN
                                              have FX : Hid (Ext w wiN) := FX.out.trans xiN
                                              clear qv0 qv1 qv2 qN0 qN1 qN2 xiN IN
                                              have qp0 : wiN.cell? ⟨np, 0, none⟩ = some (.int .i64 (z 0)) := Fp.out.c 0 rfl
                                              have qp1 : wiN.cell? ⟨np, 1, none⟩ = some (.int .i64 (z 1)) := Fp.out.c 1 rfl
                                              have qp2 : wiN.cell? ⟨np, 2, none⟩ = some (.int .i64 (z 2)) := Fp.out.c 2 rfl
                                              have qp7 : wiN.cell? ⟨np, 7, none⟩ = some (.int .i64 (z 7)) := Fp.out.c 7 rfl
                                              have qp8 : wiN.cell? ⟨np, 8, none⟩ = some (.int .i64 (z 8)) := Fp.out.c 8 rfl
                                              have qp9 : wiN.cell? ⟨np, 9, none⟩ = some (.int .i64 (z 9)) := Fp.out.c 9 rfl
                                              have qp10 : wiN.cell? ⟨np, 10, none⟩ = some (.int .i64 (z 10)) := Fp.out.c 10 rfl
                                              have qp11 : wiN.cell? ⟨np, 11, none⟩ = some (.int .i64 (z 11)) := Fp.out.c 11 rfl
                                              have qp12 : wiN.cell? ⟨np, 12, none⟩ = some (.int .i64 (z 12)) := Fp.out.c 12 rfl
                                              have qp13 : wiN.cell? ⟨np, 13, none⟩ = some (.int .i64 (z 13)) := Fp.out.c 13 rfl
                                              have qp14 : wiN.cell? ⟨np, 14, none⟩ = some (.int .i64 (z 14)) := Fp.out.c 14 rfl
                                              have qp15 : wiN.cell? ⟨np, 15, none⟩ = some (.int .i64 (z 15)) := Fp.out.c 15 rfl
                                              have qv0 : wiN.cell? ⟨nv, 0, none⟩ = some (.int .i64 N0) := Fv.out.c 0 rfl
                                              have zv0 : wiN.frozen? ⟨nv, 0, none⟩ = false := Fv.out.f 0 rfl
                                              have qv1 : wiN.cell? ⟨nv, 1, none⟩ = some (.int .i64 N1) := Fv.out.c 1 rfl
                                              have zv1 : wiN.frozen? ⟨nv, 1, none⟩ = false := Fv.out.f 1 rfl
                                              have qv2 : wiN.cell? ⟨nv, 2, none⟩ = some (.int .i64 N2) := Fv.out.c 2 rfl
                                              have zv2 : wiN.frozen? ⟨nv, 2, none⟩ = false := Fv.out.f 2 rfl
                                              go_upto_region 50 with (first | (go_at_call 24; refine (PM.out _).mono ?_; rintro e wpM ⟨rfl, xpM⟩; have kv0 : wpM.cell? ⟨nv, 0, none⟩ = some (.int .i64 N0) := (Fv.out.ext xpM).c 0 rfl; have zv0 : wpM.frozen? ⟨nv, 0, none⟩ = false := (Fv.out.ext xpM).f 0 rfl; have kv1 : wpM.cell? ⟨nv, 1, none⟩ = some (.int .i64 N1) := (Fv.out.ext xpM).c 1 rfl; have zv1 : wpM.frozen? ⟨nv, 1, none⟩ = false := (Fv.out.ext xpM).f 1 rfl; have kv2 : wpM.cell? ⟨nv, 2, none⟩ = some (.int .i64 N2) := (Fv.out.ext xpM).c 2 rfl; have zv2 : wpM.frozen? ⟨nv, 2, none⟩ = false := (Fv.out.ext xpM).f 2 rfl))
                                              have Fp : Hid (HV wpM np [.int .i64 (z 0), .int .i64 (z 1), .int .i64 (z 2), .int .i64 (z 3), .int .i64 (z 4), .int .i64 (z 5), .int .i64 (z 6), .int .i64 (z 7), .int .i64 (z 8), .int .i64 (z 9), .int .i64 (z 10), .int .i64 (z 11), .int .i64 (z 12), .int .i64 (z 13), .int .i64 (z 14), .int .i64 (z 15)]) := Fp.out.ext xpM
                                              have FA : Hid (HV wpM n14 [.int .i64 A0, .int .i64 A1, .int .i64 A2]) := FA.out.ext xpM
                                              have FB : Hid (HV wpM n15 [.int .i64 B0, .int .i64 B1, .int .i64 B2]) := FB.out.ext xpM
                                              have FC : Hid (HV wpM n16 [.int .i64 C0, .int .i64 C1, .int .i64 C2]) := FC.out.ext xpM
                                              have FSz : Hid (HV wpM n17 [.int .i64 S0, .int .i64 S1, .int .i64 S2]) := FSz.out.ext xpM
                                              have FU : Hid (HV wpM n18 [.int .i64 U0, .int .i64 U1, .int .i64 U2]) := FU.out.ext xpM
                                              have FM : Hid (HV wpM n19 [.int .i64 M0, .int .i64 M1, .int .i64 M2]) := FM.out.ext xpM
                                              have FN : Hid (HV wpM n20 [.int .i64 N0, .int .i64 N1, .int .i64 N2]) := FN.out.ext xpM
                                              have Fv : Hid (HV wpM nv [.int .i64 N0, .int .i64 N1, .int .i64 N2]) := Fv.out.ext xpM
                                              have FX : Hid (Ext w wpM) := FX.out.trans xpM
                                              clear qp0 qp1 qp2 qp7 qp8 qp9 qp10 qp11 qp12 qp13 qp14 qp15 qv0 qv1 qv2 kv0 kv1 kv2 zv0 zv1 zv2 xpM PM
                                              have Fp : Hid (HV (((wpM.setCell ⟨nv, 0, none⟩ (.int .i64 M0)).setCell ⟨nv, 1, none⟩ (.int .i64 M1)).setCell ⟨nv, 2, none⟩ (.int .i64 M2)) np [.int .i64 (z 0), .int .i64 (z 1), .int .i64 (z 2), .int .i64 (z 3), .int .i64 (z 4), .int .i64 (z 5), .int .i64 (z 6), .int .i64 (z 7), .int .i64 (z 8), .int .i64 (z 9), .int .i64 (z 10), .int .i64 (z 11), .int .i64 (z 12), .int .i64 (z 13), .int .i64 (z 14), .int .i64 (z 15)]) := (((Fp.out.far (by omega)).far (by omega)).far (by omega))
                                              have FA : Hid (HV (((wpM.setCell ⟨nv, 0, none⟩ (.int .i64 M0)).setCell ⟨nv, 1, none⟩ (.int .i64 M1)).setCell ⟨nv, 2, none⟩ (.int .i64 M2)) n14 [.int .i64 A0, .int .i64 A1, .int .i64 A2]) := (((FA.out.far (by omega)).far (by omega)).far (by omega))
                                              have FB : Hid (HV (((wpM.setCell ⟨nv, 0, none⟩ (.int .i64 M0)).setCell ⟨nv, 1, none⟩ (.int .i64 M1)).setCell ⟨nv, 2, none⟩ (.int .i64 M2)) n15 [.int .i64 B0, .int .i64 B1, .int .i64 B2]) := (((FB.out.far (by omega)).far (by omega)).far (by omega))
                                              have FC : Hid (HV (((wpM.setCell ⟨nv, 0, none⟩ (.int .i64 M0)).setCell ⟨nv, 1, none⟩ (.int .i64 M1)).setCell ⟨nv, 2, none⟩ (.int .i64 M2)) n16 [.int .i64 C0, .int .i64 C1, .int .i64 C2]) := (((FC.out.far (by omega)).far (by omega)).far (by omega))
                                              have FSz : Hid (HV (((wpM.setCell ⟨nv, 0, none⟩ (.int .i64 M0)).setCell ⟨nv, 1, none⟩ (.int .i64 M1)).setCell ⟨nv, 2, none⟩ (.int .i64 M2)) n17 [.int .i64 S0, .int .i64 S1, .int .i64 S2]) := (((FSz.out.far (by omega)).far (by omega)).far (by omega))
                                              have FU : Hid (HV (((wpM.setCell ⟨nv, 0, none⟩ (.int .i64 M0)).setCell ⟨nv, 1, none⟩ (.int .i64 M1)).setCell ⟨nv, 2, none⟩ (.int .i64 M2)) n18 [.int .i64 U0, .int .i64 U1, .int .i64 U2]) := (((FU.out.far (by omega)).far (by omega)).far (by omega))
                                              have FM : Hid (HV (((wpM.setCell ⟨nv, 0, none⟩ (.int .i64 M0)).setCell ⟨nv, 1, none⟩ (.int .i64 M1)).setCell ⟨nv, 2, none⟩ (.int .i64 M2)) n19 [.int .i64 M0, .int .i64 M1, .int .i64 M2]) := (((FM.out.far (by omega)).far (by omega)).far (by omega))
                                              have FN : Hid (HV (((wpM.setCell ⟨nv, 0, none⟩ (.int .i64 M0)).setCell ⟨nv, 1, none⟩ (.int .i64 M1)).setCell ⟨nv, 2, none⟩ (.int .i64 M2)) n20 [.int .i64 N0, .int .i64 N1, .int .i64 N2]) := (((FN.out.far (by omega)).far (by omega)).far (by omega))
                                              have Fv : Hid (HV (((wpM.setCell ⟨nv, 0, none⟩ (.int .i64 M0)).setCell ⟨nv, 1, none⟩ (.int .i64 M1)).setCell ⟨nv, 2, none⟩ (.int .i64 M2)) nv [.int .i64 M0, .int .i64 M1, .int .i64 M2]) := (((Fv.out.set 0 (.int .i64 M0)).set 1 (.int .i64 M1)).set 2 (.int .i64 M2))
                                              have FX : Hid (Ext w (((wpM.setCell ⟨nv, 0, none⟩ (.int .i64 M0)).setCell ⟨nv, 1, none⟩ (.int .i64 M1)).setCell ⟨nv, 2, none⟩ (.int .i64 M2))) := (((FX.out.set (p := ⟨nv, 0, none⟩) Lv.out (.int .i64 M0)).set (p := ⟨nv, 1, none⟩) Lv.out (.int .i64 M1)).set (p := ⟨nv, 2, none⟩) Lv.out (.int .i64 M2))
                                              generalize (((wpM.setCell ⟨nv, 0, none⟩ (.int .i64 M0)).setCell ⟨nv, 1, none⟩ (.int .i64 M1)).setCell ⟨nv, 2, none⟩ (.int .i64 M2)) = wx16 at *
                                              have qv0 : wx16.cell? ⟨nv, 0, none⟩ = some (.int .i64 M0) := Fv.out.c 0 rfl
                                              have qv1 : wx16.cell? ⟨nv, 1, none⟩ = some (.int .i64 M1) := Fv.out.c 1 rfl
                                              have qv2 : wx16.cell? ⟨nv, 2, none⟩ = some (.int .i64 M2) := Fv.out.c 2 rfl
                                              have qM0 : wx16.cell? ⟨n19, 0, none⟩ = some (.int .i64 M0) := FM.out.c 0 rfl
                                              have qM1 : wx16.cell? ⟨n19, 1, none⟩ = some (.int .i64 M1) := FM.out.c 1 rfl
                                              have qM2 : wx16.cell? ⟨n19, 2, none⟩ = some (.int .i64 M2) := FM.out.c 2 rfl
                                              go_wp2_with (go_at_call 18; refine (IM.out _).mono ?_; rintro e wiM ⟨rfl, xiM⟩)
                                              have Fp : Hid (HV wiM np [.int .i64 (z 0), .int .i64 (z 1), .int .i64 (z 2), .int .i64 (z 3), .int .i64 (z 4), .int .i64 (z 5), .int .i64 (z 6), .int .i64 (z 7), .int .i64 (z 8), .int .i64 (z 9), .int .i64 (z 10), .int .i64 (z 11), .int .i64 (z 12), .int .i64 (z 13), .int .i64 (z 14), .int .i64 (z 15)]) := Fp.out.ext xiM
                                              have FA : Hid (HV wiM n14 [.int .i64 A0, .int .i64 A1, .int .i64 A2]) := FA.out.ext xiM
                                              have FB : Hid (HV wiM n15 [.int .i64 B0, .int .i64 B1, .int .i64 B2]) := FB.out.ext xiM
                                              have FC : Hid (HV wiM n16 [.int .i64 C0, .int .i64 C1, .int .i64 C2]) := FC.out.ext xiM
                                              have FSz : Hid (HV wiM n17 [.int .i64 S0, .int .i64 S1, .int .i64 S2]) := FSz.out.ext xiM
                                              have FU : Hid (HV wiM n18 [.int .i64 U0, .int .i64 U1, .int .i64 U2]) := FU.out.ext xiM
                                              have FM : Hid (HV wiM n19 [.int .i64 M0, .int .i64 M1, .int .i64 M2]) := FM.out.ext xiM
                                              have FN : Hid (HV wiM n20 [.int .i64 N0, .int .i64 N1, .int .i64 N2]) := FN.out.ext xiM
                                              have Fv : Hid (HV wiM nv [.int .i64 M0, .int .i64 M1, .int .i64 M2]) := Fv.out.ext xiM
                                              have FX : Hid (Ext w wiM) := FX.out.trans xiM
                                              go_roundw
                                              case rel => exact ⟨k + 1, by omega, by go_num, FX⟩
                                              case measure => simp [intOf]; omega
      · go_wp2_with fail
        refine (wakes3_any _).mono ?_
        rintro e w1 ⟨rfl, x1⟩
        have E1 : Ext w w1 := FX.out.trans x1
        go_wp2_with fail
        go_ret
        exact ⟨rfl, E1⟩
    · have hk' : k = len := by omega
      subst hk'
      go_wp2_with fail
      refine (wakes3_any _).mono ?_
      rintro e w1 ⟨rfl, x1⟩
      have E1 : Ext w w1 := FX.out.trans x1
      go_wp2_with fail
      go_ret
      exact ⟨rfl, E1⟩
set_option maxRecDepth 20000 in
set_option maxHeartbeats 4000000 in
theorem vecs_none (a : Option Addr) (cap : Nat) (w : World) :
    Calls Tryz.prog 3 #[.slice a 0 cap] w fun e w' => e = .returned (.bool true) ∧ Ext w w' := by
  go_enter Tryz.func3, Tryz.ntmps3
  go_wp2_with fail
  go_loopw [3] (fun i wr => i = .int .i64 0 ∧ Hid (Ext w wr)) (fun _ _ => 0)
  case atStart => exact ⟨rfl, Ext.refl _⟩
  case round =>
    obtain ⟨rfl, FX⟩ := hrel
    go_wp2_with fail
    refine (wakes3_any _).mono ?_
    rintro e w1 ⟨rfl, x1⟩
    have E1 : Ext w w1 := FX.out.trans x1
    go_wp2_with fail
    go_ret
    exact ⟨rfl, E1⟩
end Go.Proofs.YtfmalpnlencmbaaGreat
