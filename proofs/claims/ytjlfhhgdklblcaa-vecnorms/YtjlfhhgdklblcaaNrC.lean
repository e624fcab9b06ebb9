/- VecNorms: what the calls of the statement answer. -/
import Derived.Test.YtjlfhhgdklblcaaL1
import Derived.Test.YtjlfhhgdklblcaaPr
import Derived.Test.YtjlfhhgdklblcaaNrN
namespace Go.Proofs.Ytjlfhhgdklblcaa
open Go.RowKit Go.Shelf

theorem wrap_id {v : Int} (h1 : -9223372036854775808 ≤ v) (h2 : v ≤ 9223372036854775807) : wrap64 v = v := by
  unfold wrap64; omega
theorem okW_neg' {a : Int} (h : okW a = true) : okW (-a) = true := by
  have := okW_bounds h; unfold okW; simp; omega
theorem sq3_turned (a0 a1 a2 : Int) : sq3 (-a2) a0 (-a1) = sq3 a0 a1 a2 := by
  unfold sq3
  rw [Int.natAbs_neg, Int.natAbs_neg]
  omega
theorem abs_sq {a : Int} (h : okW a = true) : (a * a).natAbs ≤ 1237940039285380274899124224 := by
  have b := okW_bounds h
  have m : a.natAbs * a.natAbs ≤ 35184372088832 * 35184372088832 := Nat.mul_le_mul (by omega) (by omega)
  rw [Int.natAbs_mul]
  omega
set_option maxHeartbeats 2000000 in
theorem norms_told : ∀ a0 a1 a2 : Int, ok3 a0 a1 a2 = true → ∃ n e : Int, 
     Hid (∀ w', Calls Try.prog 5 #[.agg #[.int .i64 a0, .int .i64 a1, .int .i64 a2]] w' fun e' w'' => e' = .returned (.tuple #[.int .i64 n, .int .i64 e]) ∧ Ext w' w'') ∧
     Hid (∀ w', Calls Try.prog 5 #[.agg #[.int .i64 (wrap64 (-a2)), .int .i64 a0, .int .i64 (wrap64 (-a1))]] w' fun e' w'' => e' = .returned (.tuple #[.int .i64 n, .int .i64 e]) ∧ Ext w' w'') ∧ ((e = 0 ∧ 0 ≤ n ∧ n < 35184372088832 ∧ ∃ P0 P1 P2 S T D U V c d : Int, Hid (∀ w', Calls Try.prog 9 #[.int .i64 a0, .int .i64 a0] w' fun e' w'' => (∃ r, e' = .returned r ∧ IsI w'' r P0) ∧ Ext w' w'') ∧ Hid (∀ w', Calls Try.prog 9 #[.int .i64 a1, .int .i64 a1] w' fun e' w'' => (∃ r, e' = .returned r ∧ IsI w'' r P1) ∧ Ext w' w'') ∧ Hid (∀ w', Calls Try.prog 9 #[.int .i64 a2, .int .i64 a2] w' fun e' w'' => (∃ r, e' = .returned r ∧ IsI w'' r P2) ∧ Ext w' w'') ∧ Hid (∀ r1 r2 w', IsI w' r1 P0 → IsI w' r2 P1 → Calls Try.prog 8 #[r1, r2] w' fun e' w'' => (∃ r, e' = .returned r ∧ IsI w'' r S) ∧ Ext w' w'') ∧ Hid (∀ r1 r2 w', IsI w' r1 S → IsI w' r2 P2 → Calls Try.prog 8 #[r1, r2] w' fun e' w'' => (∃ r, e' = .returned r ∧ IsI w'' r T) ∧ Ext w' w'') ∧ Hid (∀ r1 w', IsI w' r1 T → Calls Try.prog 7 #[r1, .int .i64 2] w' fun e' w'' => (∃ r, e' = .returned r ∧ IsI w'' r D) ∧ Ext w' w'') ∧ Hid (∀ w', Calls Try.prog 9 #[.int .i64 (2 * n + 1), .int .i64 (2 * n + 1)] w' fun e' w'' => (∃ r, e' = .returned r ∧ IsI w'' r U) ∧ Ext w' w'') ∧ Hid (∀ r1 r2 w', IsI w' r1 U → IsI w' r2 D → Calls Try.prog 10 #[r1, r2] w' fun e' w'' => e' = .returned (.int .i64 c) ∧ Ext w' w'') ∧ (c = 0 ∨ c = 1) ∧ (0 < n → Hid (∀ w', Calls Try.prog 9 #[.int .i64 (2 * n - 1), .int .i64 (2 * n - 1)] w' fun e' w'' => (∃ r, e' = .returned r ∧ IsI w'' r V) ∧ Ext w' w'') ∧ Hid (∀ r1 r2 w', IsI w' r1 V → IsI w' r2 D → Calls Try.prog 10 #[r1, r2] w' fun e' w'' => e' = .returned (.int .i64 d) ∧ Ext w' w'') ∧ (d = 0 ∨ d = -1))) ∨ e = 2) := by
  intro a0 a1 a2 h
  obtain ⟨g0, g1, g2⟩ := ok3_parts h
  have b0 := okW_bounds g0
  have b1 := okW_bounds g1
  have b2 := okW_bounds g2
  obtain ⟨k, hk⟩ := rootQ_exists (sq3 a0 a1 a2) 1 (by omega)
  have w2 : wrap64 (-a2) = -a2 := wrap_id (by omega) (by omega)
  have w1 : wrap64 (-a1) = -a1 := wrap_id (by omega) (by omega)
  have hok : ok3 (-a2) a0 (-a1) = true := by unfold ok3; rw [okW_neg' g2, g0, okW_neg' g1]; rfl
  refine ⟨(fitR k).1, (fitR k).2, fun w' => vNorm_yes a0 a1 a2 k w' h hk, fun w' => ?_, ?_⟩
  · rw [w2, w1]
    exact vNorm_yes (-a2) a0 (-a1) k w' hok (by rw [sq3_turned]; exact hk)
  · cases hkk : okW (k : Int)
    · right
      have : fitR (k : Int) = (0, 2) := by unfold fitR; rw [hkk]; rfl
      rw [this]
    · left
      have kb := okW_bounds hkk
      have e1 : fitR (k : Int) = ((k : Int), 0) := by unfold fitR; rw [hkk]; rfl
      rw [e1]
      have e : (2 : Nat) ^ 200 = 1606938044258990275541962092341162602522202993782792835301376 := by decide
      have q0 := abs_sq g0
      have q1 := abs_sq g1
      have q2 := abs_sq g2
      have f0 : Fit 200 (a0 * a0) := by unfold Fit; omega
      have f1 : Fit 200 (a1 * a1) := by unfold Fit; omega
      have f2 : Fit 200 (a2 * a2) := by unfold Fit; omega
      have f3 : Fit 200 (a0 * a0 + a1 * a1) := by unfold Fit; omega
      have f4 : Fit 200 (a0 * a0 + a1 * a1 + a2 * a2) := by unfold Fit; omega
      have f5 : Fit 202 ((a0 * a0 + a1 * a1 + a2 * a2) * 2 ^ 2) := f4.shl 2
      have u0 : Fit 64 (2 * (k : Int) + 1) := fit_word _ (by omega) (by omega)
      have u1 : Fit 64 (2 * (k : Int) - 1) := fit_word _ (by omega) (by omega)
      have f6 : Fit 202 ((2 * (k : Int) + 1) * (2 * (k : Int) + 1)) := (u0.mul u0).le (by omega)
      have f7 : Fit 202 ((2 * (k : Int) - 1) * (2 * (k : Int) - 1)) := (u1.mul u1).le (by omega)
      have eD : a0 * a0 + a1 * a1 + a2 * a2 = (sq3 a0 a1 a2 : Int) := by rw [← sq3_dot]; rfl
      refine ⟨rfl, by omega, by omega, a0 * a0, a1 * a1, a2 * a2, a0 * a0 + a1 * a1, a0 * a0 + a1 * a1 + a2 * a2, (a0 * a0 + a1 * a1 + a2 * a2) * 2 ^ 2, (2 * (k : Int) + 1) * (2 * (k : Int) + 1), (2 * (k : Int) - 1) * (2 * (k : Int) - 1), sgn ((2 * (k : Int) + 1) * (2 * (k : Int) + 1) - (a0 * a0 + a1 * a1 + a2 * a2) * 2 ^ 2), sgn ((2 * (k : Int) - 1) * (2 * (k : Int) - 1) - (a0 * a0 + a1 * a1 + a2 * a2) * 2 ^ 2), ?_, ?_, ?_, ?_, ?_, ?_, ?_, ?_, ?_, ?_⟩
      · exact fun w' => prod_any a0 a0 w' (by omega) (by omega) (by omega) (by omega)
      · exact fun w' => prod_any a1 a1 w' (by omega) (by omega) (by omega) (by omega)
      · exact fun w' => prod_any a2 a2 w' (by omega) (by omega) (by omega) (by omega)
      · exact fun r1 r2 w' i1 i2 => plus_isI _ _ r1 r2 w' i1 i2 (f0.small (by omega)) (f1.small (by omega)) (f3.small (by omega))
      · exact fun r1 r2 w' i1 i2 => plus_isI _ _ r1 r2 w' i1 i2 (f3.small (by omega)) (f2.small (by omega)) (f4.small (by omega))
      · exact fun r1 w' i1 => left_isI _ 2 r1 w' i1 (f4.small (by omega)) (by omega) (f5.small (by omega))
      · exact fun w' => prod_any _ _ w' (by omega) (by omega) (by omega) (by omega)
      · exact fun r1 r2 w' i1 i2 => cmp_isI _ _ r1 r2 w' i1 i2 (f6.small (by omega)) (f5.small (by omega)) ((f6.sub f5).small (by omega))
      · rw [eD]; exact norm_up hk
      · intro hp
        refine ⟨fun w' => prod_any _ _ w' (by omega) (by omega) (by omega) (by omega), fun r1 r2 w' i1 i2 => cmp_isI _ _ r1 r2 w' i1 i2 (f7.small (by omega)) (f5.small (by omega)) ((f7.sub f5).small (by omega)), ?_⟩
        rw [eD]; exact norm_down hk (by omega)
end Go.Proofs.Ytjlfhhgdklblcaa
