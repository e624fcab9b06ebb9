/- FuseSpins: numbers of roots. -/
import Derived.Test.YtmbdcgijjpcppaaMg18
namespace Go.Proofs.Ytmbdcgijjpcppaa
/-- a number of a unit's unit -/
theorem still_k {A n k : Nat} (hA : A ≤ 1073741828) (n0 : 1152921504606846976 - 2147483657 ≤ n) (n1 : n ≤ 1152921504606846976 + 2147483656) (h : RootQ (A * A * 1152921504606846976) n k) : k ≤ A + 2 ∧ A ≤ k + 2 := by
  obtain ⟨h1, h2, _, _⟩ := h
  have hAA : A * A ≤ 1073741828 * A := Nat.mul_le_mul_right A hA
  constructor
  · apply Nat.le_of_not_gt
    intro hc
    rcases h2 with h2 | h2
    · omega
    · have g1 : (2 * A + 5) * (2 * A + 5) ≤ (2 * k - 1) * (2 * k - 1) := Nat.mul_le_mul (by omega) (by omega)
      have g2 : (2 * A + 5) * (2 * A + 5) * (1152921504606846976 - 2147483657) ≤ (2 * k - 1) * (2 * k - 1) * n := Nat.mul_le_mul g1 n0
      have e : (2 * A + 5) * (2 * A + 5) = 4 * (A * A) + 20 * A + 25 := by grind
      rw [e] at g2
      omega
  · apply Nat.le_of_not_gt
    intro hc
    have g1 : (2 * k + 1) * (2 * k + 1) ≤ (2 * A - 5) * (2 * A - 5) := Nat.mul_le_mul (by omega) (by omega)
    have g2 : (2 * k + 1) * (2 * k + 1) * n ≤ (2 * A - 5) * (2 * A - 5) * (1152921504606846976 + 2147483656) := Nat.mul_le_mul g1 n1
    obtain ⟨B, rfl⟩ : ∃ B, A = B + 3 := ⟨A - 3, by omega⟩
    have e0 : 2 * (B + 3) - 5 = 2 * B + 1 := by omega
    rw [e0] at g2
    have e : (2 * B + 1) * (2 * B + 1) = 4 * (B * B) + 4 * B + 1 := by grind
    rw [e] at g2
    have e2 : (B + 3) * (B + 3) = B * B + 6 * B + 9 := by grind
    rw [e2] at h1 hAA
    omega
/-- a number of a unit, without a root: M is the root of n, 20 bits further -/
theorem root_lin {T n k M : Nat} (h : RootQ (T * T * 1152921504606846976) n k) (m1 : M * M ≤ n * 1099511627776) (m2 : n * 1099511627776 < (M + 1) * (M + 1)) : 2 * k * M ≤ 2251799813685248 * T + M ∧ 2251799813685248 * T ≤ 2 * k * M + M + 2 * k + 1 := by
  obtain ⟨h1, h2, _, _⟩ := h
  constructor
  · rcases h2 with h2 | h2
    · subst h2; omega
    · by_cases hk : k = 0
      · subst hk; omega
      · have g1 : (2 * k - 1) * (2 * k - 1) * (M * M) ≤ (2 * k - 1) * (2 * k - 1) * (n * 1099511627776) := Nat.mul_le_mul_left _ m1
        have e1 : (2 * k - 1) * (2 * k - 1) * (n * 1099511627776) = (2 * k - 1) * (2 * k - 1) * n * 1099511627776 := by rw [Nat.mul_assoc _ n]
        have e2 : (2251799813685248 * T) * (2251799813685248 * T) = 4 * (T * T * 1152921504606846976) * 1099511627776 := by rw [Nat.mul_mul_mul_comm]; generalize T * T = Q; omega
        have e3 : (2 * k - 1) * M * ((2 * k - 1) * M) = (2 * k - 1) * (2 * k - 1) * (M * M) := by grind
        have g2 : (2 * k - 1) * M * ((2 * k - 1) * M) ≤ (2251799813685248 * T) * (2251799813685248 * T) := by
          rw [e3, e2]; rw [e1] at g1
          exact Nat.le_trans g1 (Nat.mul_le_mul_right 1099511627776 h2)
        have g3 : (2 * k - 1) * M ≤ 2251799813685248 * T := Nat.mul_self_le_mul_self_iff.1 g2
        have e4 : 2 * k * M = (2 * k - 1) * M + M := by
          obtain ⟨j, rfl⟩ : ∃ j, k = j + 1 := ⟨k - 1, by omega⟩
          have : 2 * (j + 1) - 1 = 2 * j + 1 := by omega
          rw [this]; grind
        omega
  · have e2 : (2251799813685248 * T) * (2251799813685248 * T) = 4 * (T * T * 1152921504606846976) * 1099511627776 := by rw [Nat.mul_mul_mul_comm]; generalize T * T = Q; omega
    have g1 := Nat.mul_le_mul_right 1099511627776 h1
    have e1 : (2 * k + 1) * (2 * k + 1) * n * 1099511627776 = (2 * k + 1) * (2 * k + 1) * (n * 1099511627776) := by rw [Nat.mul_assoc _ n]
    have g2 : (2 * k + 1) * (2 * k + 1) * (n * 1099511627776) ≤ (2 * k + 1) * (2 * k + 1) * ((M + 1) * (M + 1)) := Nat.mul_le_mul_left _ (Nat.le_of_lt m2)
    have e3 : (2 * k + 1) * (M + 1) * ((2 * k + 1) * (M + 1)) = (2 * k + 1) * (2 * k + 1) * ((M + 1) * (M + 1)) := by grind
    have g3 : (2251799813685248 * T) * (2251799813685248 * T) ≤ (2 * k + 1) * (M + 1) * ((2 * k + 1) * (M + 1)) := by
      rw [e3, e2]; omega
    have g4 : 2251799813685248 * T ≤ (2 * k + 1) * (M + 1) := Nat.mul_self_le_mul_self_iff.1 g3
    have e4 : (2 * k + 1) * (M + 1) = 2 * k * M + M + 2 * k + 1 := by grind
    omega
end Go.Proofs.Ytmbdcgijjpcppaa
