/- vec: unit, Unit. quat: through, by unit. -/
import Derived.Test.YtfmalpnlencmbaaV10m
import Derived.Test.YtfmalpnlencmbaaMg9
namespace Go.Proofs.Ytfmalpnlencmbaa
open Go.RowKit Go.Shelf

theorem sq_lt {v : Int} (h : okW v = true) : v.natAbs * v.natAbs < 1237940039285380274899124224 := by
  have b := okW_bounds h
  have m : v.natAbs * v.natAbs ≤ 35184372088831 * 35184372088831 := Nat.mul_le_mul (by omega) (by omega)
  omega
theorem sq3_parts (a0 a1 a2 : Int) : a0.natAbs * a0.natAbs ≤ sq3 a0 a1 a2 ∧ a1.natAbs * a1.natAbs ≤ sq3 a0 a1 a2 ∧ a2.natAbs * a2.natAbs ≤ sq3 a0 a1 a2 := by unfold sq3; omega
theorem sq3_zero (a0 a1 a2 : Int) (h : ¬ (a0 = 0 ∧ a1 = 0 ∧ a2 = 0)) : 0 < sq3 a0 a1 a2 := by
  unfold sq3
  by_cases h0 : a0 = 0
  · by_cases h1 : a1 = 0
    · have h2 : 0 < a2.natAbs := by omega
      have := Nat.mul_pos h2 h2
      omega
    · have h2 : 0 < a1.natAbs := by omega
      have := Nat.mul_pos h2 h2
      omega
  · have h2 : 0 < a0.natAbs := by omega
    have := Nat.mul_pos h2 h2
    omega
end Go.Proofs.Ytfmalpnlencmbaa

namespace Go.Proofs.Ytfmalpnlencmbaa
open Go.RowKit Go.Shelf

end Go.Proofs.Ytfmalpnlencmbaa
