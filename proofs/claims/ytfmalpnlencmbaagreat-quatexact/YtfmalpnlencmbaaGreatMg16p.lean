/- vec: sums of three products. vec: the words of sums of products. vec: Add, Sub, Neg, Scale. vec: through. -/
import Derived.Test.YtfmalpnlencmbaaGreatV1mp
import Derived.Test.YtfmalpnlencmbaaGreatMg2p
import Derived.Test.YtfmalpnlencmbaaGreatMg6p
import Derived.Test.YtfmalpnlencmbaaGreatMg10p
namespace Go.Proofs.YtfmalpnlencmbaaGreat
open Go.RowKit Go.Shelf

theorem word64 {a : Int} (h : okW a = true) : -9223372036854775808 ≤ a ∧ a ≤ 9223372036854775807 := by
  have := okW_bounds h; omega
end Go.Proofs.YtfmalpnlencmbaaGreat

namespace Go.Proofs.YtfmalpnlencmbaaGreat
open Go.RowKit Go.Shelf

theorem prod_abs {a b : Int} (h : okW a = true) (k : okW b = true) : -1237940039285380274899124224 < a * b ∧ a * b < 1237940039285380274899124224 := by
  have := okW_bounds h
  have := okW_bounds k
  have e := Int.natAbs_mul a b
  have h1 : a.natAbs * b.natAbs ≤ 35184372088831 * 35184372088831 := Nat.mul_le_mul (by omega) (by omega)
  omega
/-- the sum of products -/
def dot3 (a0 a1 a2 b0 b1 b2 : Int) : Int := a0 * b0 + a1 * b1 + a2 * b2
theorem nearQ_spec (z : Int) : IsNear z 1073741824 (nearQ z) := by
  unfold IsNear nearQ oddQ
  omega
end Go.Proofs.YtfmalpnlencmbaaGreat

namespace Go.Proofs.YtfmalpnlencmbaaGreat
open Go.RowKit Go.Shelf

end Go.Proofs.YtfmalpnlencmbaaGreat

namespace Go.Proofs.YtfmalpnlencmbaaGreat
open Go.RowKit Go.Shelf

end Go.Proofs.YtfmalpnlencmbaaGreat
