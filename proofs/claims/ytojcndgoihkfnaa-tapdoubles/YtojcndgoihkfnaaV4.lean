/- vec: the words of sums of products. -/
import Derived.Test.YtojcndgoihkfnaaV1s
import Derived.Test.YtojcndgoihkfnaaNearNum
namespace Go.Proofs.Ytojcndgoihkfnaa
open Go.RowKit Go.Shelf

theorem prod_abs {a b : Int} (h : okW a = true) (k : okW b = true) : -1237940039285380274899124224 < a * b ∧ a * b < 1237940039285380274899124224 := by
  have := okW_bounds h
  have := okW_bounds k
  have e := Int.natAbs_mul a b
  have h1 : a.natAbs * b.natAbs ≤ 35184372088831 * 35184372088831 := Nat.mul_le_mul (by omega) (by omega)
  omega
/-- the sum of products -/
def dot3 (a0 a1 a2 b0 b1 b2 : Int) : Int := a0 * b0 + a1 * b1 + a2 * b2
theorem nearQ_spec (z : Int) : IsNear z 1073741824 (nearQ z) := by
  unfold IsNear nearQ oddQ
  omega
theorem nearQ_I (z : Int) : nearQ z = nearI z 1073741824 := (nearQ_spec z).unique (by omega) (nearI_spec z _ (by omega))

end Go.Proofs.Ytojcndgoihkfnaa
