/- wide: Of, Times, By, Product. -/
import Derived.Test.YtkcfgkedgjpeoaaW1
namespace Go.Proofs.Ytkcfgkedgjpeoaa
open Go.RowKit Go.Shelf

theorem of_l0 (v : Int) : IntKind.u64.wrap v = (l0 v : Int) := by rw [IntKind.wrap_u64, l0_cast]
theorem of_hi (v : Int) (h1 : -9223372036854775808 ≤ v) (h2 : v ≤ 9223372036854775807) : IntKind.u64.wrap (v / 9223372036854775808) = (l1 v : Int) ∧ IntKind.u64.wrap (v / 9223372036854775808) = (l2 v : Int) := by
  rw [IntKind.wrap_u64, l1_cast, l2_cast]
  by_cases h : v < 0 <;> omega
theorem wrap_mc (x k c : Nat) (hx : x < 18446744073709551616) (hk : k < 18446744073709551616) (hc : c < 18446744073709551616) :
    IntKind.u64.wrap (((x * k / 18446744073709551616 : Nat) : Int) + (((x * k % 18446744073709551616 + c + 0) / 18446744073709551616 : Nat) : Int)) = ((mc x k c : Nat) : Int) := by
  have h := (mc_parts x k c).2
  have hl := mc_lt x k c hx hk hc
  rw [← Int.natCast_add, h, IntKind.wrap_u64]
  omega
theorem neg_size (b : Int) (h1 : -9223372036854775808 ≤ b) (h : b < 0) : IntKind.u64.wrap (wrap64 (-b)) = ((b.natAbs : Nat) : Int) := by
  rw [IntKind.wrap_u64]; unfold wrap64; omega
end Go.Proofs.Ytkcfgkedgjpeoaa
