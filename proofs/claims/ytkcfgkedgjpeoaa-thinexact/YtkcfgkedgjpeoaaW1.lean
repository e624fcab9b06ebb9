/- wide: Of, Plus, Minus, Neg, Times, Product: limb by limb. -/
import Derived.Test.YtkcfgkedgjpeoaaW0
import Derived.Test.YtkcfgkedgjpeoaaWNum2
import Derived.Test.YtkcfgkedgjpeoaaShelf
import Derived.Shelf.Spec.BitsCarry
import Derived.BigRegion
namespace Go.Proofs.Ytkcfgkedgjpeoaa
open Go.RowKit Go.Shelf

/-- v is the number z, modulo 2^192 -/
def IsW (v : Value) (z : Int) : Prop := ∃ x y t : Int, v = .agg #[.int .u64 x, .int .u64 y, .int .u64 t] ∧ x = l0 z ∧ y = l1 z ∧ t = l2 z
theorem IsW.mk (z : Int) : IsW (.agg #[.int .u64 (l0 z : Int), .int .u64 (l1 z : Int), .int .u64 (l2 z : Int)]) z := ⟨_, _, _, rfl, rfl, rfl, rfl⟩
theorem isW_of {x y t z : Int} (h0 : x = l0 z) (h1 : y = l1 z) (h2 : t = l2 z) : IsW (.agg #[.int .u64 x, .int .u64 y, .int .u64 t]) z := ⟨_, _, _, rfl, h0, h1, h2⟩

theorem borw_le (x y c : Nat) : borw x y c ≤ 1 := by unfold borw; split <;> omega
end Go.Proofs.Ytkcfgkedgjpeoaa
