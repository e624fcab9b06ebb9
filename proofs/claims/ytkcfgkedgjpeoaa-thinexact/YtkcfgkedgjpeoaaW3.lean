/- wide: Sign, Word, down, Nearest. -/
import Derived.Test.YtkcfgkedgjpeoaaW2
import Derived.Test.YtkcfgkedgjpeoaaLeaf
namespace Go.Proofs.Ytkcfgkedgjpeoaa
open Go.RowKit Go.Shelf
theorem eqarr3 {P : Program} (t e : TypeId) (k k' : IntKind) (h : P.underlying t = some (.array 3 e)) (he : P.underlying e = some (.int k')) (hs : ∀ w, (Go.sizeOf e).run P w = .ok 1 w) (ha : ∀ w, (isAgg e).run P w = .ok false w) (x y z a b c : Int) (w : World) :
    (Op.equalIn 10000 t (.agg #[.int k x, .int k y, .int k z]) (.agg #[.int k a, .int k b, .int k c])).run P w = .ok (x == a && (y == b && z == c)) w := by
  have hi : ∀ (u v : Int) (w : World), (Op.equalIn 9999 e (.int k u) (.int k v)).run P w = .ok (u == v) w := fun u v w => run_equalIn_int (P := P) w 9998 e k k' u v he
  show (Op.equalIn (9999 + 1) t _ _).run P w = _
  rw [Op.equalIn]
  by_cases hx : x = a <;> by_cases hy : y = b <;> by_cases hz : z = c <;> simp [run_underlying h, hs, List.range', go_sem, ha, hi, hx, hy, hz]
/-- the sign of a number -/
def sgnw (z : Int) : Int := if z = 0 then 0 else if z < 0 then -1 else 1
theorem bits_or_comm (a b : Int) : bits BinOp.or IntKind.u64 a b = bits BinOp.or IntKind.u64 b a := by
  simp [bits, Nat.or_comm]
theorem or_limbs (x y : Nat) (hx : x < 18446744073709551616) :
    bits BinOp.or IntKind.u64 ((x : Int) / 1073741824) (IntKind.u64.wrap ((y : Int) * 17179869184)) = ((x / 1073741824 + y * 17179869184 % 18446744073709551616 : Nat) : Int) := by
  have e1 : IntKind.u64.wrap ((y : Int) * 17179869184) = ((y % 1073741824 * 2 ^ 34 : Nat) : Int) := by
    rw [IntKind.wrap_u64, show (2 : Nat) ^ 34 = 17179869184 by decide]; omega
  have e2 : (x : Int) / 1073741824 = ((x / 1073741824 : Nat) : Int) := by omega
  have h34 : (2 : Nat) ^ 34 = 17179869184 := by decide
  rw [bits_or_comm, e1, e2, Num.or_shift (y % 1073741824) (x / 1073741824) 34 (by omega) (by rw [h34]; omega) (by rw [h34]; omega), h34]
  omega
/-- what is added ahead of rounding down -/
def oddQ (z : Int) : Int := z / 1073741824 % 2
theorem odd_limb (z : Int) : bits BinOp.and IntKind.u64 ((l0 z : Int) / 1073741824) 1 = oddQ z := by
  have h := l0_lt z
  have e : (l0 z : Int) / 1073741824 = ((l0 z / 1073741824 : Nat) : Int) := by omega
  have c := l0_cast z
  rw [e, show (1 : Int) = ((1 : Nat) : Int) by rfl, bits_and_u64_nat _ _ (by omega) (by omega), Nat.and_one_is_mod]
  unfold oddQ
  omega
/-- z / 2^30, rounded to the nearest, halves to even -/
def nearQ (z : Int) : Int := (z + (536870911 + oddQ z)) / 1073741824
end Go.Proofs.Ytkcfgkedgjpeoaa
