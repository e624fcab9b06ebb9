/- Plain numbers: signs, words, shifts and roots of numbers of three limbs. The library's contracts of math/bits.LeadingZeros64 and Mul64, at this program. -/
import Derived.Test.YtbmocnigmpmfkaaWNumm
import Derived.Shelf.Small.Bits
import Derived.Shelf.Bits.Mul64
import Derived.Test.YtbmocnigmpmfkaaProg
namespace Go.Proofs.Ytbmocnigmpmfkaa

/-- it fits into 192 bits -/
def InW (z : Int) : Prop := -3138550867693340381917894711603833208051177722232017256448 ≤ z ∧ z < 3138550867693340381917894711603833208051177722232017256448
theorem limbs_eq (z : Int) : z = l0 z + 18446744073709551616 * (l1 z + 18446744073709551616 * (l2 z + 18446744073709551616 * (z / 18446744073709551616 / 18446744073709551616 / 18446744073709551616))) := by
  rw [l0_cast, l1_cast, l2_cast]
  omega
theorem inW_top {z : Int} (h : InW z) : z / 18446744073709551616 / 18446744073709551616 / 18446744073709551616 = if 9223372036854775808 ≤ l2 z then -1 else 0 := by
  obtain ⟨h1, h2⟩ := h
  have e := limbs_eq z
  have b0 := l0_lt z
  have b1 := l1_lt z
  have b2 := l2_lt z
  generalize l0 z = x at *
  generalize l1 z = y at *
  generalize l2 z = v at *
  generalize z / 18446744073709551616 / 18446744073709551616 / 18446744073709551616 = q at *
  split <;> omega
theorem limbs_inj {a b : Int} (ha : InW a) (hb : InW b) (h0 : l0 a = l0 b) (h1 : l1 a = l1 b) (h2 : l2 a = l2 b) : a = b := by
  rw [limbs_eq a, limbs_eq b, inW_top ha, inW_top hb, h0, h1, h2]
theorem sign_neg {z : Int} (h : InW z) : 9223372036854775808 ≤ l2 z ↔ z < 0 := by
  have t := inW_top h
  have b := l2_lt z
  have e := limbs_eq z
  have b0 := l0_lt z
  have b1 := l1_lt z
  constructor
  · intro hh
    rw [if_pos hh] at t
    rw [t] at e
    generalize l0 z = x at *
    generalize l1 z = y at *
    generalize l2 z = v at *
    omega
  · intro hz
    apply Decidable.byContradiction
    intro hh
    rw [if_neg hh] at t
    rw [t] at e
    generalize l0 z = x at *
    generalize l1 z = y at *
    generalize l2 z = v at *
    omega
theorem zero_limbs : l0 0 = 0 ∧ l1 0 = 0 ∧ l2 0 = 0 := by decide
theorem inW_small {z : Int} (h1 : -9223372036854775808 ≤ z) (h2 : z ≤ 9223372036854775807) : InW z := by unfold InW; omega
theorem zero_iff {z : Int} (h : InW z) : (l0 z = 0 ∧ l1 z = 0 ∧ l2 z = 0) ↔ z = 0 := by
  constructor
  · rintro ⟨a, b, c⟩
    exact limbs_inj h (inW_small (by omega) (by omega)) (a.trans zero_limbs.1.symm) (b.trans zero_limbs.2.1.symm) (c.trans zero_limbs.2.2.symm)
  · rintro rfl; exact zero_limbs
theorem of_neg {v : Int} (h1 : -9223372036854775808 ≤ v) (h : v < 0) : l1 v = 18446744073709551615 ∧ l2 v = 18446744073709551615 := by
  unfold l1 l2; omega
theorem of_pos {v : Int} (h1 : v ≤ 9223372036854775807) (h : 0 ≤ v) : l1 v = 0 ∧ l2 v = 0 := by
  unfold l1 l2; omega
/-- the lowest limb as a number with a sign -/
def low (z : Int) : Int := if (l0 z : Int) < 9223372036854775808 then (l0 z : Int) else (l0 z : Int) - 18446744073709551616
theorem low_bounds (z : Int) : -9223372036854775808 ≤ low z ∧ low z ≤ 9223372036854775807 := by
  have := l0_lt z; unfold low; split <;> omega
theorem low_self {z : Int} (h1 : -9223372036854775808 ≤ z) (h2 : z ≤ 9223372036854775807) : low z = z := by
  have e := l0_cast z; unfold low; split <;> omega
theorem low_limbs {z : Int} (hz : InW z) (h0 : l0 (low z) = l0 z) (h1 : l1 (low z) = l1 z) (h2 : l2 (low z) = l2 z) : low z = z :=
  limbs_inj (inW_small (low_bounds z).1 (low_bounds z).2) hz h0 h1 h2
theorem low_l0 (z : Int) : l0 (low z) = l0 z := by
  have := l0_lt z
  have e : (l0 (low z) : Int) = l0 z := by rw [l0_cast]; unfold low; split <;> omega
  omega

/-- a / 2^30, limb by limb -/
theorem down0 (z : Int) : l0 z / 1073741824 + l1 z * 17179869184 % 18446744073709551616 = l0 (z / 1073741824) := by
  apply Int.ofNat.inj; show ((_ : Nat) : Int) = ((_ : Nat) : Int)
  have a := l0_cast z
  have b := l1_cast z
  have c := l0_cast (z / 1073741824)
  omega
theorem div_swap (z : Int) : z / 1073741824 / 18446744073709551616 = z / 18446744073709551616 / 1073741824 := by omega
theorem down1 (z : Int) : l1 z / 1073741824 + l2 z * 17179869184 % 18446744073709551616 = l1 (z / 1073741824) := by
  have h := down0 (z / 18446744073709551616)
  have e0 : l0 (z / 18446744073709551616) = l1 z := rfl
  have e1 : l1 (z / 18446744073709551616) = l2 z := rfl
  have e2 : l0 (z / 18446744073709551616 / 1073741824) = l1 (z / 1073741824) := by unfold l0 l1; rw [div_swap]
  rw [e0, e1, e2] at h
  exact h
/-- the highest limb as a number with a sign, shifted -/
def high (z : Int) : Int := if (l2 z : Int) < 9223372036854775808 then (l2 z : Int) else (l2 z : Int) - 18446744073709551616
theorem high_bounds (z : Int) : -9223372036854775808 ≤ high z ∧ high z ≤ 9223372036854775807 := by
  have := l2_lt z; unfold high; split <;> omega
theorem high_eq {z : Int} (h : InW z) : high z = z / 18446744073709551616 / 18446744073709551616 := by
  have t := inW_top h
  have e := l2_cast z
  unfold high
  split at t <;> split <;> omega
theorem down2 {z : Int} (h : InW z) : (high z / 1073741824) % 18446744073709551616 = (l2 (z / 1073741824) : Int) := by
  rw [high_eq h, l2_cast, div_swap, div_swap]
end Go.Proofs.Ytbmocnigmpmfkaa

namespace Go.Proofs.Ytbmocnigmpmfkaa
open Go.Shelf
def lays264_ren : Go.Shelf.Ren := ⟨fun | 264 => 77 | n => n, fun | 53 => 49 | 46 => 42 | n => n, fun | n => n⟩
theorem lays264 : Go.Proofs.Lays.n264 Try.prog lays264_ren := {
  mixed := by kernel_rfl
  f264 := Try.func77.trans (congrArg some (by kernel_rfl))
  t46 := Try.underlying42
  a46 := Try.isAgg42
  z46 := Try.sizeOf42
  v46 := Try.zeroValue42
  t53 := Try.underlying49
  a53 := Try.isAgg49
  z53 := Try.sizeOf49
  v53 := Try.zeroValue49 }
theorem mul64_any (x y : Nat) (hx : x < 18446744073709551616) (hy : y < 18446744073709551616) (w : World) :
    Calls Try.prog 77 #[.int .u64 x, .int .u64 y] w fun e w' => e = .returned (.tuple #[.int .u64 ((x * y / 18446744073709551616 : Nat) : Int), .int .u64 ((x * y % 18446744073709551616 : Nat) : Int)]) ∧ w' = w := Any.bits_Mul64 lays264 x y hx hy w
end Go.Proofs.Ytbmocnigmpmfkaa
