/- VecNorms: numbers. -/
import Derived.Test.YtjlfhhgdklblcaaInt1
import Derived.Test.YtjlfhhgdklblcaaRootQNum
namespace Go.Proofs.Ytjlfhhgdklblcaa
open Go.RowKit Go.Shelf

theorem norm_up {D k : Nat} (h : RootQ D 1 k) : sgn ((2 * (k : Int) + 1) * (2 * (k : Int) + 1) - (D : Int) * 2 ^ 2) = 0 ∨ sgn ((2 * (k : Int) + 1) * (2 * (k : Int) + 1) - (D : Int) * 2 ^ 2) = 1 := by
  obtain ⟨h1, _⟩ := h
  rw [Nat.mul_one] at h1
  have e : (2 * (k : Int) + 1) * (2 * (k : Int) + 1) = (((2 * k + 1) * (2 * k + 1) : Nat) : Int) := by rw [Int.natCast_mul]; rfl
  rw [e]
  unfold sgn
  split
  · omega
  · split
    · exact .inl rfl
    · exact .inr rfl
theorem norm_down {D k : Nat} (h : RootQ D 1 k) (hk : 0 < k) : sgn ((2 * (k : Int) - 1) * (2 * (k : Int) - 1) - (D : Int) * 2 ^ 2) = 0 ∨ sgn ((2 * (k : Int) - 1) * (2 * (k : Int) - 1) - (D : Int) * 2 ^ 2) = -1 := by
  obtain ⟨_, h1, _⟩ := h
  rw [Nat.mul_one] at h1
  have e : (2 * (k : Int) - 1) * (2 * (k : Int) - 1) = (((2 * k - 1) * (2 * k - 1) : Nat) : Int) := by
    rw [Int.natCast_mul, Int.ofNat_sub (by omega), Int.natCast_mul]; rfl
  rw [e]
  unfold sgn
  split
  · exact .inr rfl
  · split
    · exact .inl rfl
    · omega

end Go.Proofs.Ytjlfhhgdklblcaa
