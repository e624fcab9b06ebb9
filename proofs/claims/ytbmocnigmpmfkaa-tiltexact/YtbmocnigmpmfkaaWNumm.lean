/- Plain numbers: a whole number as three limbs of 64 bits, in two's complement. -/
import Derived.Test.YtbmocnigmpmfkaaNum2m
namespace Go.Proofs.Ytbmocnigmpmfkaa

/-- the three limbs of a whole number, modulo 2^192 -/
def l0 (z : Int) : Nat := (z % 18446744073709551616).toNat
def l1 (z : Int) : Nat := (z / 18446744073709551616 % 18446744073709551616).toNat
def l2 (z : Int) : Nat := (z / 18446744073709551616 / 18446744073709551616 % 18446744073709551616).toNat
theorem l0_cast (z : Int) : (l0 z : Int) = z % 18446744073709551616 := by unfold l0; omega
theorem l1_cast (z : Int) : (l1 z : Int) = z / 18446744073709551616 % 18446744073709551616 := by unfold l1; omega
theorem l2_cast (z : Int) : (l2 z : Int) = z / 18446744073709551616 / 18446744073709551616 % 18446744073709551616 := by unfold l2; omega
theorem l0_lt (z : Int) : l0 z < 18446744073709551616 := by unfold l0; omega
theorem l1_lt (z : Int) : l1 z < 18446744073709551616 := by unfold l1; omega
theorem l2_lt (z : Int) : l2 z < 18446744073709551616 := by unfold l2; omega

/-- one limb of a sum -/
theorem add_step (a b : Int) (c : Int) : (a + b + c) % 18446744073709551616 = (a % 18446744073709551616 + b % 18446744073709551616 + c) % 18446744073709551616 ∧
    (a + b + c) / 18446744073709551616 = a / 18446744073709551616 + b / 18446744073709551616 + (a % 18446744073709551616 + b % 18446744073709551616 + c) / 18446744073709551616 := by omega
/-- one limb of a difference -/
def borw (x y c : Nat) : Nat := if x < y + c then 1 else 0
theorem sub_step (a b : Int) (c : Nat) (hc : c ≤ 1) (x y : Nat) (hx : (x : Int) = a % 18446744073709551616) (hy : (y : Int) = b % 18446744073709551616) :
    (a - b - c) % 18446744073709551616 = ((x + 18446744073709551616 - y - c) % 18446744073709551616 : Nat) ∧
    (a - b - c) / 18446744073709551616 = a / 18446744073709551616 - b / 18446744073709551616 - (borw x y c : Nat) := by
  unfold borw
  split <;> omega
theorem plus_limbs (a b : Int) : let c0 := (l0 a + l0 b + 0) / 18446744073709551616
    let c1 := (l1 a + l1 b + c0) / 18446744073709551616
    (l0 a + l0 b + 0) % 18446744073709551616 = l0 (a + b) ∧ (l1 a + l1 b + c0) % 18446744073709551616 = l1 (a + b) ∧ (l2 a + l2 b + c1) % 18446744073709551616 = l2 (a + b) := by
  intro c0 c1
  have h0 := add_step a b 0
  have h1 := add_step (a / 18446744073709551616) (b / 18446744073709551616) c0
  have h2 := add_step (a / 18446744073709551616 / 18446744073709551616) (b / 18446744073709551616 / 18446744073709551616) c1
  have e0 : (c0 : Int) = ((l0 a : Int) + l0 b + 0) / 18446744073709551616 := by simp [c0]
  have e1 : (c1 : Int) = ((l1 a : Int) + l1 b + c0) / 18446744073709551616 := by simp [c1]
  rw [l0_cast, l0_cast] at e0
  rw [l1_cast, l1_cast] at e1
  rw [← e0, Int.add_zero] at h0
  rw [← e1] at h1
  refine ⟨?_, ?_, ?_⟩
  · apply Int.ofNat.inj; show ((_ : Nat) : Int) = ((_ : Nat) : Int)
    rw [l0_cast, Int.natCast_emod, Int.natCast_add, Int.natCast_add, l0_cast, l0_cast]
    exact h0.1.symm
  · apply Int.ofNat.inj; show ((_ : Nat) : Int) = ((_ : Nat) : Int)
    rw [l1_cast, Int.natCast_emod, Int.natCast_add, Int.natCast_add, l1_cast, l1_cast, h0.2]
    exact h1.1.symm
  · apply Int.ofNat.inj; show ((_ : Nat) : Int) = ((_ : Nat) : Int)
    rw [l2_cast, Int.natCast_emod, Int.natCast_add, Int.natCast_add, l2_cast, l2_cast, h0.2, h1.2]
    exact h2.1.symm
theorem minus_limbs (a b : Int) : let c0 := borw (l0 a) (l0 b) 0
    let c1 := borw (l1 a) (l1 b) c0
    (l0 a + 18446744073709551616 - l0 b - 0) % 18446744073709551616 = l0 (a - b) ∧ (l1 a + 18446744073709551616 - l1 b - c0) % 18446744073709551616 = l1 (a - b) ∧ (l2 a + 18446744073709551616 - l2 b - c1) % 18446744073709551616 = l2 (a - b) := by
  intro c0 c1
  have hc0 : c0 ≤ 1 := by simp only [c0, borw]; split <;> omega
  have hc1 : c1 ≤ 1 := by simp only [c1, borw]; split <;> omega
  have h0 := sub_step a b 0 (by omega) (l0 a) (l0 b) (l0_cast _) (l0_cast _)
  have h1 := sub_step (a / 18446744073709551616) (b / 18446744073709551616) c0 hc0 (l1 a) (l1 b) (l1_cast _) (l1_cast _)
  have h2 := sub_step (a / 18446744073709551616 / 18446744073709551616) (b / 18446744073709551616 / 18446744073709551616) c1 hc1 (l2 a) (l2 b) (l2_cast _) (l2_cast _)
  rw [Int.natCast_zero, Int.sub_zero] at h0
  refine ⟨?_, ?_, ?_⟩
  · apply Int.ofNat.inj; show ((_ : Nat) : Int) = ((_ : Nat) : Int)
    rw [l0_cast]; exact h0.1.symm
  · apply Int.ofNat.inj; show ((_ : Nat) : Int) = ((_ : Nat) : Int)
    rw [l1_cast, h0.2]; exact h1.1.symm
  · apply Int.ofNat.inj; show ((_ : Nat) : Int) = ((_ : Nat) : Int)
    rw [l2_cast, h0.2, h1.2]; exact h2.1.symm
/-- one limb of a product -/
theorem mul_step (a k c : Int) : (a * k + c) % 18446744073709551616 = (a % 18446744073709551616 * k + c) % 18446744073709551616 ∧
    (a * k + c) / 18446744073709551616 = a / 18446744073709551616 * k + (a % 18446744073709551616 * k + c) / 18446744073709551616 := by
  have e : a * k = 18446744073709551616 * (a / 18446744073709551616 * k) + a % 18446744073709551616 * k := by
    rw [← Int.mul_assoc, ← Int.add_mul, Int.mul_ediv_add_emod]
  generalize a / 18446744073709551616 * k = q at *
  generalize a % 18446744073709551616 * k = r at *
  omega
def mc (x k c : Nat) : Nat := (x * k + c) / 18446744073709551616
theorem mc_lt (x k c : Nat) (hx : x < 18446744073709551616) (hk : k < 18446744073709551616) (hc : c < 18446744073709551616) : mc x k c < 18446744073709551616 := by
  have h : x * k ≤ 18446744073709551615 * 18446744073709551615 := Nat.mul_le_mul (by omega) (by omega)
  unfold mc
  generalize x * k = p at *
  omega
theorem mc_parts (x k c : Nat) :
    (x * k % 18446744073709551616 + c + 0) % 18446744073709551616 = (x * k + c) % 18446744073709551616 ∧
    x * k / 18446744073709551616 + (x * k % 18446744073709551616 + c + 0) / 18446744073709551616 = mc x k c := by
  unfold mc
  generalize x * k = p
  omega
theorem times_limbs (a : Int) (k : Nat) : let c0 := mc (l0 a) k 0
    let c1 := mc (l1 a) k c0
    (l0 a * k + 0) % 18446744073709551616 = l0 (a * k) ∧ (l1 a * k + c0) % 18446744073709551616 = l1 (a * k) ∧ (l2 a * k + c1) % 18446744073709551616 = l2 (a * k) := by
  intro c0 c1
  have h0 := mul_step a k 0
  have h1 := mul_step (a / 18446744073709551616) k c0
  have h2 := mul_step (a / 18446744073709551616 / 18446744073709551616) k c1
  have e0 : (c0 : Int) = ((l0 a : Int) * k + 0) / 18446744073709551616 := by simp [c0, mc]
  have e1 : (c1 : Int) = ((l1 a : Int) * k + c0) / 18446744073709551616 := by simp [c1, mc]
  rw [l0_cast] at e0
  rw [l1_cast] at e1
  rw [← e0, Int.add_zero] at h0
  rw [← e1] at h1
  refine ⟨?_, ?_, ?_⟩
  · apply Int.ofNat.inj; show ((_ : Nat) : Int) = ((_ : Nat) : Int)
    rw [l0_cast, Int.natCast_emod, Int.natCast_add, Int.natCast_mul, l0_cast]
    exact h0.1.symm
  · apply Int.ofNat.inj; show ((_ : Nat) : Int) = ((_ : Nat) : Int)
    rw [l1_cast, Int.natCast_emod, Int.natCast_add, Int.natCast_mul, l1_cast, h0.2]
    exact h1.1.symm
  · apply Int.ofNat.inj; show ((_ : Nat) : Int) = ((_ : Nat) : Int)
    rw [l2_cast, Int.natCast_emod, Int.natCast_add, Int.natCast_mul, l2_cast, h0.2, h1.2]
    exact h2.1.symm
end Go.Proofs.Ytbmocnigmpmfkaa
