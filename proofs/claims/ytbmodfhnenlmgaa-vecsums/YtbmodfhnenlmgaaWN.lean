/- Plain numbers: a whole number as three limbs of 64 bits, in two's complement. Plain numbers: signs, words, shifts and roots of numbers of three limbs. Plain numbers: the greatest number that is within, bit by bit. -/
import Derived.Test.YtbmodfhnenlmgaaNum2
namespace Go.Proofs.Ytbmodfhnenlmgaa

/-- the three limbs of a whole number, modulo 2^192 -/
def l0 (z : Int) : Nat := (z % 18446744073709551616).toNat
def l1 (z : Int) : Nat := (z / 18446744073709551616 % 18446744073709551616).toNat
def l2 (z : Int) : Nat := (z / 18446744073709551616 / 18446744073709551616 % 18446744073709551616).toNat
theorem l0_cast (z : Int) : (l0 z : Int) = z % 18446744073709551616 := by unfold l0; omega
theorem l1_cast (z : Int) : (l1 z : Int) = z / 18446744073709551616 % 18446744073709551616 := by unfold l1; omega
theorem l2_cast (z : Int) : (l2 z : Int) = z / 18446744073709551616 / 18446744073709551616 % 18446744073709551616 := by unfold l2; omega
theorem l0_lt (z : Int) : l0 z < 18446744073709551616 := by unfold l0; omega
theorem l1_lt (z : Int) : l1 z < 18446744073709551616 := by unfold l1; omega
theorem l2_lt (z : Int) : l2 z < 18446744073709551616 := by unfold l2; omega

/-- one limb of a sum -/
theorem add_step (a b : Int) (c : Int) : (a + b + c) % 18446744073709551616 = (a % 18446744073709551616 + b % 18446744073709551616 + c) % 18446744073709551616 ∧
    (a + b + c) / 18446744073709551616 = a / 18446744073709551616 + b / 18446744073709551616 + (a % 18446744073709551616 + b % 18446744073709551616 + c) / 18446744073709551616 := by omega
/-- one limb of a difference -/
def borw (x y c : Nat) : Nat := if x < y + c then 1 else 0
theorem sub_step (a b : Int) (c : Nat) (hc : c ≤ 1) (x y : Nat) (hx : (x : Int) = a % 18446744073709551616) (hy : (y : Int) = b % 18446744073709551616) :
    (a - b - c) % 18446744073709551616 = ((x + 18446744073709551616 - y - c) % 18446744073709551616 : Nat) ∧
    (a - b - c) / 18446744073709551616 = a / 18446744073709551616 - b / 18446744073709551616 - (borw x y c : Nat) := by
  unfold borw
  split <;> omega
theorem plus_limbs (a b : Int) : let c0 := (l0 a + l0 b + 0) / 18446744073709551616
    let c1 := (l1 a + l1 b + c0) / 18446744073709551616
    (l0 a + l0 b + 0) % 18446744073709551616 = l0 (a + b) ∧ (l1 a + l1 b + c0) % 18446744073709551616 = l1 (a + b) ∧ (l2 a + l2 b + c1) % 18446744073709551616 = l2 (a + b) := by
  intro c0 c1
  have h0 := add_step a b 0
  have h1 := add_step (a / 18446744073709551616) (b / 18446744073709551616) c0
  have h2 := add_step (a / 18446744073709551616 / 18446744073709551616) (b / 18446744073709551616 / 18446744073709551616) c1
  have e0 : (c0 : Int) = ((l0 a : Int) + l0 b + 0) / 18446744073709551616 := by simp [c0]
  have e1 : (c1 : Int) = ((l1 a : Int) + l1 b + c0) / 18446744073709551616 := by simp [c1]
  rw [l0_cast, l0_cast] at e0
  rw [l1_cast, l1_cast] at e1
  rw [← e0, Int.add_zero] at h0
  rw [← e1] at h1
  refine ⟨?_, ?_, ?_⟩
  · apply Int.ofNat.inj; show ((_ : Nat) : Int) = ((_ : Nat) : Int)
    rw [l0_cast, Int.natCast_emod, Int.natCast_add, Int.natCast_add, l0_cast, l0_cast]
    exact h0.1.symm
  · apply Int.ofNat.inj; show ((_ : Nat) : Int) = ((_ : Nat) : Int)
    rw [l1_cast, Int.natCast_emod, Int.natCast_add, Int.natCast_add, l1_cast, l1_cast, h0.2]
    exact h1.1.symm
  · apply Int.ofNat.inj; show ((_ : Nat) : Int) = ((_ : Nat) : Int)
    rw [l2_cast, Int.natCast_emod, Int.natCast_add, Int.natCast_add, l2_cast, l2_cast, h0.2, h1.2]
    exact h2.1.symm
theorem minus_limbs (a b : Int) : let c0 := borw (l0 a) (l0 b) 0
    let c1 := borw (l1 a) (l1 b) c0
    (l0 a + 18446744073709551616 - l0 b - 0) % 18446744073709551616 = l0 (a - b) ∧ (l1 a + 18446744073709551616 - l1 b - c0) % 18446744073709551616 = l1 (a - b) ∧ (l2 a + 18446744073709551616 - l2 b - c1) % 18446744073709551616 = l2 (a - b) := by
  intro c0 c1
  have hc0 : c0 ≤ 1 := by simp only [c0, borw]; split <;> omega
  have hc1 : c1 ≤ 1 := by simp only [c1, borw]; split <;> omega
  have h0 := sub_step a b 0 (by omega) (l0 a) (l0 b) (l0_cast _) (l0_cast _)
  have h1 := sub_step (a / 18446744073709551616) (b / 18446744073709551616) c0 hc0 (l1 a) (l1 b) (l1_cast _) (l1_cast _)
  have h2 := sub_step (a / 18446744073709551616 / 18446744073709551616) (b / 18446744073709551616 / 18446744073709551616) c1 hc1 (l2 a) (l2 b) (l2_cast _) (l2_cast _)
  rw [Int.natCast_zero, Int.sub_zero] at h0
  refine ⟨?_, ?_, ?_⟩
  · apply Int.ofNat.inj; show ((_ : Nat) : Int) = ((_ : Nat) : Int)
    rw [l0_cast]; exact h0.1.symm
  · apply Int.ofNat.inj; show ((_ : Nat) : Int) = ((_ : Nat) : Int)
    rw [l1_cast, h0.2]; exact h1.1.symm
  · apply Int.ofNat.inj; show ((_ : Nat) : Int) = ((_ : Nat) : Int)
    rw [l2_cast, h0.2, h1.2]; exact h2.1.symm
/-- one limb of a product -/
theorem mul_step (a k c : Int) : (a * k + c) % 18446744073709551616 = (a % 18446744073709551616 * k + c) % 18446744073709551616 ∧
    (a * k + c) / 18446744073709551616 = a / 18446744073709551616 * k + (a % 18446744073709551616 * k + c) / 18446744073709551616 := by
  have e : a * k = 18446744073709551616 * (a / 18446744073709551616 * k) + a % 18446744073709551616 * k := by
    rw [← Int.mul_assoc, ← Int.add_mul, Int.mul_ediv_add_emod]
  generalize a / 18446744073709551616 * k = q at *
  generalize a % 18446744073709551616 * k = r at *
  omega
def mc (x k c : Nat) : Nat := (x * k + c) / 18446744073709551616
theorem mc_lt (x k c : Nat) (hx : x < 18446744073709551616) (hk : k < 18446744073709551616) (hc : c < 18446744073709551616) : mc x k c < 18446744073709551616 := by
  have h : x * k ≤ 18446744073709551615 * 18446744073709551615 := Nat.mul_le_mul (by omega) (by omega)
  unfold mc
  generalize x * k = p at *
  omega
theorem mc_parts (x k c : Nat) :
    (x * k % 18446744073709551616 + c + 0) % 18446744073709551616 = (x * k + c) % 18446744073709551616 ∧
    x * k / 18446744073709551616 + (x * k % 18446744073709551616 + c + 0) / 18446744073709551616 = mc x k c := by
  unfold mc
  generalize x * k = p
  omega
theorem times_limbs (a : Int) (k : Nat) : let c0 := mc (l0 a) k 0
    let c1 := mc (l1 a) k c0
    (l0 a * k + 0) % 18446744073709551616 = l0 (a * k) ∧ (l1 a * k + c0) % 18446744073709551616 = l1 (a * k) ∧ (l2 a * k + c1) % 18446744073709551616 = l2 (a * k) := by
  intro c0 c1
  have h0 := mul_step a k 0
  have h1 := mul_step (a / 18446744073709551616) k c0
  have h2 := mul_step (a / 18446744073709551616 / 18446744073709551616) k c1
  have e0 : (c0 : Int) = ((l0 a : Int) * k + 0) / 18446744073709551616 := by simp [c0, mc]
  have e1 : (c1 : Int) = ((l1 a : Int) * k + c0) / 18446744073709551616 := by simp [c1, mc]
  rw [l0_cast] at e0
  rw [l1_cast] at e1
  rw [← e0, Int.add_zero] at h0
  rw [← e1] at h1
  refine ⟨?_, ?_, ?_⟩
  · apply Int.ofNat.inj; show ((_ : Nat) : Int) = ((_ : Nat) : Int)
    rw [l0_cast, Int.natCast_emod, Int.natCast_add, Int.natCast_mul, l0_cast]
    exact h0.1.symm
  · apply Int.ofNat.inj; show ((_ : Nat) : Int) = ((_ : Nat) : Int)
    rw [l1_cast, Int.natCast_emod, Int.natCast_add, Int.natCast_mul, l1_cast, h0.2]
    exact h1.1.symm
  · apply Int.ofNat.inj; show ((_ : Nat) : Int) = ((_ : Nat) : Int)
    rw [l2_cast, Int.natCast_emod, Int.natCast_add, Int.natCast_mul, l2_cast, h0.2, h1.2]
    exact h2.1.symm
end Go.Proofs.Ytbmodfhnenlmgaa

namespace Go.Proofs.Ytbmodfhnenlmgaa

/-- it fits into 192 bits -/
def InW (z : Int) : Prop := -3138550867693340381917894711603833208051177722232017256448 ≤ z ∧ z < 3138550867693340381917894711603833208051177722232017256448
theorem limbs_eq (z : Int) : z = l0 z + 18446744073709551616 * (l1 z + 18446744073709551616 * (l2 z + 18446744073709551616 * (z / 18446744073709551616 / 18446744073709551616 / 18446744073709551616))) := by
  rw [l0_cast, l1_cast, l2_cast]
  omega
theorem inW_top {z : Int} (h : InW z) : z / 18446744073709551616 / 18446744073709551616 / 18446744073709551616 = if 9223372036854775808 ≤ l2 z then -1 else 0 := by
  obtain ⟨h1, h2⟩ := h
  have e := limbs_eq z
  have b0 := l0_lt z
  have b1 := l1_lt z
  have b2 := l2_lt z
  generalize l0 z = x at *
  generalize l1 z = y at *
  generalize l2 z = v at *
  generalize z / 18446744073709551616 / 18446744073709551616 / 18446744073709551616 = q at *
  split <;> omega
theorem limbs_inj {a b : Int} (ha : InW a) (hb : InW b) (h0 : l0 a = l0 b) (h1 : l1 a = l1 b) (h2 : l2 a = l2 b) : a = b := by
  rw [limbs_eq a, limbs_eq b, inW_top ha, inW_top hb, h0, h1, h2]
theorem sign_neg {z : Int} (h : InW z) : 9223372036854775808 ≤ l2 z ↔ z < 0 := by
  have t := inW_top h
  have b := l2_lt z
  have e := limbs_eq z
  have b0 := l0_lt z
  have b1 := l1_lt z
  constructor
  · intro hh
    rw [if_pos hh] at t
    rw [t] at e
    generalize l0 z = x at *
    generalize l1 z = y at *
    generalize l2 z = v at *
    omega
  · intro hz
    apply Decidable.byContradiction
    intro hh
    rw [if_neg hh] at t
    rw [t] at e
    generalize l0 z = x at *
    generalize l1 z = y at *
    generalize l2 z = v at *
    omega
theorem zero_limbs : l0 0 = 0 ∧ l1 0 = 0 ∧ l2 0 = 0 := by decide
theorem inW_small {z : Int} (h1 : -9223372036854775808 ≤ z) (h2 : z ≤ 9223372036854775807) : InW z := by unfold InW; omega
theorem zero_iff {z : Int} (h : InW z) : (l0 z = 0 ∧ l1 z = 0 ∧ l2 z = 0) ↔ z = 0 := by
  constructor
  · rintro ⟨a, b, c⟩
    exact limbs_inj h (inW_small (by omega) (by omega)) (a.trans zero_limbs.1.symm) (b.trans zero_limbs.2.1.symm) (c.trans zero_limbs.2.2.symm)
  · rintro rfl; exact zero_limbs
theorem of_neg {v : Int} (h1 : -9223372036854775808 ≤ v) (h : v < 0) : l1 v = 18446744073709551615 ∧ l2 v = 18446744073709551615 := by
  unfold l1 l2; omega
theorem of_pos {v : Int} (h1 : v ≤ 9223372036854775807) (h : 0 ≤ v) : l1 v = 0 ∧ l2 v = 0 := by
  unfold l1 l2; omega
/-- the lowest limb as a number with a sign -/
def low (z : Int) : Int := if (l0 z : Int) < 9223372036854775808 then (l0 z : Int) else (l0 z : Int) - 18446744073709551616
theorem low_bounds (z : Int) : -9223372036854775808 ≤ low z ∧ low z ≤ 9223372036854775807 := by
  have := l0_lt z; unfold low; split <;> omega
theorem low_self {z : Int} (h1 : -9223372036854775808 ≤ z) (h2 : z ≤ 9223372036854775807) : low z = z := by
  have e := l0_cast z; unfold low; split <;> omega
theorem low_limbs {z : Int} (hz : InW z) (h0 : l0 (low z) = l0 z) (h1 : l1 (low z) = l1 z) (h2 : l2 (low z) = l2 z) : low z = z :=
  limbs_inj (inW_small (low_bounds z).1 (low_bounds z).2) hz h0 h1 h2
theorem low_l0 (z : Int) : l0 (low z) = l0 z := by
  have := l0_lt z
  have e : (l0 (low z) : Int) = l0 z := by rw [l0_cast]; unfold low; split <;> omega
  omega

/-- a / 2^30, limb by limb -/
theorem down0 (z : Int) : l0 z / 1073741824 + l1 z * 17179869184 % 18446744073709551616 = l0 (z / 1073741824) := by
  apply Int.ofNat.inj; show ((_ : Nat) : Int) = ((_ : Nat) : Int)
  have a := l0_cast z
  have b := l1_cast z
  have c := l0_cast (z / 1073741824)
  omega
theorem div_swap (z : Int) : z / 1073741824 / 18446744073709551616 = z / 18446744073709551616 / 1073741824 := by omega
theorem down1 (z : Int) : l1 z / 1073741824 + l2 z * 17179869184 % 18446744073709551616 = l1 (z / 1073741824) := by
  have h := down0 (z / 18446744073709551616)
  have e0 : l0 (z / 18446744073709551616) = l1 z := rfl
  have e1 : l1 (z / 18446744073709551616) = l2 z := rfl
  have e2 : l0 (z / 18446744073709551616 / 1073741824) = l1 (z / 1073741824) := by unfold l0 l1; rw [div_swap]
  rw [e0, e1, e2] at h
  exact h
/-- the highest limb as a number with a sign, shifted -/
def high (z : Int) : Int := if (l2 z : Int) < 9223372036854775808 then (l2 z : Int) else (l2 z : Int) - 18446744073709551616
theorem high_bounds (z : Int) : -9223372036854775808 ≤ high z ∧ high z ≤ 9223372036854775807 := by
  have := l2_lt z; unfold high; split <;> omega
theorem high_eq {z : Int} (h : InW z) : high z = z / 18446744073709551616 / 18446744073709551616 := by
  have t := inW_top h
  have e := l2_cast z
  unfold high
  split at t <;> split <;> omega
theorem down2 {z : Int} (h : InW z) : (high z / 1073741824) % 18446744073709551616 = (l2 (z / 1073741824) : Int) := by
  rw [high_eq h, l2_cast, div_swap, div_swap]
end Go.Proofs.Ytbmodfhnenlmgaa

namespace Go.Proofs.Ytbmodfhnenlmgaa.Num
open Go.RowKit

def GRel (P : Nat → Prop) (r b : Int) : Prop := ∃ R : Nat, r = R ∧ P R ∧
  ((b = 0 ∧ ¬ P (R + 1) ∧ R < 70368744177664) ∨ ∃ j : Nat, j ≤ 45 ∧ b = ((2 ^ j : Nat) : Int) ∧ (∃ m, R = m * 2 ^ (j + 1)) ∧ ¬ P (R + 2 ^ (j + 1)) ∧ R + 2 ^ (j + 1) ≤ 70368744177664)

theorem gr_start (P : Nat → Prop) (h0 : P 0) (h1 : ¬ P 70368744177664) : GRel P 0 35184372088832 := by
  refine ⟨0, rfl, h0, .inr ⟨45, by omega, by decide, ⟨0, by omega⟩, ?_, by decide⟩⟩
  have : 0 + 2 ^ (45 + 1) = 70368744177664 := by decide
  rw [this]; exact h1

theorem gr_round (P : Nat → Prop) (r b : Int) (h : GRel P r b) : (b = 0 ∧ ∃ R : Nat, r = R ∧ P R ∧ ¬ P (R + 1) ∧ R < 70368744177664) ∨
    (0 < b ∧ b ≤ 35184372088832 ∧ 0 ≤ r ∧ r < 70368744177664 ∧ ∃ X : Nat, bits BinOp.or IntKind.u64 r b = (X : Int) ∧ X < 70368744177664 ∧
      (P X → GRel P X (b / 2)) ∧ (¬ P X → GRel P r (b / 2))) := by
  obtain ⟨R, rfl, h1, h2⟩ := h
  rcases h2 with ⟨hb, h3, h4⟩ | ⟨j, hj, rfl, ⟨m, hm⟩, h3, h4⟩
  · exact .inl ⟨hb, R, rfl, h1, h3, h4⟩
  · right
    have hp : 0 < 2 ^ j := Nat.pow_pos (by omega)
    have hps : 2 ^ (j + 1) = 2 * 2 ^ j := by rw [Nat.pow_succ]; omega
    have hp45 : 2 ^ j ≤ 35184372088832 := by
      have := Nat.pow_le_pow_right (n := 2) (by omega) hj
      simpa using this
    have hor : bits BinOp.or IntKind.u64 (R : Int) ((2 ^ j : Nat) : Int) = ((R + 2 ^ j : Nat) : Int) := by
      have := or_shift m (2 ^ j) (j + 1) (by omega) (by omega) (by rw [← hm]; omega)
      rw [← hm] at this
      exact this
    refine ⟨by omega, by omega, by omega, by omega, R + 2 ^ j, hor, by omega, fun hx => ?_, fun hx => ?_⟩
    · refine ⟨R + 2 ^ j, rfl, hx, ?_⟩
      cases j with
      | zero => left; refine ⟨by simp, ?_, by omega⟩; simpa [Nat.add_assoc] using h3
      | succ j =>
        right
        refine ⟨j, by omega, ?_, ⟨2 * m + 1, ?_⟩, ?_, by omega⟩
        · rw [Nat.pow_succ]; omega
        · rw [hm, hps, Nat.add_mul, Nat.one_mul, Nat.mul_assoc, Nat.mul_left_comm]
        · have : R + 2 ^ (j + 1) + 2 ^ (j + 1) = R + 2 ^ (j + 1 + 1) := by omega
          rw [this]; exact h3
    · refine ⟨R, rfl, h1, ?_⟩
      cases j with
      | zero => left; refine ⟨by simp, ?_, by omega⟩; simpa using hx
      | succ j =>
        right
        refine ⟨j, by omega, ?_, ⟨m * 2, ?_⟩, hx, by omega⟩
        · rw [Nat.pow_succ]; omega
        · rw [hm, hps, Nat.mul_assoc]
end Go.Proofs.Ytbmodfhnenlmgaa.Num
