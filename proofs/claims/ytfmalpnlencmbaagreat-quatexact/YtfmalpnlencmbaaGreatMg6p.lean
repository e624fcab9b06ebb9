/- Contracts: nearest, share, operate, Mul, wakes. Contracts: fit, sum, difference, product, quotient, operate, and the faces Add, Sub, Neg, Mul, Div, Ratio, wakes. A list of Two in memory. Plain numbers: the nearest whole number, halves to even, of numbers with signs. Plain numbers: the greatest number that is within, bit by bit. -/
import Derived.Test.YtfmalpnlencmbaaGreatMg2p
import Derived.Test.YtfmalpnlencmbaaGreatMg0p
import Derived.Test.YtfmalpnlencmbaaGreatMg1p
import Derived.Deep.QuietTactic
import Derived.BigQuiet
namespace Go.Proofs.YtfmalpnlencmbaaGreat
open Go.RowKit

end Go.Proofs.YtfmalpnlencmbaaGreat

namespace Go.Proofs.YtfmalpnlencmbaaGreat
open Go.RowKit

end Go.Proofs.YtfmalpnlencmbaaGreat

namespace Go.Proofs.YtfmalpnlencmbaaGreat
open Go.RowKit

end Go.Proofs.YtfmalpnlencmbaaGreat

namespace Go.Proofs.YtfmalpnlencmbaaGreat
open Go.RowKit

/-- z is the nearest whole number to n / d, halves to even -/
def IsNear (n d z : Int) : Prop := -d ≤ 2 * (n - z * d) ∧ 2 * (n - z * d) ≤ d ∧ ((2 * (n - z * d) = d ∨ 2 * (n - z * d) = -d) → z % 2 = 0)
theorem IsNear.unique {n d z z' : Int} (hd : 0 < d) (h : IsNear n d z) (h' : IsNear n d z') : z = z' := by
  obtain ⟨a1, a2, a3⟩ := h
  obtain ⟨b1, b2, b3⟩ := h'
  rcases Int.lt_trichotomy z z' with hl | he | hl
  · exfalso
    have h1 : (z + 1) * d ≤ z' * d := Int.mul_le_mul_of_nonneg_right (by omega) (by omega)
    rw [Int.add_mul, Int.one_mul] at h1
    have e : z' * d = z * d + d := by omega
    have c1 := a3 (by omega)
    have c2 := b3 (by omega)
    have e2 : (z' - (z + 1)) * d = 0 := by rw [Int.sub_mul, Int.add_mul]; omega
    rcases Int.mul_eq_zero.1 e2 with h | h <;> omega
  · exact he
  · exfalso
    have h1 : (z' + 1) * d ≤ z * d := Int.mul_le_mul_of_nonneg_right (by omega) (by omega)
    rw [Int.add_mul, Int.one_mul] at h1
    have e : z * d = z' * d + d := by omega
    have c1 := a3 (by omega)
    have c2 := b3 (by omega)
    have e2 : (z - (z' + 1)) * d = 0 := by rw [Int.sub_mul, Int.add_mul]; omega
    rcases Int.mul_eq_zero.1 e2 with h | h <;> omega
theorem IsNear.neg {n d z : Int} (h : IsNear n d z) : IsNear (-n) d (-z) := by
  obtain ⟨a1, a2, a3⟩ := h
  have e : 2 * (-n - -z * d) = -(2 * (n - z * d)) := by rw [Int.neg_mul]; omega
  unfold IsNear
  rw [e]
  exact ⟨by omega, by omega, fun h => by have := a3 (by omega); omega⟩
theorem IsNear.scale {n d z g : Int} (hg : 0 < g) (h : IsNear n d z) : IsNear (g * n) (g * d) z := by
  obtain ⟨a1, a2, a3⟩ := h
  have e : 2 * (g * n - z * (g * d)) = g * (2 * (n - z * d)) := by rw [Int.mul_left_comm z, ← Int.mul_sub, Int.mul_left_comm]
  unfold IsNear
  rw [e]
  refine ⟨?_, Int.mul_le_mul_of_nonneg_left a2 (by omega), fun h => a3 ?_⟩
  · rw [← Int.mul_neg]; exact Int.mul_le_mul_of_nonneg_left a1 (by omega)
  · rw [← Int.mul_neg] at h
    rcases h with h | h
    · exact .inl (Int.eq_of_mul_eq_mul_left (by omega) h)
    · exact .inr (Int.eq_of_mul_eq_mul_left (by omega) h)
/-- the way that the reference goes -/
def nearI (n d : Int) : Int :=
  if 2 * (n * 2 / d / 2) = n * 2 / d then n * 2 / d / 2
  else if n * 2 % d = 0 ∧ 2 * (n * 2 / d / 2 / 2) = n * 2 / d / 2 then n * 2 / d / 2
  else n * 2 / d / 2 + 1
theorem nearI_spec (n d : Int) (hd : 0 < d) : IsNear n d (nearI n d) := by
  have h := Int.emod_add_mul_ediv (n * 2) d
  have h1 := Int.emod_nonneg (n * 2) (show d ≠ 0 by omega)
  have h2 := Int.emod_lt_of_pos (n * 2) hd
  unfold nearI
  generalize n * 2 % d = r at *
  generalize n * 2 / d = q at *
  have hq : q = 2 * (q / 2) ∨ q = 2 * (q / 2) + 1 := by omega
  generalize q / 2 = k at *
  split
  · rename_i e
    unfold IsNear
    have e2 : d * q = 2 * (k * d) := by rw [← e, Int.mul_left_comm, Int.mul_comm d k]
    exact ⟨by omega, by omega, fun hh => by omega⟩
  · have e : q = 2 * k + 1 := by omega
    have e2 : d * q = 2 * (k * d) + d := by rw [e, Int.mul_add, Int.mul_left_comm, Int.mul_comm d k, Int.mul_one]
    split
    · rename_i hh
      unfold IsNear
      exact ⟨by omega, by omega, fun _ => by omega⟩
    · rename_i hh
      have e3 : (k + 1) * d = k * d + d := by rw [Int.add_mul, Int.one_mul]
      unfold IsNear
      rw [e3]
      refine ⟨by omega, by omega, fun h5 => ?_⟩
      have hr : r = 0 := by omega
      have : ¬ 2 * (k / 2) = k := fun h6 => hh ⟨hr, h6⟩
      omega
def over (x d : Int) : Int := if d < 0 then -x else x
theorem over_pos (x d : Int) (h : 0 < d) : over x d = x := by unfold over; rw [if_neg (by omega)]
end Go.Proofs.YtfmalpnlencmbaaGreat

namespace Go.Proofs.YtfmalpnlencmbaaGreat.Num
open Go.RowKit

def GRel (P : Nat → Prop) (r b : Int) : Prop := ∃ R : Nat, r = R ∧ P R ∧
  ((b = 0 ∧ ¬ P (R + 1) ∧ R < 70368744177664) ∨ ∃ j : Nat, j ≤ 45 ∧ b = ((2 ^ j : Nat) : Int) ∧ (∃ m, R = m * 2 ^ (j + 1)) ∧ ¬ P (R + 2 ^ (j + 1)) ∧ R + 2 ^ (j + 1) ≤ 70368744177664)

theorem gr_start (P : Nat → Prop) (h0 : P 0) (h1 : ¬ P 70368744177664) : GRel P 0 35184372088832 := by
  refine ⟨0, rfl, h0, .inr ⟨45, by omega, by decide, ⟨0, by omega⟩, ?_, by decide⟩⟩
  have : 0 + 2 ^ (45 + 1) = 70368744177664 := by decide
  rw [this]; exact h1

theorem gr_round (P : Nat → Prop) (r b : Int) (h : GRel P r b) : (b = 0 ∧ ∃ R : Nat, r = R ∧ P R ∧ ¬ P (R + 1) ∧ R < 70368744177664) ∨
    (0 < b ∧ b ≤ 35184372088832 ∧ 0 ≤ r ∧ r < 70368744177664 ∧ ∃ X : Nat, bits BinOp.or IntKind.u64 r b = (X : Int) ∧ X < 70368744177664 ∧
      (P X → GRel P X (b / 2)) ∧ (¬ P X → GRel P r (b / 2))) := by
  obtain ⟨R, rfl, h1, h2⟩ := h
  rcases h2 with ⟨hb, h3, h4⟩ | ⟨j, hj, rfl, ⟨m, hm⟩, h3, h4⟩
  · exact .inl ⟨hb, R, rfl, h1, h3, h4⟩
  · right
    have hp : 0 < 2 ^ j := Nat.pow_pos (by omega)
    have hps : 2 ^ (j + 1) = 2 * 2 ^ j := by rw [Nat.pow_succ]; omega
    have hp45 : 2 ^ j ≤ 35184372088832 := by
      have := Nat.pow_le_pow_right (n := 2) (by omega) hj
      simpa using this
    have hor : bits BinOp.or IntKind.u64 (R : Int) ((2 ^ j : Nat) : Int) = ((R + 2 ^ j : Nat) : Int) := by
      have := or_shift m (2 ^ j) (j + 1) (by omega) (by omega) (by rw [← hm]; omega)
      rw [← hm] at this
      exact this
    refine ⟨by omega, by omega, by omega, by omega, R + 2 ^ j, hor, by omega, fun hx => ?_, fun hx => ?_⟩
    · refine ⟨R + 2 ^ j, rfl, hx, ?_⟩
      cases j with
      | zero => left; refine ⟨by simp, ?_, by omega⟩; simpa [Nat.add_assoc] using h3
      | succ j =>
        right
        refine ⟨j, by omega, ?_, ⟨2 * m + 1, ?_⟩, ?_, by omega⟩
        · rw [Nat.pow_succ]; omega
        · rw [hm, hps, Nat.add_mul, Nat.one_mul, Nat.mul_assoc, Nat.mul_left_comm]
        · have : R + 2 ^ (j + 1) + 2 ^ (j + 1) = R + 2 ^ (j + 1 + 1) := by omega
          rw [this]; exact h3
    · refine ⟨R, rfl, h1, ?_⟩
      cases j with
      | zero => left; refine ⟨by simp, ?_, by omega⟩; simpa using hx
      | succ j =>
        right
        refine ⟨j, by omega, ?_, ⟨m * 2, ?_⟩, hx, by omega⟩
        · rw [Nat.pow_succ]; omega
        · rw [hm, hps, Nat.mul_assoc]
end Go.Proofs.YtfmalpnlencmbaaGreat.Num
