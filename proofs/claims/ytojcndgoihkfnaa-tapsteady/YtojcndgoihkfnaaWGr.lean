/- Plain numbers: the greatest number that is within, bit by bit. -/
import Derived.Test.YtojcndgoihkfnaaNum2
namespace Go.Proofs.Ytojcndgoihkfnaa.Num
open Go.RowKit

def GRel (P : Nat → Prop) (r b : Int) : Prop := ∃ R : Nat, r = R ∧ P R ∧
  ((b = 0 ∧ ¬ P (R + 1) ∧ R < 70368744177664) ∨ ∃ j : Nat, j ≤ 45 ∧ b = ((2 ^ j : Nat) : Int) ∧ (∃ m, R = m * 2 ^ (j + 1)) ∧ ¬ P (R + 2 ^ (j + 1)) ∧ R + 2 ^ (j + 1) ≤ 70368744177664)

theorem gr_start (P : Nat → Prop) (h0 : P 0) (h1 : ¬ P 70368744177664) : GRel P 0 35184372088832 := by
  refine ⟨0, rfl, h0, .inr ⟨45, by omega, by decide, ⟨0, by omega⟩, ?_, by decide⟩⟩
  have : 0 + 2 ^ (45 + 1) = 70368744177664 := by decide
  rw [this]; exact h1

theorem gr_round (P : Nat → Prop) (r b : Int) (h : GRel P r b) : (b = 0 ∧ ∃ R : Nat, r = R ∧ P R ∧ ¬ P (R + 1) ∧ R < 70368744177664) ∨
    (0 < b ∧ b ≤ 35184372088832 ∧ 0 ≤ r ∧ r < 70368744177664 ∧ ∃ X : Nat, bits BinOp.or IntKind.u64 r b = (X : Int) ∧ X < 70368744177664 ∧
      (P X → GRel P X (b / 2)) ∧ (¬ P X → GRel P r (b / 2))) := by
  obtain ⟨R, rfl, h1, h2⟩ := h
  rcases h2 with ⟨hb, h3, h4⟩ | ⟨j, hj, rfl, ⟨m, hm⟩, h3, h4⟩
  · exact .inl ⟨hb, R, rfl, h1, h3, h4⟩
  · right
    have hp : 0 < 2 ^ j := Nat.pow_pos (by omega)
    have hps : 2 ^ (j + 1) = 2 * 2 ^ j := by rw [Nat.pow_succ]; omega
    have hp45 : 2 ^ j ≤ 35184372088832 := by
      have := Nat.pow_le_pow_right (n := 2) (by omega) hj
      simpa using this
    have hor : bits BinOp.or IntKind.u64 (R : Int) ((2 ^ j : Nat) : Int) = ((R + 2 ^ j : Nat) : Int) := by
      have := or_shift m (2 ^ j) (j + 1) (by omega) (by omega) (by rw [← hm]; omega)
      rw [← hm] at this
      exact this
    refine ⟨by omega, by omega, by omega, by omega, R + 2 ^ j, hor, by omega, fun hx => ?_, fun hx => ?_⟩
    · refine ⟨R + 2 ^ j, rfl, hx, ?_⟩
      cases j with
      | zero => left; refine ⟨by simp, ?_, by omega⟩; simpa [Nat.add_assoc] using h3
      | succ j =>
        right
        refine ⟨j, by omega, ?_, ⟨2 * m + 1, ?_⟩, ?_, by omega⟩
        · rw [Nat.pow_succ]; omega
        · rw [hm, hps, Nat.add_mul, Nat.one_mul, Nat.mul_assoc, Nat.mul_left_comm]
        · have : R + 2 ^ (j + 1) + 2 ^ (j + 1) = R + 2 ^ (j + 1 + 1) := by omega
          rw [this]; exact h3
    · refine ⟨R, rfl, h1, ?_⟩
      cases j with
      | zero => left; refine ⟨by simp, ?_, by omega⟩; simpa using hx
      | succ j =>
        right
        refine ⟨j, by omega, ?_, ⟨m * 2, ?_⟩, hx, by omega⟩
        · rw [Nat.pow_succ]; omega
        · rw [hm, hps, Nat.mul_assoc]
end Go.Proofs.Ytojcndgoihkfnaa.Num
