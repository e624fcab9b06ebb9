/- Plain numbers: the division bit by bit. -/
import Derived.Test.YtbmocnigmpmfkaaBig7
import Derived.Test.YtbmocnigmpmfkaaNum3
namespace Go.Proofs.Ytbmocnigmpmfkaa.Dig

theorem DRel.yes {m b L i Q r : Nat} {F : Nat → Nat} (h : DRel m b L (i + 1) Q r F) (hr : b * 2 ^ i ≤ r) : DRel m b L i (Q + 2 ^ i) (r - b * 2 ^ i) (upd F (i / 64) (F (i / 64) + 2 ^ (i % 64))) := by
  have hb := h.bit
  refine ⟨?_, ?_, ?_, ?_⟩
  · have := h.sum
    rw [Nat.mul_add]; omega
  · have := h.rest
    have e : b * 2 ^ (i + 1) = 2 * (b * 2 ^ i) := by rw [Nat.pow_succ, ← Nat.mul_assoc, Nat.mul_comm]
    omega
  · intro j
    unfold upd
    have h0 : ∀ j, 2 ^ i ∣ F j * 18446744073709551616 ^ j := fun j => Nat.dvd_trans (Nat.pow_dvd_pow 2 (by omega)) (h.low j)
    split
    · rename_i hj
      subst hj
      rw [Nat.add_mul]
      refine (Nat.dvd_add_right (h0 _)).2 ?_
      have e : (18446744073709551616 : Nat) = 2 ^ 64 := by decide
      rw [e, ← Nat.pow_mul, ← Nat.pow_add]
      exact Nat.pow_dvd_pow 2 (by omega)
    · exact h0 j
  · intro j
    unfold upd
    split
    · exact hb.2
    · exact h.dig j
theorem fval_yes (F : Nat → Nat) (L i Q : Nat) (hL : i / 64 < L) (hQ : fval 18446744073709551616 F L = Q) : fval 18446744073709551616 (upd F (i / 64) (F (i / 64) + 2 ^ (i % 64))) L = Q + 2 ^ i := by
  have h := fval_upd 18446744073709551616 F (i / 64) (F (i / 64) + 2 ^ (i % 64)) L hL
  rw [Nat.mul_add] at h
  have e : (18446744073709551616 : Nat) ^ (i / 64) * 2 ^ (i % 64) = 2 ^ i := by
    have e : (18446744073709551616 : Nat) = 2 ^ 64 := by decide
    rw [e, ← Nat.pow_mul, ← Nat.pow_add]; congr 1; omega
  rw [e, hQ] at h
  omega
theorem DRel.done {m b L Q r : Nat} {F : Nat → Nat} (h : DRel m b L 0 Q r F) : Q = m / b ∧ r = m % b := by
  have h1 := h.sum
  have h2 := h.rest
  rw [Nat.pow_zero, Nat.mul_one] at h2
  have hb : 0 < b := by omega
  constructor
  · rw [h1, Nat.mul_add_div hb, Nat.div_eq_of_lt h2, Nat.add_zero]
  · rw [h1, Nat.mul_add_mod, Nat.mod_eq_of_lt h2]
end Go.Proofs.Ytbmocnigmpmfkaa.Dig
