/- LowSettles: its numbers. -/
import Derived.Test.YtbbnbpghhdmhaaaLo3
import Derived.Deep.Cut
import Derived.Deep.DeepCutAuto
namespace Go.Proofs.Ytbbnbpghhdmhaaa
open Go.RowKit Go.Shelf
theorem aw_eq (a b : Int) : aw a b = max (a - b) (b - a) := rfl
theorem near_far (p y v z : Int) (hp : 1 ≤ p) (h : IsNear ((p - 1) * y + v) p z) : 2 * (p * aw z v) ≤ 2 * ((p - 1) * aw y v) + p := by
  obtain ⟨h1, h2, _⟩ := h
  have e : (p - 1) * y + v - z * p = (p - 1) * (y - v) - p * (z - v) := by grind
  rw [e] at h1 h2
  have m1 : (p - 1) * (y - v) ≤ (p - 1) * aw y v := Int.mul_le_mul_of_nonneg_left (by unfold aw; omega) (by omega)
  have m2 : (p - 1) * (-(y - v)) ≤ (p - 1) * aw y v := Int.mul_le_mul_of_nonneg_left (by unfold aw; omega) (by omega)
  rw [Int.mul_neg] at m2
  have hz : aw z v = z - v ∨ aw z v = -(z - v) := by unfold aw; omega
  rcases hz with hz | hz
  · rw [hz]; omega
  · rw [hz, Int.mul_neg]; omega
theorem half50 (p : Nat) (h1 : 1 ≤ p) (h2 : p ≤ 64) : 2 * (p - 1) ^ 50 ≤ p ^ 50 := by
  revert h1
  revert h2
  revert p
  decide +kernel
theorem half_pow (p : Nat) (h1 : 1 ≤ p) (h2 : p ≤ 64) (n : Nat) : 2 ^ n * (p - 1) ^ (50 * n) ≤ p ^ (50 * n) := by
  induction n with
  | zero => simp
  | succ n ih =>
    have h := Nat.mul_le_mul ih (half50 p h1 h2)
    have e1 : 2 ^ (n + 1) * (p - 1) ^ (50 * (n + 1)) = 2 ^ n * (p - 1) ^ (50 * n) * (2 * (p - 1) ^ 50) := by
      rw [Nat.mul_add, Nat.mul_one, Nat.pow_add (p - 1), Nat.pow_succ]
      simp only [Nat.mul_assoc, Nat.mul_left_comm]
    have e2 : p ^ (50 * (n + 1)) = p ^ (50 * n) * p ^ 50 := by rw [Nat.mul_add, Nat.mul_one, Nat.pow_add]
    rw [e1, e2]
    exact h
/-- how near it has come behind k samples -/
def Cme (p : Int) (k : Nat) (d : Int) : Prop := p ^ k * (2 * d - p) ≤ (p - 1) ^ k * 281474976710656
theorem cme_zero (p d : Int) (hp : 1 ≤ p) (hd : d ≤ 140737488355328) : Cme p 0 d := by
  unfold Cme; rw [Int.pow_zero, Int.pow_zero]; omega
theorem cme_step (p d d' : Int) (k : Nat) (hp : 1 ≤ p) (h : Cme p k d) (hd : 2 * (p * d') ≤ 2 * ((p - 1) * d) + p) : Cme p (k + 1) d' := by
  unfold Cme at *
  have e : p * (2 * d' - p) ≤ (p - 1) * (2 * d - p) := by
    have e1 : p * (2 * d' - p) = 2 * (p * d') - p * p := by grind
    have e2 : (p - 1) * (2 * d - p) = 2 * ((p - 1) * d) + p - p * p := by grind
    omega
  have hk : 0 ≤ p ^ k := Int.pow_nonneg (by omega)
  have a1 := Int.mul_le_mul_of_nonneg_left e hk
  have a2 := Int.mul_le_mul_of_nonneg_left h (show 0 ≤ p - 1 by omega)
  have e3 : p ^ (k + 1) * (2 * d' - p) = p ^ k * (p * (2 * d' - p)) := by rw [Int.pow_succ]; grind
  have e4 : p ^ k * ((p - 1) * (2 * d - p)) = (p - 1) * (p ^ k * (2 * d - p)) := by grind
  have e5 : (p - 1) ^ (k + 1) * 281474976710656 = (p - 1) * ((p - 1) ^ k * 281474976710656) := by rw [Int.pow_succ]; grind
  rw [e3, e5]
  rw [e4] at a1
  exact Int.le_trans a1 a2
theorem cme_end (p d : Int) (k : Nat) (hk : k = 3000) (h1 : 1 ≤ p) (h2 : p ≤ 64) (h : Cme p k d) : 2 * d ≤ p := by
  obtain ⟨q, rfl⟩ := Int.eq_ofNat_of_zero_le (show 0 ≤ p by omega)
  obtain ⟨n, hn⟩ : ∃ n, n = 60 := ⟨60, rfl⟩
  have hkn : k = 50 * n := by omega
  subst hkn
  have hp := half_pow q (by omega) (by omega) n
  have hp2 : (2 : Int) ^ n * ((q : Int) - 1) ^ (50 * n) ≤ (q : Int) ^ (50 * n) := by
    have e : ((q : Int) - 1) = ((q - 1 : Nat) : Int) := by omega
    rw [e]
    have := Int.ofNat_le.2 hp
    simpa using this
  unfold Cme at h
  have hpos : (0 : Int) < (q : Int) ^ (50 * n) := Int.pow_pos (by omega)
  have b1 : (2 : Int) ^ n * ((q : Int) ^ (50 * n) * (2 * d - q)) ≤ 2 ^ n * (((q : Int) - 1) ^ (50 * n) * 281474976710656) := Int.mul_le_mul_of_nonneg_left h (Int.pow_nonneg (by decide))
  have b2 : (2 : Int) ^ n * ((q : Int) - 1) ^ (50 * n) * 281474976710656 ≤ (q : Int) ^ (50 * n) * 281474976710656 := Int.mul_le_mul_of_nonneg_right hp2 (by decide)
  have b3 : (q : Int) ^ (50 * n) * (2 ^ n * (2 * d - q)) ≤ (q : Int) ^ (50 * n) * 281474976710656 := by
    have e1 : (q : Int) ^ (50 * n) * (2 ^ n * (2 * d - q)) = 2 ^ n * ((q : Int) ^ (50 * n) * (2 * d - q)) := by grind
    have e2 : (2 : Int) ^ n * (((q : Int) - 1) ^ (50 * n) * 281474976710656) = 2 ^ n * ((q : Int) - 1) ^ (50 * n) * 281474976710656 := by grind
    rw [e1]
    rw [e2] at b1
    exact Int.le_trans b1 b2
  have b4 := Int.le_of_mul_le_mul_left b3 hpos
  subst hn
  have e6 : (2 : Int) ^ 60 = 1152921504606846976 := by decide
  rw [e6] at b4
  omega
end Go.Proofs.Ytbbnbpghhdmhaaa
