/- Sizes of whole numbers, by bits. -/
import Derived.Test.YtbmocnigmpmfkaaBig13
namespace Go.Proofs.Ytbmocnigmpmfkaa
open Go.RowKit

def Fit (k : Nat) (z : Int) : Prop := z.natAbs < 2 ^ k
theorem Fit.le {k l : Nat} {z : Int} (h : Fit k z) (hl : k ≤ l) : Fit l z := Nat.lt_of_lt_of_le h (Nat.pow_le_pow_right (by omega) hl)
theorem Fit.neg {k : Nat} {z : Int} (h : Fit k z) : Fit k (-z) := by unfold Fit; rw [Int.natAbs_neg]; exact h
theorem Fit.mul {k l : Nat} {x y : Int} (h : Fit k x) (h' : Fit l y) : Fit (k + l) (x * y) := by
  unfold Fit
  rw [Int.natAbs_mul, Nat.pow_add]
  rcases Nat.eq_zero_or_pos y.natAbs with h0 | h0
  · rw [h0, Nat.mul_zero]; exact Nat.mul_pos (Nat.pow_pos (by omega)) (Nat.pow_pos (by omega))
  · exact Nat.mul_lt_mul_of_lt_of_le h (Nat.le_of_lt h') (Nat.pow_pos (by omega))
theorem Fit.add {k : Nat} {x y : Int} (h : Fit k x) (h' : Fit k y) : Fit (k + 1) (x + y) := by
  unfold Fit at *
  have := Int.natAbs_add_le x y
  rw [Nat.pow_succ]
  omega
theorem Fit.sub {k : Nat} {x y : Int} (h : Fit k x) (h' : Fit k y) : Fit (k + 1) (x - y) := by
  rw [Int.sub_eq_add_neg]; exact h.add h'.neg
theorem Fit.shl {k : Nat} {x : Int} (h : Fit k x) (n : Nat) : Fit (k + n) (x * 2 ^ n) := by
  unfold Fit at *
  have e : (x * 2 ^ n).natAbs = x.natAbs * 2 ^ n := by rw [Int.natAbs_mul, Int.natAbs_pow]; rfl
  rw [e, Nat.pow_add]
  exact Nat.mul_lt_mul_of_pos_right h (Nat.pow_pos (by omega))
theorem Fit.of_le {k : Nat} {x y : Int} (h : Fit k x) (h' : y.natAbs ≤ x.natAbs) : Fit k y := Nat.lt_of_le_of_lt h' h
theorem small_pow (n k : Nat) (h : n < 2 ^ k) (hk : k ≤ 9000) : Small n := by
  have e : ∀ j : Nat, (18446744073709551616 : Nat) ^ j = 2 ^ (64 * j) := fun j => by
    have : (18446744073709551616 : Nat) = 2 ^ 64 := by decide
    rw [this, ← Nat.pow_mul]
  have e' : ∀ j : Nat, (4294967296 : Nat) ^ j = 2 ^ (32 * j) := fun j => by
    have : (4294967296 : Nat) = 2 ^ 32 := by decide
    rw [this, ← Nat.pow_mul]
  constructor
  · have := Dig.digs_length_le 18446744073709551616 (by omega) n (k / 64 + 1) (by rw [e]; exact Nat.lt_of_lt_of_le h (Nat.pow_le_pow_right (by omega) (by omega)))
    omega
  · have := Dig.digs_length_le 4294967296 (by omega) n (k / 32 + 1) (by rw [e']; exact Nat.lt_of_lt_of_le h (Nat.pow_le_pow_right (by omega) (by omega)))
    omega
theorem Fit.small {k : Nat} {z : Int} (h : Fit k z) (hk : k ≤ 9000) : SmallI z := small_pow _ k h hk
theorem Fit.small2 {k : Nat} {z : Int} (h : Fit k z) (hk : k ≤ 8999) : Small (2 * z.natAbs) := by
  refine small_pow _ (k + 1) ?_ (by omega)
  unfold Fit at h
  rw [Nat.pow_succ]
  omega
theorem Fit.blen {k : Nat} {z : Int} (h : Fit k z) : Dig.blen z.natAbs ≤ k := Dig.blen_le _ _ h
theorem fit_of (k : Nat) (z : Int) (h1 : -(2 ^ k : Int) < z) (h2 : z < (2 ^ k : Int)) : Fit k z := by
  unfold Fit
  have e : ((2 ^ k : Nat) : Int) = (2 : Int) ^ k := by simp
  omega
end Go.Proofs.Ytbmocnigmpmfkaa
