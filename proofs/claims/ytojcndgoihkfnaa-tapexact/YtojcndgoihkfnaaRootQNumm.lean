/- Plain numbers: the nearest whole number to the root of N / d, halves to even. -/
namespace Go.Proofs.Ytojcndgoihkfnaa

def RootQ (N d s : Nat) : Prop := 4 * N ≤ (2 * s + 1) * (2 * s + 1) * d ∧ (s = 0 ∨ (2 * s - 1) * (2 * s - 1) * d ≤ 4 * N) ∧ (4 * N = (2 * s + 1) * (2 * s + 1) * d → s % 2 = 0) ∧ (s ≠ 0 → (2 * s - 1) * (2 * s - 1) * d = 4 * N → s % 2 = 0)
theorem rootQ_up {N d m : Nat} (h2 : N < (m + 1) * (m + 1) * d) (h : (2 * m + 1) * (2 * m + 1) * d < 4 * N ∨ (2 * m + 1) * (2 * m + 1) * d = 4 * N ∧ m % 2 = 1) : RootQ N d (m + 1) := by
  have e1 : 2 * (m + 1) - 1 = 2 * m + 1 := by omega
  have e2 : 4 * ((m + 1) * (m + 1) * d) = (2 * (m + 1)) * (2 * (m + 1)) * d := by
    have : (2 * (m + 1)) * (2 * (m + 1)) = 4 * ((m + 1) * (m + 1)) := by rw [Nat.mul_mul_mul_comm]
    rw [this]; simp only [Nat.mul_assoc]
  have e3 : (2 * (m + 1)) * (2 * (m + 1)) * d ≤ (2 * (m + 1) + 1) * (2 * (m + 1) + 1) * d := Nat.mul_le_mul_right d (Nat.mul_le_mul (by omega) (by omega))
  refine ⟨by omega, .inr (by rw [e1]; omega), fun he => by omega, fun _ he => ?_⟩
  rw [e1] at he
  omega
theorem rootQ_down {N d m : Nat} (hd : 0 < d) (h1 : m * m * d ≤ N) (h : 4 * N < (2 * m + 1) * (2 * m + 1) * d ∨ 4 * N = (2 * m + 1) * (2 * m + 1) * d ∧ m % 2 = 0) : RootQ N d m := by
  have e2 : 4 * (m * m * d) = (2 * m) * (2 * m) * d := by
    have : (2 * m) * (2 * m) = 4 * (m * m) := by rw [Nat.mul_mul_mul_comm]
    rw [this]; simp only [Nat.mul_assoc]
  refine ⟨by omega, ?_, fun he => by omega, fun h0 he => ?_⟩
  · rcases Nat.eq_zero_or_pos m with h0 | h0
    · exact .inl h0
    · right
      have := Nat.mul_le_mul_right d (Nat.mul_le_mul (show 2 * m - 1 ≤ 2 * m by omega) (show 2 * m - 1 ≤ 2 * m by omega))
      omega
  · exfalso
    have h3 : (2 * m - 1) * (2 * m - 1) < (2 * m) * (2 * m) := Nat.mul_lt_mul_of_lt_of_le (by omega) (by omega) (by omega)
    have h4 := Nat.mul_lt_mul_of_pos_right h3 hd
    omega
theorem rootQ_unique {N d X Y : Nat} (hd : 0 < d) (h : RootQ N d X) (k : RootQ N d Y) : X = Y := by
  have key : ∀ A B : Nat, A < B → RootQ N d A → RootQ N d B → False := by
    intro A B hl ⟨a1, a2, a3, a4⟩ ⟨b1, b2, b3, b4⟩
    have hle : (2 * A + 1) * (2 * A + 1) * d ≤ (2 * B - 1) * (2 * B - 1) * d := Nat.mul_le_mul_right d (Nat.mul_le_mul (by omega) (by omega))
    rcases b2 with b2 | b2
    · omega
    · have e1 : 4 * N = (2 * A + 1) * (2 * A + 1) * d := by omega
      have e2 : (2 * B - 1) * (2 * B - 1) * d = 4 * N := by omega
      have c1 := a3 e1
      have c2 := b4 (by omega) e2
      have e3 : (2 * A + 1) * (2 * A + 1) * d = (2 * B - 1) * (2 * B - 1) * d := by omega
      have e4 := Nat.eq_of_mul_eq_mul_right hd e3
      have h5 : 2 * A + 1 < 2 * B - 1 := by omega
      have h6 : (2 * A + 1) * (2 * A + 1) < (2 * B - 1) * (2 * B - 1) := Nat.mul_lt_mul_of_lt_of_le h5 (Nat.le_of_lt h5) (by omega)
      omega
  rcases Nat.lt_trichotomy X Y with hl | he | hl
  · exact (key X Y hl h k).elim
  · exact he
  · exact (key Y X hl k h).elim
end Go.Proofs.Ytojcndgoihkfnaa
