/- Plain numbers: one step of a long division by a normalized divisor of two digits; rounding to the nearest, halves to even. -/
namespace Go.Proofs.Ytbmocnigmpmfkaa.Num

/-- R(n / d): the nearest whole number, halves to even. -/
def near (n d : Nat) : Nat :=
  if n % d > d - n % d then n / d + 1
  else if n % d = d - n % d then (if n / d % 2 = 1 then n / d + 1 else n / d)
  else n / d

theorem mul_lt_of_div {a b n : Nat} (hb : 0 < b) : a ≤ n / b ↔ a * b ≤ n := Nat.le_div_iff_mul_le hb

/-- q is no lower than the quotient; the test says that it is too great: q - 1 is no lower either. -/
theorem step_test {u c y1 y0 q r B : Nat} (hY : u < y1 * B + y0) (hc : c < B) (hq : q * y1 + r = u) 
    (ht : B ≤ q ∨ B * r + c < q * y0) (hpos : 0 < y1 * B + y0) :
    (u * B + c) / (y1 * B + y0) + 1 ≤ q := by
  have h : u * B + c < q * (y1 * B + y0) := by
    rcases ht with ht | ht
    · have h1 : (u + 1) * B ≤ (y1 * B + y0) * B := Nat.mul_le_mul_right B hY
      have h2 : B * (y1 * B + y0) ≤ q * (y1 * B + y0) := Nat.mul_le_mul_right _ ht
      rw [Nat.add_mul, Nat.one_mul] at h1
      rw [Nat.mul_comm B] at h2
      omega
    · have h3 : q * (y1 * B + y0) = q * y1 * B + q * y0 := by rw [Nat.mul_add, Nat.mul_assoc]
      have h4 : u * B = q * y1 * B + r * B := by rw [← hq, Nat.add_mul]
      rw [Nat.mul_comm B r] at ht
      omega
  have := (Nat.div_lt_iff_lt_mul hpos).2 h
  omega

theorem step_ok {u c y1 y0 q r B : Nat} (hq : q * y1 + r = u) (ht : q * y0 ≤ B * r + c) (hpos : 0 < y1 * B + y0)
    (hup : (u * B + c) / (y1 * B + y0) ≤ q) : q = (u * B + c) / (y1 * B + y0) := by
  have h3 : q * (y1 * B + y0) = q * y1 * B + q * y0 := by rw [Nat.mul_add, Nat.mul_assoc]
  have h4 : u * B = q * y1 * B + r * B := by rw [← hq, Nat.add_mul]
  rw [Nat.mul_comm B r] at ht
  have : q ≤ (u * B + c) / (y1 * B + y0) := (Nat.le_div_iff_mul_le hpos).2 (by omega)
  omega

/-- the first guess -/
theorem first_up {u c y1 y0 B : Nat} (h1 : 0 < y1) (hB : 0 < B) : (u * B + c % B) / (y1 * B + y0) ≤ u / y1 := by
  have ha : (u * B + c % B) / (y1 * B + y0) ≤ (u * B + c % B) / (y1 * B) := by
    apply Nat.div_le_div_left (by omega)
    exact Nat.mul_pos h1 hB
  have hb : (u * B + c % B) / (y1 * B) = u / y1 := by
    rw [Nat.mul_comm y1 B, ← Nat.div_div_eq_div_mul, Nat.mul_comm u B, Nat.mul_add_div hB, Nat.div_eq_of_lt (Nat.mod_lt _ hB), Nat.add_zero]
  omega

theorem first_le {u y1 y0 B : Nat} (h1 : 0 < y1) (hY : u < y1 * B + y0) (h0 : y0 ≤ 2 * y1) : u / y1 ≤ B + 1 := by
  have : u / y1 < B + 2 := by
    rw [Nat.div_lt_iff_lt_mul h1, Nat.mul_comm]
    have : y1 * (B + 2) = y1 * B + 2 * y1 := by rw [Nat.mul_add]; omega
    omega
  omega

end Go.Proofs.Ytbmocnigmpmfkaa.Num
