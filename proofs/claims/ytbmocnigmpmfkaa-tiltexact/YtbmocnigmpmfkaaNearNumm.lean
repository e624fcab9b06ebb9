/- Plain numbers: the nearest whole number, halves to even, of numbers with signs. -/
import Derived.Test.YtbmocnigmpmfkaaCorem
namespace Go.Proofs.Ytbmocnigmpmfkaa
open Go.RowKit

/-- z is the nearest whole number to n / d, halves to even -/
def IsNear (n d z : Int) : Prop := -d ≤ 2 * (n - z * d) ∧ 2 * (n - z * d) ≤ d ∧ ((2 * (n - z * d) = d ∨ 2 * (n - z * d) = -d) → z % 2 = 0)
theorem IsNear.unique {n d z z' : Int} (hd : 0 < d) (h : IsNear n d z) (h' : IsNear n d z') : z = z' := by
  obtain ⟨a1, a2, a3⟩ := h
  obtain ⟨b1, b2, b3⟩ := h'
  rcases Int.lt_trichotomy z z' with hl | he | hl
  · exfalso
    have h1 : (z + 1) * d ≤ z' * d := Int.mul_le_mul_of_nonneg_right (by omega) (by omega)
    rw [Int.add_mul, Int.one_mul] at h1
    have e : z' * d = z * d + d := by omega
    have c1 := a3 (by omega)
    have c2 := b3 (by omega)
    have e2 : (z' - (z + 1)) * d = 0 := by rw [Int.sub_mul, Int.add_mul]; omega
    rcases Int.mul_eq_zero.1 e2 with h | h <;> omega
  · exact he
  · exfalso
    have h1 : (z' + 1) * d ≤ z * d := Int.mul_le_mul_of_nonneg_right (by omega) (by omega)
    rw [Int.add_mul, Int.one_mul] at h1
    have e : z * d = z' * d + d := by omega
    have c1 := a3 (by omega)
    have c2 := b3 (by omega)
    have e2 : (z - (z' + 1)) * d = 0 := by rw [Int.sub_mul, Int.add_mul]; omega
    rcases Int.mul_eq_zero.1 e2 with h | h <;> omega
theorem IsNear.neg {n d z : Int} (h : IsNear n d z) : IsNear (-n) d (-z) := by
  obtain ⟨a1, a2, a3⟩ := h
  have e : 2 * (-n - -z * d) = -(2 * (n - z * d)) := by rw [Int.neg_mul]; omega
  unfold IsNear
  rw [e]
  exact ⟨by omega, by omega, fun h => by have := a3 (by omega); omega⟩
theorem IsNear.scale {n d z g : Int} (hg : 0 < g) (h : IsNear n d z) : IsNear (g * n) (g * d) z := by
  obtain ⟨a1, a2, a3⟩ := h
  have e : 2 * (g * n - z * (g * d)) = g * (2 * (n - z * d)) := by rw [Int.mul_left_comm z, ← Int.mul_sub, Int.mul_left_comm]
  unfold IsNear
  rw [e]
  refine ⟨?_, Int.mul_le_mul_of_nonneg_left a2 (by omega), fun h => a3 ?_⟩
  · rw [← Int.mul_neg]; exact Int.mul_le_mul_of_nonneg_left a1 (by omega)
  · rw [← Int.mul_neg] at h
    rcases h with h | h
    · exact .inl (Int.eq_of_mul_eq_mul_left (by omega) h)
    · exact .inr (Int.eq_of_mul_eq_mul_left (by omega) h)
/-- the way that the reference goes -/
def nearI (n d : Int) : Int :=
  if 2 * (n * 2 / d / 2) = n * 2 / d then n * 2 / d / 2
  else if n * 2 % d = 0 ∧ 2 * (n * 2 / d / 2 / 2) = n * 2 / d / 2 then n * 2 / d / 2
  else n * 2 / d / 2 + 1
theorem nearI_spec (n d : Int) (hd : 0 < d) : IsNear n d (nearI n d) := by
  have h := Int.emod_add_mul_ediv (n * 2) d
  have h1 := Int.emod_nonneg (n * 2) (show d ≠ 0 by omega)
  have h2 := Int.emod_lt_of_pos (n * 2) hd
  unfold nearI
  generalize n * 2 % d = r at *
  generalize n * 2 / d = q at *
  have hq : q = 2 * (q / 2) ∨ q = 2 * (q / 2) + 1 := by omega
  generalize q / 2 = k at *
  split
  · rename_i e
    unfold IsNear
    have e2 : d * q = 2 * (k * d) := by rw [← e, Int.mul_left_comm, Int.mul_comm d k]
    exact ⟨by omega, by omega, fun hh => by omega⟩
  · have e : q = 2 * k + 1 := by omega
    have e2 : d * q = 2 * (k * d) + d := by rw [e, Int.mul_add, Int.mul_left_comm, Int.mul_comm d k, Int.mul_one]
    split
    · rename_i hh
      unfold IsNear
      exact ⟨by omega, by omega, fun _ => by omega⟩
    · rename_i hh
      have e3 : (k + 1) * d = k * d + d := by rw [Int.add_mul, Int.one_mul]
      unfold IsNear
      rw [e3]
      refine ⟨by omega, by omega, fun h5 => ?_⟩
      have hr : r = 0 := by omega
      have : ¬ 2 * (k / 2) = k := fun h6 => hh ⟨hr, h6⟩
      omega
theorem near_isNear (n d : Nat) (hd : 0 < d) : IsNear (n : Int) (d : Int) (Num.near n d : Int) := by
  have h := Nat.mod_add_div n d
  have h2 := Nat.mod_lt n hd
  unfold Num.near
  generalize n % d = r at *
  generalize n / d = q at *
  have h' : (n : Int) = (r : Int) + (q : Int) * (d : Int) := by rw [← h, Int.natCast_add, Int.natCast_mul, Int.mul_comm (d : Int)]
  have e3 : ((q : Int) + 1) * (d : Int) = (q : Int) * (d : Int) + (d : Int) := by rw [Int.add_mul, Int.one_mul]
  unfold IsNear
  split
  · rw [Int.natCast_add, Int.natCast_one, e3]
    exact ⟨by omega, by omega, fun hh => by omega⟩
  · split
    · split
      · rw [Int.natCast_add, Int.natCast_one, e3]
        exact ⟨by omega, by omega, fun hh => by omega⟩
      · exact ⟨by omega, by omega, fun hh => by omega⟩
    · exact ⟨by omega, by omega, fun hh => by omega⟩
theorem near_ge (n d : Nat) : n / d ≤ Num.near n d := by
  unfold Num.near
  split
  · omega
  · split
    · split <;> omega
    · omega
def over (x d : Int) : Int := if d < 0 then -x else x
theorem signed_over (a b d : Int) : over (a * b) d = signed (neg3 a b d) ((a.natAbs * b.natAbs : Nat) : Int) := by
  have ha : a = signed (decide (a < 0)) (a.natAbs : Int) := by unfold signed; split <;> rename_i h <;> simp at h <;> omega
  have hb : b = signed (decide (b < 0)) (b.natAbs : Int) := by unfold signed; split <;> rename_i h <;> simp at h <;> omega
  have e : a * b = signed (decide (a < 0) != decide (b < 0)) ((a.natAbs * b.natAbs : Nat) : Int) := by
    rw [Int.natCast_mul]
    conv => lhs; rw [ha, hb]
    unfold signed
    cases decide (a < 0) <;> cases decide (b < 0) <;> simp [Int.mul_neg, Int.neg_mul]
  unfold over neg3
  rw [e]
  by_cases h : d < 0
  · rw [if_pos h, decide_eq_true h]
    cases (decide (a < 0) != decide (b < 0)) <;> simp [signed]
  · rw [if_neg h, decide_eq_false h]
    cases (decide (a < 0) != decide (b < 0)) <;> simp [signed]
theorem share_word (a b d z : Int) (hd : d ≠ 0) (hz : IsNear (over (a * b) d) (d.natAbs : Int) z) : shareR a b d = if okW z then (z, 0) else (0, 2) := by
  have hD : 0 < d.natAbs := by omega
  have hn := near_isNear (a.natAbs * b.natAbs) d.natAbs hD
  have hs : IsNear (over (a * b) d) (d.natAbs : Int) (signed (neg3 a b d) (Num.near (a.natAbs * b.natAbs) d.natAbs : Int)) := by
    rw [signed_over]
    cases neg3 a b d
    · exact hn
    · exact hn.neg
  have e := hz.unique (by omega) hs
  have h0 : (d == 0) = false := beq_eq_false_iff_ne.2 hd
  unfold shareR
  rw [h0, if_neg (by simp)]
  have hge := near_ge (a.natAbs * b.natAbs) d.natAbs
  unfold mag nearW
  split
  · rename_i hbig
    have k1 : okW ((35184372088832 : Nat) : Int) = false := by decide
    have k2 : okW z = false := by
      rw [e]
      unfold okW signed
      split <;> simp <;> omega
    rw [k1, k2]
    simp
  · have k : okW z = okW ((Num.near (a.natAbs * b.natAbs) d.natAbs : Nat) : Int) := by
      rw [e, Bool.eq_iff_iff]
      unfold okW signed
      split <;> simp <;> omega
    rw [k, ← e]
theorem over_pos (x d : Int) (h : 0 < d) : over x d = x := by unfold over; rw [if_neg (by omega)]
end Go.Proofs.Ytbmocnigmpmfkaa
