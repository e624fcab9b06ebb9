/- Plain numbers: units, their squares; dot and cross products of units. -/
import Derived.Test.YtllgknodgmgemaaRootQNum
namespace Go.Proofs.Ytllgknodgmgemaa

theorem root_up {A N k : Nat} (h : RootQ (A * 1152921504606846976) N k) : k * k * N ≤ A * 1152921504606846976 + k * N := by
  obtain ⟨_, h2, _, _⟩ := h
  rcases h2 with h2 | h2
  · subst h2; omega
  · by_cases h0 : k = 0
    · subst h0; omega
    · have e : (2 * k - 1) * (2 * k - 1) + 4 * k = 4 * (k * k) + 1 := by
        obtain ⟨m, rfl⟩ : ∃ m, k = m + 1 := ⟨k - 1, by omega⟩
        rw [show 2 * (m + 1) - 1 = 2 * m + 1 by omega]
        simp only [Nat.mul_add, Nat.add_mul, Nat.mul_one, Nat.one_mul]
        have : 2 * m * (2 * m) = 4 * (m * m) := by rw [Nat.mul_mul_mul_comm]
        omega
      have e2 := congrArg (· * N) e
      simp only [Nat.add_mul, Nat.mul_assoc, Nat.one_mul] at e2
      rw [Nat.mul_assoc] at h2
      rw [Nat.mul_assoc]
      omega
theorem root_low {A N k : Nat} (h : RootQ (A * 1152921504606846976) N k) : 4 * (A * 1152921504606846976) ≤ 4 * (k * k * N) + 4 * (k * N) + N := by
  obtain ⟨h1, _, _, _⟩ := h
  have e : (2 * k + 1) * (2 * k + 1) = 4 * (k * k) + 4 * k + 1 := by
    simp only [Nat.mul_add, Nat.add_mul, Nat.mul_one, Nat.one_mul]
    have : 2 * k * (2 * k) = 4 * (k * k) := by rw [Nat.mul_mul_mul_comm]
    omega
  rw [e, Nat.add_mul, Nat.add_mul, Nat.mul_assoc 4, Nat.mul_assoc 4, Nat.one_mul] at h1
  omega
/-- the squares of a unit's numbers: between, by their sum -/
theorem unit_sum {A0 A1 A2 N k0 k1 k2 : Nat} (h0 : 0 < N) (hs : A0 + A1 + A2 = N) (q0 : RootQ (A0 * 1152921504606846976) N k0) (q1 : RootQ (A1 * 1152921504606846976) N k1) (q2 : RootQ (A2 * 1152921504606846976) N k2) :
    k0 * k0 + k1 * k1 + k2 * k2 ≤ 1152921504606846976 + (k0 + k1 + k2) ∧ 1152921504606846976 ≤ k0 * k0 + k1 * k1 + k2 * k2 + (k0 + k1 + k2) := by
  have u0 := root_up q0
  have u1 := root_up q1
  have u2 := root_up q2
  have l0 := root_low q0
  have l1 := root_low q1
  have l2 := root_low q2
  have e : A0 * 1152921504606846976 + A1 * 1152921504606846976 + A2 * 1152921504606846976 = 1152921504606846976 * N := by rw [← hs]; omega
  constructor
  · apply Nat.le_of_mul_le_mul_right _ h0
    simp only [Nat.add_mul]
    omega
  · apply Decidable.byContradiction
    intro hh
    have hh' : k0 * k0 + k1 * k1 + k2 * k2 + (k0 + k1 + k2) + 1 ≤ 1152921504606846976 := by omega
    have := Nat.mul_le_mul_right N hh'
    simp only [Nat.add_mul, Nat.one_mul] at this
    omega
theorem sq_nonneg (x : Int) : 0 ≤ x * x := by rw [← Int.natAbs_mul_self]; exact Int.natCast_nonneg _
theorem three_sq (x y z : Int) : (x + y + z) * (x + y + z) ≤ 3 * (x * x + y * y + z * z) := by
  have a := sq_nonneg (x - y)
  have b := sq_nonneg (y - z)
  have c := sq_nonneg (x - z)
  simp only [Int.sub_mul, Int.mul_sub, Int.add_mul, Int.mul_add] at *
  have e1 := Int.mul_comm x y
  have e2 := Int.mul_comm y z
  have e3 := Int.mul_comm x z
  omega
/-- of a unit the sum of the squares is 2^60, but for 1.75 * 2^30; the sum of the numbers is at most 1.75 * 2^30 -/
theorem unit_near {S K : Nat} (hu : S ≤ 1152921504606846976 + K) (hl : 1152921504606846976 ≤ S + K) (hk : K * K ≤ 3 * S) :
    S ≤ 1152921504606846976 + 1879048192 ∧ 1152921504606846976 ≤ S + 1879048192 ∧ K ≤ 1879048192 := by
  have hK : K ≤ 1879048192 := by
    apply Decidable.byContradiction
    intro hh
    have h1 : 1879048193 * K ≤ K * K := Nat.mul_le_mul_right K (by omega)
    omega
  exact ⟨by omega, by omega, hK⟩
theorem dot_le (u0 u1 u2 v0 v1 v2 B : Int) (hu : u0 * u0 + u1 * u1 + u2 * u2 ≤ B) (hv : v0 * v0 + v1 * v1 + v2 * v2 ≤ B) :
    u0 * v0 + u1 * v1 + u2 * v2 ≤ B ∧ -B ≤ u0 * v0 + u1 * v1 + u2 * v2 := by
  have a0 := sq_nonneg (u0 - v0)
  have a1 := sq_nonneg (u1 - v1)
  have a2 := sq_nonneg (u2 - v2)
  have b0 := sq_nonneg (u0 + v0)
  have b1 := sq_nonneg (u1 + v1)
  have b2 := sq_nonneg (u2 + v2)
  simp only [Int.sub_mul, Int.mul_sub, Int.add_mul, Int.mul_add] at a0 a1 a2 b0 b1 b2
  have e0 := Int.mul_comm u0 v0
  have e1 := Int.mul_comm u1 v1
  have e2 := Int.mul_comm u2 v2
  omega
/-- the cross product's squares and the dot product's are together the product of both -/
theorem lagrange (u0 u1 u2 v0 v1 v2 : Int) :
    (u1 * v2 - u2 * v1) * (u1 * v2 - u2 * v1) + (u2 * v0 - u0 * v2) * (u2 * v0 - u0 * v2) + (u0 * v1 - u1 * v0) * (u0 * v1 - u1 * v0) + (u0 * v0 + u1 * v1 + u2 * v2) * (u0 * v0 + u1 * v1 + u2 * v2) = (u0 * u0 + u1 * u1 + u2 * u2) * (v0 * v0 + v1 * v1 + v2 * v2) := by
  grind
theorem near_sq (x c : Int) (h1 : -536870912 ≤ 1073741824 * c - x) (h2 : 1073741824 * c - x ≤ 536870912) : 1152921504606846976 * (c * c) ≤ x * x + 1073741824 * x.natAbs + 288230376151711744 := by
  obtain ⟨d, hd⟩ : ∃ d, 1073741824 * c - x = d := ⟨_, rfl⟩
  have hc : 1073741824 * c = x + d := by omega
  have e : 1152921504606846976 * (c * c) = (x + d) * (x + d) := by rw [← hc]; grind
  rw [e]
  have hd2 : d * d ≤ 536870912 * 536870912 := by
    have h3 : d.natAbs * d.natAbs ≤ 536870912 * 536870912 := Nat.mul_le_mul (by omega) (by omega)
    rw [← Int.natAbs_mul_self]; omega
  have hxd : x * d ≤ 536870912 * (x.natAbs : Int) := by
    have h3 : (x * d).natAbs ≤ x.natAbs * 536870912 := by rw [Int.natAbs_mul]; exact Nat.mul_le_mul_left _ (by omega)
    omega
  have e2 : (x + d) * (x + d) = x * x + 2 * (x * d) + d * d := by
    simp only [Int.add_mul, Int.mul_add]; rw [Int.mul_comm d x]; omega
  omega
theorem cross_bound (Su Sv D x0 x1 x2 c0 c1 c2 : Int) (hu : Su ≤ 1152921506485895168) (hv0 : 0 ≤ Sv) (hv : Sv ≤ 1152921506485895168)
    (hX : x0 * x0 + x1 * x1 + x2 * x2 + D * D = Su * Sv)
    (n0 : -536870912 ≤ 1073741824 * c0 - x0 ∧ 1073741824 * c0 - x0 ≤ 536870912) (n1 : -536870912 ≤ 1073741824 * c1 - x1 ∧ 1073741824 * c1 - x1 ≤ 536870912) (n2 : -536870912 ≤ 1073741824 * c2 - x2 ∧ 1073741824 * c2 - x2 ≤ 536870912) :
    c0 * c0 + c1 * c1 + c2 * c2 ≤ 1152921511049297929 := by
  have s0 := near_sq x0 c0 n0.1 n0.2
  have s1 := near_sq x1 c1 n1.1 n1.2
  have s2 := near_sq x2 c2 n2.1 n2.2
  have hD := sq_nonneg D
  have hQ : Su * Sv ≤ 1152921506485895168 * 1152921506485895168 := Int.le_trans (Int.mul_le_mul_of_nonneg_right hu hv0) (Int.mul_le_mul_of_nonneg_left hv (by omega))
  have h3 := three_sq (x0.natAbs : Int) (x1.natAbs : Int) (x2.natAbs : Int)
  rw [Int.natAbs_mul_self', Int.natAbs_mul_self', Int.natAbs_mul_self'] at h3
  obtain ⟨L, hL⟩ : ∃ L : Int, (x0.natAbs : Int) + x1.natAbs + x2.natAbs = L := ⟨_, rfl⟩
  rw [hL] at h3
  have hL4 : 4 * L ≤ 7 * 1152921506485895168 := by
    apply Decidable.byContradiction
    intro hh
    have h4 : 2017612636350316545 ≤ L := by omega
    have h5 : 2017612636350316545 * 2017612636350316545 ≤ L * L := Int.le_trans (Int.mul_le_mul_of_nonneg_right h4 (by omega)) (Int.mul_le_mul_of_nonneg_left h4 (by omega))
    omega
  omega
end Go.Proofs.Ytllgknodgmgemaa
