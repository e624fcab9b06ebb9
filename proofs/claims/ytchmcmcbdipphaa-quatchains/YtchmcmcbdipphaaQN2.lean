/- Plain numbers: units, and products of units. -/
import Derived.Test.YtchmcmcbdipphaaQ9
namespace Go.Proofs.Ytchmcmcbdipphaa
open Go.RowKit Go.Shelf

/-- the four roots of a unit's squares are together nearly 2^60 -/
theorem unit_sum (n p0 p1 p2 p3 k0 k1 k2 k3 : Nat) (h0 : 0 < n) (hn : p0 + p1 + p2 + p3 = n)
    (q0 : RootQ (p0 * 1152921504606846976) n k0) (q1 : RootQ (p1 * 1152921504606846976) n k1) (q2 : RootQ (p2 * 1152921504606846976) n k2) (q3 : RootQ (p3 * 1152921504606846976) n k3) :
    1152921504606846976 ≤ k0 * k0 + k1 * k1 + k2 * k2 + k3 * k3 + 2147483657 ∧ k0 * k0 + k1 * k1 + k2 * k2 + k3 * k3 ≤ 1152921504606846976 + 2147483656 := by
  have up : 4 * 1152921504606846976 * n ≤ ((2 * k0 + 1) * (2 * k0 + 1) + (2 * k1 + 1) * (2 * k1 + 1) + (2 * k2 + 1) * (2 * k2 + 1) + (2 * k3 + 1) * (2 * k3 + 1)) * n := by
    have a0 := q0.1; have a1 := q1.1; have a2 := q2.1; have a3 := q3.1
    rw [Nat.add_mul, Nat.add_mul, Nat.add_mul]
    omega
  have up2 := Nat.le_of_mul_le_mul_right up h0
  have g : ∀ p k : Nat, RootQ (p * 1152921504606846976) n k → ((4 * (k * k) - 4 * k : Nat) : Nat) * n ≤ 4 * (p * 1152921504606846976) := by
    intro p k q
    rcases q.2.1 with h | h
    · subst h; simp
    · refine Nat.le_trans (Nat.mul_le_mul_right n ?_) h
      rcases k with _ | k
      · omega
      · have e : 2 * (k + 1) - 1 = 2 * k + 1 := by omega
        rw [e]
        have e2 : 4 * ((k + 1) * (k + 1)) = 4 * (k * k) + 8 * k + 4 := by grind
        have e3 : (2 * k + 1) * (2 * k + 1) = 4 * (k * k) + 4 * k + 1 := by grind
        omega
  have dn : ((4 * (k0 * k0) - 4 * k0) + (4 * (k1 * k1) - 4 * k1) + (4 * (k2 * k2) - 4 * k2) + (4 * (k3 * k3) - 4 * k3)) * n ≤ 4 * 1152921504606846976 * n := by
    have a0 := g _ _ q0; have a1 := g _ _ q1; have a2 := g _ _ q2; have a3 := g _ _ q3
    rw [Nat.add_mul, Nat.add_mul, Nat.add_mul]
    omega
  have dn2 := Nat.le_of_mul_le_mul_right dn h0
  have e0 : (2 * k0 + 1) * (2 * k0 + 1) = 4 * (k0 * k0) + 4 * k0 + 1 := by grind
  have e1 : (2 * k1 + 1) * (2 * k1 + 1) = 4 * (k1 * k1) + 4 * k1 + 1 := by grind
  have e2 : (2 * k2 + 1) * (2 * k2 + 1) = 4 * (k2 * k2) + 4 * k2 + 1 := by grind
  have e3 : (2 * k3 + 1) * (2 * k3 + 1) = 4 * (k3 * k3) + 4 * k3 + 1 := by grind
  rw [e0, e1, e2, e3] at up2
  have c : ((k0 : Int) + k1 + k2 + k3) * ((k0 : Int) + k1 + k2 + k3) ≤ 4 * ((k0 : Int) * k0 + (k1 : Int) * k1 + (k2 : Int) * k2 + (k3 : Int) * k3) := by
    have s1 := sq_nonneg ((k0 : Int) - k1); have s2 := sq_nonneg ((k0 : Int) - k2); have s3 := sq_nonneg ((k0 : Int) - k3)
    have s4 := sq_nonneg ((k1 : Int) - k2); have s5 := sq_nonneg ((k1 : Int) - k3); have s6 := sq_nonneg ((k2 : Int) - k3)
    have e : 4 * ((k0 : Int) * k0 + (k1 : Int) * k1 + (k2 : Int) * k2 + (k3 : Int) * k3) - ((k0 : Int) + k1 + k2 + k3) * ((k0 : Int) + k1 + k2 + k3) = ((k0 : Int) - k1) * ((k0 : Int) - k1) + ((k0 : Int) - k2) * ((k0 : Int) - k2) + ((k0 : Int) - k3) * ((k0 : Int) - k3) + ((k1 : Int) - k2) * ((k1 : Int) - k2) + ((k1 : Int) - k3) * ((k1 : Int) - k3) + ((k2 : Int) - k3) * ((k2 : Int) - k3) := by grind
    omega
  obtain ⟨S, hS⟩ : ∃ S : Nat, S = k0 + k1 + k2 + k3 := ⟨_, rfl⟩
  obtain ⟨K, hK⟩ : ∃ K : Nat, K = k0 * k0 + k1 * k1 + k2 * k2 + k3 * k3 := ⟨_, rfl⟩
  have c' : (S : Int) * S ≤ 4 * (K : Int) := by
    have eS : (S : Int) = (k0 : Int) + k1 + k2 + k3 := by omega
    have eK : (K : Int) = (k0 : Int) * k0 + (k1 : Int) * k1 + (k2 : Int) * k2 + (k3 : Int) * k3 := by rw [hK]; simp
    rw [eS, eK]; exact c
  have l1 : K ≤ 1152921504606846976 + S := by omega
  have l2 : 1152921504606846976 ≤ K + S + 1 := by omega
  have l3 : S ≤ 2147483656 := by
    apply Nat.le_of_not_lt
    intro hc
    have : (2147483657 : Int) * (2147483657 - 4) ≤ (S : Int) * ((S : Int) - 4) := Int.mul_le_mul (by omega) (by omega) (by omega) (by omega)
    have ee : (S : Int) * ((S : Int) - 4) = (S : Int) * S - 4 * S := by grind
    rw [ee] at this
    omega
  omega

theorem mul_abs {m f C : Int} (h1 : -C ≤ f) (h2 : f ≤ C) : m * f ≤ (m.natAbs : Int) * C ∧ -((m.natAbs : Int) * C) ≤ m * f := by
  by_cases h : 0 ≤ m
  · have e : (m.natAbs : Int) = m := by omega
    rw [e]
    refine ⟨Int.mul_le_mul_of_nonneg_left h2 h, ?_⟩
    rw [← Int.mul_neg]
    exact Int.mul_le_mul_of_nonneg_left h1 h
  · have e : (m.natAbs : Int) = -m := by omega
    rw [e]
    have e1 : m * f = -m * -f := by rw [Int.neg_mul_neg]
    rw [e1]
    refine ⟨Int.mul_le_mul_of_nonneg_left (by omega) (by omega), ?_⟩
    rw [← Int.mul_neg]
    exact Int.mul_le_mul_of_nonneg_left (by omega) (by omega)
theorem sum_abs (m0 m1 m2 m3 H : Int) (hH : 0 ≤ H) (h : m0 * m0 + m1 * m1 + m2 * m2 + m3 * m3 ≤ H * H) : (m0.natAbs : Int) + m1.natAbs + m2.natAbs + m3.natAbs ≤ 2 * H := by
  have sq : ∀ m : Int, m * m = (m.natAbs : Int) * m.natAbs := fun m => (Int.natAbs_mul_self' m).symm
  rw [sq m0, sq m1, sq m2, sq m3] at h
  generalize (m0.natAbs : Int) = a0 at *
  generalize (m1.natAbs : Int) = a1 at *
  generalize (m2.natAbs : Int) = a2 at *
  generalize (m3.natAbs : Int) = a3 at *
  apply Classical.byContradiction
  intro hc
  have s1 := sq_nonneg (a0 - a1); have s2 := sq_nonneg (a0 - a2); have s3 := sq_nonneg (a0 - a3)
  have s4 := sq_nonneg (a1 - a2); have s5 := sq_nonneg (a1 - a3); have s6 := sq_nonneg (a2 - a3)
  have e : 4 * (a0 * a0 + a1 * a1 + a2 * a2 + a3 * a3) - (a0 + a1 + a2 + a3) * (a0 + a1 + a2 + a3) = (a0 - a1) * (a0 - a1) + (a0 - a2) * (a0 - a2) + (a0 - a3) * (a0 - a3) + (a1 - a2) * (a1 - a2) + (a1 - a3) * (a1 - a3) + (a2 - a3) * (a2 - a3) := by grind
  have l : (2 * H + 1) * (2 * H + 1) ≤ (a0 + a1 + a2 + a3) * (a0 + a1 + a2 + a3) := Int.mul_le_mul (by omega) (by omega) (by omega) (by omega)
  have l2 : (2 * H + 1) * (2 * H + 1) = 4 * (H * H) + 4 * H + 1 := by grind
  omega
/-- a product of units, rounded, is nearly one -/
theorem mul_sum (A B m0 m1 m2 m3 c0 c1 c2 c3 : Int) (hA : 1152921504606846976 - 2147483657 ≤ A ∧ A ≤ 1152921504606846976 + 2147483656) (hB : 1152921504606846976 - 2147483657 ≤ B ∧ B ≤ 1152921504606846976 + 2147483656)
    (hm : m0 * m0 + m1 * m1 + m2 * m2 + m3 * m3 = A * B) (n0 : IsNear m0 1073741824 c0) (n1 : IsNear m1 1073741824 c1) (n2 : IsNear m2 1073741824 c2) (n3 : IsNear m3 1073741824 c3) :
    1152921504606846976 - 6442451000 ≤ c0 * c0 + c1 * c1 + c2 * c2 + c3 * c3 ∧ c0 * c0 + c1 * c1 + c2 * c2 + c3 * c3 ≤ 1152921504606846976 + 6442451000 := by
  have ab1 : A * B ≤ (1152921504606846976 + 2147483656) * (1152921504606846976 + 2147483656) := Int.mul_le_mul hA.2 hB.2 (by omega) (by omega)
  have ab2 : (1152921504606846976 - 2147483657) * (1152921504606846976 - 2147483657) ≤ A * B := Int.mul_le_mul hA.1 hB.1 (by omega) (by omega)
  have sm := sum_abs m0 m1 m2 m3 (1152921504606846976 + 2147483656) (by omega) (by omega)
  obtain ⟨f0, e0⟩ : ∃ f, f = 1073741824 * c0 - m0 := ⟨_, rfl⟩
  obtain ⟨f1, e1⟩ : ∃ f, f = 1073741824 * c1 - m1 := ⟨_, rfl⟩
  obtain ⟨f2, e2⟩ : ∃ f, f = 1073741824 * c2 - m2 := ⟨_, rfl⟩
  obtain ⟨f3, e3⟩ : ∃ f, f = 1073741824 * c3 - m3 := ⟨_, rfl⟩
  have b0 : -536870912 ≤ f0 ∧ f0 ≤ 536870912 := by have := n0.1; have := n0.2.1; omega
  have b1 : -536870912 ≤ f1 ∧ f1 ≤ 536870912 := by have := n1.1; have := n1.2.1; omega
  have b2 : -536870912 ≤ f2 ∧ f2 ≤ 536870912 := by have := n2.1; have := n2.2.1; omega
  have b3 : -536870912 ≤ f3 ∧ f3 ≤ 536870912 := by have := n3.1; have := n3.2.1; omega
  have p0 := mul_abs (m := m0) b0.1 b0.2; have p1 := mul_abs (m := m1) b1.1 b1.2
  have p2 := mul_abs (m := m2) b2.1 b2.2; have p3 := mul_abs (m := m3) b3.1 b3.2
  have sqb : ∀ f : Int, -536870912 ≤ f ∧ f ≤ 536870912 → f * f ≤ 288230376151711744 := fun f hf => by
    have h := mul_abs (m := f) hf.1 hf.2
    have : (f.natAbs : Int) ≤ 536870912 := by omega
    omega
  have g0 := sqb f0 b0; have g1 := sqb f1 b1; have g2 := sqb f2 b2; have g3 := sqb f3 b3
  have z0 := sq_nonneg f0; have z1 := sq_nonneg f1; have z2 := sq_nonneg f2; have z3 := sq_nonneg f3
  have key : 1152921504606846976 * (c0 * c0 + c1 * c1 + c2 * c2 + c3 * c3) = A * B + 2 * (m0 * f0 + m1 * f1 + m2 * f2 + m3 * f3) + (f0 * f0 + f1 * f1 + f2 * f2 + f3 * f3) := by
    rw [← hm, e0, e1, e2, e3]; grind
  clear e0 e1 e2 e3 hm sqb
  generalize c0 * c0 + c1 * c1 + c2 * c2 + c3 * c3 = T at *
  generalize A * B = AB at *
  generalize m0 * f0 = F0 at *
  generalize m1 * f1 = F1 at *
  generalize m2 * f2 = F2 at *
  generalize m3 * f3 = F3 at *
  generalize f0 * f0 = G0 at *
  generalize f1 * f1 = G1 at *
  generalize f2 * f2 = G2 at *
  generalize f3 * f3 = G3 at *
  omega
theorem quat_sq (a b c d x y z t : Int) : qw a b c d x y z t * qw a b c d x y z t + qx a b c d x y z t * qx a b c d x y z t + qy a b c d x y z t * qy a b c d x y z t + qz a b c d x y z t * qz a b c d x y z t = (a * a + b * b + c * c + d * d) * (x * x + y * y + z * z + t * t) := by
  unfold qw qx qy qz; grind
theorem nearQ_IsNear (z : Int) : IsNear z 1073741824 (nearQ z) := by
  unfold IsNear nearQ oddQ; refine ⟨?_, ?_, ?_⟩ <;> omega
end Go.Proofs.Ytchmcmcbdipphaa
