/- FuseSpins: spun and back: its numbers. -/
import Derived.Test.YtmbdcgijjpcppaaFuPm
import Derived.Test.YtmbdcgijjpcppaaMg27
namespace Go.Proofs.Ytmbdcgijjpcppaa
open Go.RowKit Go.Shelf
theorem mmmc (a b c d : Int) : a * b * (c * d) = a * c * (b * d) := by grind
theorem p4_id (a b c d x y z : Int) : (2147483648 * a - b * x - c * y - d * z) * (2147483648 * a - b * x - c * y - d * z) + (2147483648 * b + a * x + c * z - d * y) * (2147483648 * b + a * x + c * z - d * y) + (2147483648 * c + a * y - b * z + d * x) * (2147483648 * c + a * y - b * z + d * x) + (2147483648 * d + a * z + b * y - c * x) * (2147483648 * d + a * z + b * y - c * x)
    = (a * a + b * b + c * c + d * d) * (4611686018427387904 + (x * x + y * y + z * z)) := by grind
theorem th_sq {x : Int} (h : -8388608 ≤ x ∧ x ≤ 8388608) : 0 ≤ x * x ∧ x * x ≤ 70368744177664 := by
  have := sq_nonneg x
  have m := mul_le_of h.1 h.2 h.1 h.2
  omega
/-- how great the root of what is rounded is -/
theorem root_M {N W n M p0 p1 p2 p3 t0 t1 t2 t3 r0 r1 r2 r3 : Int} (hN : 1152921504606846976 - 2147483657 ≤ N ∧ N ≤ 1152921504606846976 + 2147483656) (hW : 4611686018427387904 ≤ W ∧ W ≤ 4611686018427387904 + 211106232532992)
    (hP : p0 * p0 + p1 * p1 + p2 * p2 + p3 * p3 = N * W)
    (e0 : 2147483648 * t0 = p0 + r0) (e1 : 2147483648 * t1 = p1 + r1) (e2 : 2147483648 * t2 = p2 + r2) (e3 : 2147483648 * t3 = p3 + r3)
    (g0 : -1073741824 ≤ r0 ∧ r0 ≤ 1073741824) (g1 : -1073741824 ≤ r1 ∧ r1 ≤ 1073741824) (g2 : -1073741824 ≤ r2 ∧ r2 ≤ 1073741824) (g3 : -1073741824 ≤ r3 ∧ r3 ≤ 1073741824)
    (hn : n = t0 * t0 + t1 * t1 + t2 * t2 + t3 * t3) (hM : 0 ≤ M) (m1 : M * M ≤ n * 1099511627776) (m2 : n * 1099511627776 < (M + 1) * (M + 1)) :
    1180591620717411303424 * (1073741819 * W) ≤ 4611686018427387904 * (M * M) ∧ 4611686018427387904 * (M * M) ≤ 1180591620717411303424 * (1073741829 * W) ∧ M < 1125968626319360 := by
  have lN : (1152921504606846976 - 2147483657) * W ≤ N * W := Int.mul_le_mul_of_nonneg_right hN.1 (by omega)
  have uN : N * W ≤ (1152921504606846976 + 2147483656) * W := Int.mul_le_mul_of_nonneg_right hN.2 (by omega)
  have hs := sum_abs p0 p1 p2 p3 (2305843009213693952 + 70368744177664) (by decide) (by rw [hP]; omega)
  have d0 := mul_abs (m := p0) g0.1 g0.2
  have d1 := mul_abs (m := p1) g1.1 g1.2
  have d2 := mul_abs (m := p2) g2.1 g2.2
  have d3 := mul_abs (m := p3) g3.1 g3.2
  have q0 := mul_le_of g0.1 g0.2 g0.1 g0.2
  have q1 := mul_le_of g1.1 g1.2 g1.1 g1.2
  have q2 := mul_le_of g2.1 g2.2 g2.1 g2.2
  have q3 := mul_le_of g3.1 g3.2 g3.1 g3.2
  have s0 := sq_nonneg r0
  have s1 := sq_nonneg r1
  have s2 := sq_nonneg r2
  have s3 := sq_nonneg r3
  have key : 4611686018427387904 * n = N * W + 2 * (p0 * r0 + p1 * r1 + p2 * r2 + p3 * r3) + (r0 * r0 + r1 * r1 + r2 * r2 + r3 * r3) := by
    have : 4611686018427387904 * n = (2147483648 * t0) * (2147483648 * t0) + (2147483648 * t1) * (2147483648 * t1) + (2147483648 * t2) * (2147483648 * t2) + (2147483648 * t3) * (2147483648 * t3) := by
      rw [hn, mmmc 2147483648 t0, mmmc 2147483648 t1, mmmc 2147483648 t2, mmmc 2147483648 t3]
      generalize t0 * t0 = A; generalize t1 * t1 = B; generalize t2 * t2 = C; generalize t3 * t3 = D
      omega
    rw [this, e0, e1, e2, e3, ← hP]
    grind
  have e4 : (M + 1) * (M + 1) = M * M + 2 * M + 1 := by grind
  rw [e4] at m2
  generalize p0 * r0 = A0 at *; generalize p1 * r1 = A1 at *; generalize p2 * r2 = A2 at *; generalize p3 * r3 = A3 at *
  generalize r0 * r0 = B0 at *; generalize r1 * r1 = B1 at *; generalize r2 * r2 = B2 at *; generalize r3 * r3 = B3 at *
  generalize N * W = NW at *
  have hMb : M < 1125968626319360 := by
    apply Int.lt_of_not_ge
    intro hc
    have := Int.mul_le_mul hc hc (by decide) hM
    omega
  refine ⟨?_, ?_, hMb⟩ <;> omega
theorem mm_mid {L H K M M' : Int} (hK : 0 < K) (h0 : 0 ≤ M) (h0' : 0 ≤ M') (l : L ≤ K * (M * M)) (u : K * (M * M) ≤ H) (l' : L ≤ K * (M' * M')) (u' : K * (M' * M') ≤ H) : L ≤ K * (M * M') ∧ K * (M * M') ≤ H := by
  rcases Int.le_total M M' with h | h
  · have a1 : M * M ≤ M * M' := Int.mul_le_mul_of_nonneg_left h h0
    have a2 : M * M' ≤ M' * M' := Int.mul_le_mul_of_nonneg_right h h0'
    have b1 : K * (M * M) ≤ K * (M * M') := Int.mul_le_mul_of_nonneg_left a1 (by omega)
    have b2 : K * (M * M') ≤ K * (M' * M') := Int.mul_le_mul_of_nonneg_left a2 (by omega)
    omega
  · have a1 : M' * M' ≤ M * M' := Int.mul_le_mul_of_nonneg_right h h0'
    have a2 : M * M' ≤ M * M := Int.mul_le_mul_of_nonneg_left h h0
    have b1 : K * (M' * M') ≤ K * (M * M') := Int.mul_le_mul_of_nonneg_left a1 (by omega)
    have b2 : K * (M * M') ≤ K * (M * M) := Int.mul_le_mul_of_nonneg_left a2 (by omega)
    omega
/-- a number of a unit, with its sign -/
theorem root_sgd {v : Int} {n k : Nat} {M : Nat} (h : RootQ (v.natAbs * v.natAbs * 1152921504606846976) n k) (hk : k ≤ 1073741824) (m1 : M * M ≤ n * 1099511627776) (m2 : n * 1099511627776 < (M + 1) * (M + 1)) :
    -((M : Int) + 2147483649) ≤ 2 * (sgd v k * M) - 2251799813685248 * v ∧ 2 * (sgd v k * M) - 2251799813685248 * v ≤ (M : Int) + 2147483649 := by
  obtain ⟨h1, h2⟩ := root_lin h m1 m2
  have e : 2 * k * M = 2 * (k * M) := Nat.mul_assoc _ _ _
  rw [e] at h1 h2
  unfold sgd
  split
  · rw [Int.neg_mul]
    have e2 : ((k : Int) * M) = ((k * M : Nat) : Int) := by simp
    rw [e2]
    generalize k * M = P at *
    omega
  · have e2 : ((k : Int) * M) = ((k * M : Nat) : Int) := by simp
    rw [e2]
    generalize k * M = P at *
    omega
end Go.Proofs.Ytmbdcgijjpcppaa
