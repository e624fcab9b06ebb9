/- FuseSpins: spun and back. -/
import Derived.Test.YtmbdcgijjpcppaaGreatFuRm
import Derived.Test.YtmbdcgijjpcppaaGreatFuQm
namespace Go.Proofs.YtmbdcgijjpcppaaGreat
open Go.RowKit Go.Shelf
theorem sb_id0 (K L a b c d x y z t0 t1 t2 t3 c0 c1 c2 c3 M s : Int) : 2 * M * K * K * s = L * ((K * K + (x * x + y * y + z * z)) * a) + (L * (K * (K * t0 - (K * a - b * x - c * y - d * z)) + (K * t1 - (K * b + a * x + c * z - d * y)) * x + (K * t2 - (K * c + a * y - b * z + d * x)) * y + (K * t3 - (K * d + a * z + b * y - c * x)) * z) + K * (K * (2 * (c0 * M) - L * t0) + (2 * (c1 * M) - L * t1) * x + (2 * (c2 * M) - L * t2) * y + (2 * (c3 * M) - L * t3) * z) + 2 * M * K * (K * s - (K * c0 + c1 * x + c2 * y + c3 * z))) := by grind
theorem sb_id1 (K L a b c d x y z t0 t1 t2 t3 c0 c1 c2 c3 M s : Int) : 2 * M * K * K * s = L * ((K * K + (x * x + y * y + z * z)) * b) + (L * (K * (K * t1 - (K * b + a * x + c * z - d * y)) - (K * t0 - (K * a - b * x - c * y - d * z)) * x - (K * t2 - (K * c + a * y - b * z + d * x)) * z + (K * t3 - (K * d + a * z + b * y - c * x)) * y) + K * (K * (2 * (c1 * M) - L * t1) - (2 * (c0 * M) - L * t0) * x - (2 * (c2 * M) - L * t2) * z + (2 * (c3 * M) - L * t3) * y) + 2 * M * K * (K * s - (K * c1 - c0 * x - c2 * z + c3 * y))) := by grind
theorem sb_id2 (K L a b c d x y z t0 t1 t2 t3 c0 c1 c2 c3 M s : Int) : 2 * M * K * K * s = L * ((K * K + (x * x + y * y + z * z)) * c) + (L * (K * (K * t2 - (K * c + a * y - b * z + d * x)) - (K * t0 - (K * a - b * x - c * y - d * z)) * y + (K * t1 - (K * b + a * x + c * z - d * y)) * z - (K * t3 - (K * d + a * z + b * y - c * x)) * x) + K * (K * (2 * (c2 * M) - L * t2) - (2 * (c0 * M) - L * t0) * y + (2 * (c1 * M) - L * t1) * z - (2 * (c3 * M) - L * t3) * x) + 2 * M * K * (K * s - (K * c2 - c0 * y + c1 * z - c3 * x))) := by grind
theorem sb_id3 (K L a b c d x y z t0 t1 t2 t3 c0 c1 c2 c3 M s : Int) : 2 * M * K * K * s = L * ((K * K + (x * x + y * y + z * z)) * d) + (L * (K * (K * t3 - (K * d + a * z + b * y - c * x)) - (K * t0 - (K * a - b * x - c * y - d * z)) * z - (K * t1 - (K * b + a * x + c * z - d * y)) * y + (K * t2 - (K * c + a * y - b * z + d * x)) * x) + K * (K * (2 * (c3 * M) - L * t3) - (2 * (c0 * M) - L * t0) * z - (2 * (c1 * M) - L * t1) * y + (2 * (c2 * M) - L * t2) * x) + 2 * M * K * (K * s - (K * c3 - c0 * z - c1 * y + c2 * x))) := by grind
theorem th4 {v0 v1 v2 v3 x y z B : Int} (h0 : -B ≤ v0 ∧ v0 ≤ B) (h1 : -B ≤ v1 ∧ v1 ≤ B) (h2 : -B ≤ v2 ∧ v2 ≤ B) (h3 : -B ≤ v3 ∧ v3 ≤ B) (hx : -8388608 ≤ x ∧ x ≤ 8388608) (hy : -8388608 ≤ y ∧ y ≤ 8388608) (hz : -8388608 ≤ z ∧ z ≤ 8388608) :
    (-(2172649472 * B) ≤ 2147483648 * v0 + v1 * x + v2 * y + v3 * z ∧ 2147483648 * v0 + v1 * x + v2 * y + v3 * z ≤ 2172649472 * B) ∧ (-(2172649472 * B) ≤ 2147483648 * v1 - v0 * x - v2 * z + v3 * y ∧ 2147483648 * v1 - v0 * x - v2 * z + v3 * y ≤ 2172649472 * B) ∧ (-(2172649472 * B) ≤ 2147483648 * v2 - v0 * y + v1 * z - v3 * x ∧ 2147483648 * v2 - v0 * y + v1 * z - v3 * x ≤ 2172649472 * B) ∧ (-(2172649472 * B) ≤ 2147483648 * v3 - v0 * z - v1 * y + v2 * x ∧ 2147483648 * v3 - v0 * z - v1 * y + v2 * x ≤ 2172649472 * B) := by
  have m0x := mul_le_of h0.1 h0.2 hx.1 hx.2
  have m0y := mul_le_of h0.1 h0.2 hy.1 hy.2
  have m0z := mul_le_of h0.1 h0.2 hz.1 hz.2
  have m1x := mul_le_of h1.1 h1.2 hx.1 hx.2
  have m1y := mul_le_of h1.1 h1.2 hy.1 hy.2
  have m1z := mul_le_of h1.1 h1.2 hz.1 hz.2
  have m2x := mul_le_of h2.1 h2.2 hx.1 hx.2
  have m2y := mul_le_of h2.1 h2.2 hy.1 hy.2
  have m2z := mul_le_of h2.1 h2.2 hz.1 hz.2
  have m3x := mul_le_of h3.1 h3.2 hx.1 hx.2
  have m3y := mul_le_of h3.1 h3.2 hy.1 hy.2
  have m3z := mul_le_of h3.1 h3.2 hz.1 hz.2
  refine ⟨⟨?_, ?_⟩, ⟨?_, ?_⟩, ⟨?_, ?_⟩, ⟨?_, ?_⟩⟩ <;> omega
theorem fin_num {M M' W q s d err e' : Int} (hM : 0 ≤ M) (hMu : M < 1125968626319360) (hW : 4611686018427387904 ≤ W ∧ W ≤ 4611686018427387904 + 211106232532992)
    (hG : 1180591620717411303424 * (1073741819 * W) ≤ 4611686018427387904 * (M * M') ∧ 4611686018427387904 * (M * M') ≤ 1180591620717411303424 * (1073741829 * W))
    (hq : -1073741828 ≤ q ∧ q ≤ 1073741828) (h1 : 9223372036854775808 * (M * s) = 2251799813685248 * (W * q) + err) (h2 : 2 * (d * M') = 2251799813685248 * s + e')
    (he : -16000000000000000000000000000000000 ≤ err ∧ err ≤ 16000000000000000000000000000000000) (he' : -1125970773803010 ≤ e' ∧ e' ≤ 1125970773803010) : -16 ≤ d - q ∧ d - q ≤ 16 := by
  have k : (d - q) * (18446744073709551616 * (M * M')) = 5070602400912917605986812821504 * (W * q) - 18446744073709551616 * (M * M') * q + 2251799813685248 * err + 9223372036854775808 * (M * e') := by
    have a1 : (d - q) * (18446744073709551616 * (M * M')) = 9223372036854775808 * (M * (2 * (d * M'))) - 18446744073709551616 * (M * M') * q := by grind
    rw [a1, h2]
    have a2 : 9223372036854775808 * (M * (2251799813685248 * s + e')) = 2251799813685248 * (9223372036854775808 * (M * s)) + 9223372036854775808 * (M * e') := by grind
    rw [a2, h1]
    omega
  have k2 : 5070602400912917605986812821504 * (W * q) - 18446744073709551616 * (M * M') * q = (5070602400912917605986812821504 * W - 18446744073709551616 * (M * M')) * q := by simp only [Int.sub_mul, Int.mul_assoc]
  generalize hg : M * M' = G at *
  have b1 := mul_le_of (a := 5070602400912917605986812821504 * W - 18446744073709551616 * G) (A := 23611832414348226068480 * W) (b := q) (B := 1073741828) (by omega) (by omega) hq.1 hq.2
  have b2 := mul_le_of (a := M) (A := 1125968626319360) (b := e') (B := 1125970773803010) (by omega) (by omega) he'.1 he'.2
  rw [k2] at k
  generalize (5070602400912917605986812821504 * W - 18446744073709551616 * G) * q = X at *
  generalize M * e' = Y at *
  have hG0 : 0 ≤ 18446744073709551616 * G := by omega
  constructor
  · apply Int.le_of_not_gt
    intro hc
    have := Int.mul_le_mul_of_nonneg_right (show d - q ≤ -17 by omega) hG0
    omega
  · apply Int.le_of_not_gt
    intro hc
    have := Int.mul_le_mul_of_nonneg_right (show 17 ≤ d - q by omega) hG0
    omega
theorem l_ms (m s : Int) : 2 * m * 2147483648 * 2147483648 * s = 9223372036854775808 * (m * s) := by
  have h : ∀ K : Int, 2 * m * K * K * s = 2 * (K * K) * (m * s) := fun K => by grind
  rw [h]
  generalize m * s = q
  omega
theorem l_my (m Y : Int) : 2 * m * 2147483648 * Y = 4294967296 * (m * Y) := by
  have h : ∀ K : Int, 2 * m * K * Y = 2 * K * (m * Y) := fun K => by grind
  rw [h]
  generalize m * Y = q
  omega
theorem spin_back {a b c d x y z c0 c1 c2 c3 d0 d1 d2 d3 : Int} (hO : okO a b c d = true) (hU : isU a b c d) (hx : -8388608 ≤ x ∧ x ≤ 8388608) (hy : -8388608 ≤ y ∧ y ≤ 8388608) (hz : -8388608 ≤ z ∧ z ≤ 8388608)
    (hc : SpinD a b c d x y z c0 c1 c2 c3) (hd : SpinD c0 c1 c2 c3 (-x) (-y) (-z) d0 d1 d2 d3) : (-16 ≤ d0 - a ∧ d0 - a ≤ 16) ∧ (-16 ≤ d1 - b ∧ d1 - b ≤ 16) ∧ (-16 ≤ d2 - c ∧ d2 - c ≤ 16) ∧ (-16 ≤ d3 - d ∧ d3 - d ≤ 16) := by
  have hOc := spinD_ok hO hc
  have hUc : isU c0 c1 c2 c3 := unitq_isU (sp_zero hO) hc
  have tx := th_sq hx; have ty := th_sq hy; have tz := th_sq hz
  obtain ⟨W, hW⟩ : ∃ W, W = 4611686018427387904 + (x * x + y * y + z * z) := ⟨_, rfl⟩
  have bW : 4611686018427387904 ≤ W ∧ W ≤ 4611686018427387904 + 211106232532992 := by omega
  obtain ⟨ha, hb, hc', hd'⟩ := okO_abs hO
  have st : ∀ p, -1073741824 ≤ 2147483648 * half p - p ∧ 2147483648 * half p - p ≤ 1073741824 := fun p => by
    obtain ⟨g1, g2, _⟩ := nearI_spec p 2147483648 (by decide)
    unfold half; omega
  unfold SpinD at hc hd
  have st0 := st (xp0 b c d x y z)
  have su0 := st (xp0 c1 c2 c3 (-x) (-y) (-z))
  have st1 := st (xp1 a c d x y z)
  have su1 := st (xp1 c0 c2 c3 (-x) (-y) (-z))
  have st2 := st (xp2 a b d x y z)
  have su2 := st (xp2 c0 c1 c3 (-x) (-y) (-z))
  have st3 := st (xp3 a b c x y z)
  have su3 := st (xp3 c0 c1 c2 (-x) (-y) (-z))
  have et0 : sp0 a b c d x y z = a + half (xp0 b c d x y z) := rfl
  have eu0 : sp0 c0 c1 c2 c3 (-x) (-y) (-z) = c0 + half (xp0 c1 c2 c3 (-x) (-y) (-z)) := rfl
  have et1 : sp1 a b c d x y z = b + half (xp1 a c d x y z) := rfl
  have eu1 : sp1 c0 c1 c2 c3 (-x) (-y) (-z) = c1 + half (xp1 c0 c2 c3 (-x) (-y) (-z)) := rfl
  have et2 : sp2 a b c d x y z = c + half (xp2 a b d x y z) := rfl
  have eu2 : sp2 c0 c1 c2 c3 (-x) (-y) (-z) = c2 + half (xp2 c0 c1 c3 (-x) (-y) (-z)) := rfl
  have et3 : sp3 a b c d x y z = d + half (xp3 a b c x y z) := rfl
  have eu3 : sp3 c0 c1 c2 c3 (-x) (-y) (-z) = c3 + half (xp3 c0 c1 c2 (-x) (-y) (-z)) := rfl
  have z1 := sq4_pos (sp_zero (x := x) (y := y) (z := z) hO)
  have z2 := sq4_pos (sp_zero (x := -x) (y := -y) (z := -z) hOc)
  generalize sp0 a b c d x y z = t0 at *
  generalize sp0 c0 c1 c2 c3 (-x) (-y) (-z) = s0 at *
  generalize half (xp0 b c d x y z) = h0 at *
  generalize half (xp0 c1 c2 c3 (-x) (-y) (-z)) = j0 at *
  generalize sp1 a b c d x y z = t1 at *
  generalize sp1 c0 c1 c2 c3 (-x) (-y) (-z) = s1 at *
  generalize half (xp1 a c d x y z) = h1 at *
  generalize half (xp1 c0 c2 c3 (-x) (-y) (-z)) = j1 at *
  generalize sp2 a b c d x y z = t2 at *
  generalize sp2 c0 c1 c2 c3 (-x) (-y) (-z) = s2 at *
  generalize half (xp2 a b d x y z) = h2 at *
  generalize half (xp2 c0 c1 c3 (-x) (-y) (-z)) = j2 at *
  generalize sp3 a b c d x y z = t3 at *
  generalize sp3 c0 c1 c2 c3 (-x) (-y) (-z) = s3 at *
  generalize half (xp3 a b c x y z) = h3 at *
  generalize half (xp3 c0 c1 c2 (-x) (-y) (-z)) = j3 at *
  clear st
  unfold xp0 at st0 su0; unfold xp1 at st1 su1; unfold xp2 at st2 su2; unfold xp3 at st3 su3
  have R0 : -1073741824 ≤ 2147483648 * t0 - (2147483648 * a - b * x - c * y - d * z) ∧ 2147483648 * t0 - (2147483648 * a - b * x - c * y - d * z) ≤ 1073741824 := by rw [et0]; rw [Int.neg_mul] at st0; omega
  have S0 : -1073741824 ≤ 2147483648 * s0 - (2147483648 * c0 + c1 * x + c2 * y + c3 * z) ∧ 2147483648 * s0 - (2147483648 * c0 + c1 * x + c2 * y + c3 * z) ≤ 1073741824 := by
    rw [eu0]
    simp only [Int.neg_mul, Int.mul_neg, Int.neg_neg] at su0
    omega
  have R1 : -1073741824 ≤ 2147483648 * t1 - (2147483648 * b + a * x + c * z - d * y) ∧ 2147483648 * t1 - (2147483648 * b + a * x + c * z - d * y) ≤ 1073741824 := by rw [et1]; omega
  have S1 : -1073741824 ≤ 2147483648 * s1 - (2147483648 * c1 - c0 * x - c2 * z + c3 * y) ∧ 2147483648 * s1 - (2147483648 * c1 - c0 * x - c2 * z + c3 * y) ≤ 1073741824 := by
    rw [eu1]
    simp only [Int.mul_neg] at su1
    omega
  have R2 : -1073741824 ≤ 2147483648 * t2 - (2147483648 * c + a * y - b * z + d * x) ∧ 2147483648 * t2 - (2147483648 * c + a * y - b * z + d * x) ≤ 1073741824 := by rw [et2]; omega
  have S2 : -1073741824 ≤ 2147483648 * s2 - (2147483648 * c2 - c0 * y + c1 * z - c3 * x) ∧ 2147483648 * s2 - (2147483648 * c2 - c0 * y + c1 * z - c3 * x) ≤ 1073741824 := by
    rw [eu2]
    simp only [Int.mul_neg] at su2
    omega
  have R3 : -1073741824 ≤ 2147483648 * t3 - (2147483648 * d + a * z + b * y - c * x) ∧ 2147483648 * t3 - (2147483648 * d + a * z + b * y - c * x) ≤ 1073741824 := by rw [et3]; omega
  have S3 : -1073741824 ≤ 2147483648 * s3 - (2147483648 * c3 - c0 * z - c1 * y + c2 * x) ∧ 2147483648 * s3 - (2147483648 * c3 - c0 * z - c1 * y + c2 * x) ≤ 1073741824 := by
    rw [eu3]
    simp only [Int.mul_neg] at su3
    omega
  obtain ⟨M, m1, m2⟩ := exists_sqrt (sq4 t0 t1 t2 t3 * 1099511627776)
  obtain ⟨N, n1, n2⟩ := exists_sqrt (sq4 s0 s1 s2 s3 * 1099511627776)
  obtain ⟨k0, k1, k2, k3, q0, q1, q2, q3, f0, f1, f2, f3⟩ := hc
  obtain ⟨l0, l1, l2, l3, p0, p1, p2, p3, g0, g1, g2, g3⟩ := hd
  obtain ⟨a0, a1, a2, a3⟩ := le_sq4 t0 t1 t2 t3
  obtain ⟨b0, b1, b2, b3⟩ := le_sq4 s0 s1 s2 s3
  have E0 := root_sgd q0 (unit_k_le z1 a0 q0) m1 m2
  have F0 := root_sgd p0 (unit_k_le z2 b0 p0) n1 n2
  have E1 := root_sgd q1 (unit_k_le z1 a1 q1) m1 m2
  have F1 := root_sgd p1 (unit_k_le z2 b1 p1) n1 n2
  have E2 := root_sgd q2 (unit_k_le z1 a2 q2) m1 m2
  have F2 := root_sgd p2 (unit_k_le z2 b2 p2) n1 n2
  have E3 := root_sgd q3 (unit_k_le z1 a3 q3) m1 m2
  have F3 := root_sgd p3 (unit_k_le z2 b3 p3) n1 n2
  rw [← f0] at E0; rw [← f1] at E1; rw [← f2] at E2; rw [← f3] at E3
  rw [← g0] at F0; rw [← g1] at F1; rw [← g2] at F2; rw [← g3] at F3
  clear f0 f1 f2 f3 g0 g1 g2 g3 q0 q1 q2 q3 p0 p1 p2 p3 a0 a1 a2 a3 b0 b1 b2 b3
  have nt := (sq4_int t0 t1 t2 t3).symm
  have ns := (sq4_int s0 s1 s2 s3).symm
  have mI : (M : Int) * M ≤ ((sq4 t0 t1 t2 t3 : Nat) : Int) * 1099511627776 := by have h := m1; have e : ((M * M : Nat) : Int) = (M : Int) * M := by simp
                                                                                  rw [← e]; generalize M * M = Q at h ⊢; omega
  have mJ : ((sq4 t0 t1 t2 t3 : Nat) : Int) * 1099511627776 < ((M : Int) + 1) * (M + 1) := by have h := m2; have e : (((M + 1) * (M + 1) : Nat) : Int) = ((M : Int) + 1) * (M + 1) := by simp
                                                                                              rw [← e]; generalize (M + 1) * (M + 1) = Q at h ⊢; omega
  have nI : (N : Int) * N ≤ ((sq4 s0 s1 s2 s3 : Nat) : Int) * 1099511627776 := by have h := n1; have e : ((N * N : Nat) : Int) = (N : Int) * N := by simp
                                                                                  rw [← e]; generalize N * N = Q at h ⊢; omega
  have nJ : ((sq4 s0 s1 s2 s3 : Nat) : Int) * 1099511627776 < ((N : Int) + 1) * (N + 1) := by have h := n2; have e : (((N + 1) * (N + 1) : Nat) : Int) = ((N : Int) + 1) * (N + 1) := by simp
                                                                                              rw [← e]; generalize (N + 1) * (N + 1) = Q at h ⊢; omega
  have hM0 : (0 : Int) ≤ M := by omega
  have hN0 : (0 : Int) ≤ N := by omega
  generalize ((sq4 t0 t1 t2 t3 : Nat) : Int) = n at *
  generalize ((sq4 s0 s1 s2 s3 : Nat) : Int) = n' at *
  generalize (M : Int) = m at *
  generalize (N : Int) = m' at *
  clear m1 m2 n1 n2 z1 z2 et0 et1 et2 et3 eu0 eu1 eu2 eu3 st0 st1 st2 st3 su0 su1 su2 su3 hOc
  have A := root_M (N := a * a + b * b + c * c + d * d) (W := W) (n := n) (M := m) (p0 := 2147483648 * a - b * x - c * y - d * z) (t0 := t0) (r0 := 2147483648 * t0 - (2147483648 * a - b * x - c * y - d * z)) (p1 := 2147483648 * b + a * x + c * z - d * y) (t1 := t1) (r1 := 2147483648 * t1 - (2147483648 * b + a * x + c * z - d * y)) (p2 := 2147483648 * c + a * y - b * z + d * x) (t2 := t2) (r2 := 2147483648 * t2 - (2147483648 * c + a * y - b * z + d * x)) (p3 := 2147483648 * d + a * z + b * y - c * x) (t3 := t3) (r3 := 2147483648 * t3 - (2147483648 * d + a * z + b * y - c * x)) (by unfold isU at hU; omega) bW (by rw [hW]; exact p4_id a b c d x y z) (by omega) (by omega) (by omega) (by omega) R0 R1 R2 R3 nt hM0 mI mJ
  have B := root_M (N := c0 * c0 + c1 * c1 + c2 * c2 + c3 * c3) (W := W) (n := n') (M := m') (p0 := 2147483648 * c0 + c1 * x + c2 * y + c3 * z) (t0 := s0) (r0 := 2147483648 * s0 - (2147483648 * c0 + c1 * x + c2 * y + c3 * z)) (p1 := 2147483648 * c1 - c0 * x - c2 * z + c3 * y) (t1 := s1) (r1 := 2147483648 * s1 - (2147483648 * c1 - c0 * x - c2 * z + c3 * y)) (p2 := 2147483648 * c2 - c0 * y + c1 * z - c3 * x) (t2 := s2) (r2 := 2147483648 * s2 - (2147483648 * c2 - c0 * y + c1 * z - c3 * x)) (p3 := 2147483648 * c3 - c0 * z - c1 * y + c2 * x) (t3 := s3) (r3 := 2147483648 * s3 - (2147483648 * c3 - c0 * z - c1 * y + c2 * x)) (by unfold isU at hUc; omega) bW (by rw [hW]; have h := p4_id c0 c1 c2 c3 (-x) (-y) (-z); simp only [Int.neg_mul, Int.mul_neg, Int.neg_neg] at h; grind) (by omega) (by omega) (by omega) (by omega) S0 S1 S2 S3 ns hN0 nI nJ
  obtain ⟨A1, A2, A3⟩ := A
  obtain ⟨B1, B2, B3⟩ := B
  have G := mm_mid (K := 4611686018427387904) (by decide) hM0 hN0 A1 A2 B1 B2
  clear A1 A2 B1 B2 mI mJ nI nJ nt ns
  have T1 := th4 R0 R1 R2 R3 hx hy hz
  have EB : ∀ v : Int, -(m + 2147483649) ≤ v ∧ v ≤ m + 2147483649 → -1125970773803010 ≤ v ∧ v ≤ 1125970773803010 := fun v hv => by omega
  have T2 := th4 (EB _ E0) (EB _ E1) (EB _ E2) (EB _ E3) hx hy hz
  have EC : ∀ v : Int, -(m' + 2147483649) ≤ v ∧ v ≤ m' + 2147483649 → -1125970773803010 ≤ v ∧ v ≤ 1125970773803010 := fun v hv => by omega
  have U0 := EC _ F0; have U1 := EC _ F1; have U2 := EC _ F2; have U3 := EC _ F3
  have V := fun (r : Int) (hr : -1073741824 ≤ r ∧ r ≤ 1073741824) => mul_le_of (a := m) (A := 1125968626319360) (b := r) (B := 1073741824) (by omega) (by omega) hr.1 hr.2
  have V0 := V _ S0; have V1 := V _ S1; have V2 := V _ S2; have V3 := V _ S3
  obtain ⟨T10, T11, T12, T13⟩ := T1
  obtain ⟨T20, T21, T22, T23⟩ := T2
  clear V EB EC R0 R1 R2 R3 S0 S1 S2 S3 E0 E1 E2 E3 F0 F1 F2 F3
  have I0 := sb_id0 2147483648 2251799813685248 a b c d x y z t0 t1 t2 t3 c0 c1 c2 c3 m s0
  have J0 : -16 ≤ d0 - a ∧ d0 - a ≤ 16 := by
    refine fin_num (M := m) (M' := m') (W := W) (q := a) (s := s0) (d := d0) (err := 2251799813685248 * (2147483648 * (2147483648 * t0 - (2147483648 * a - b * x - c * y - d * z)) + (2147483648 * t1 - (2147483648 * b + a * x + c * z - d * y)) * x + (2147483648 * t2 - (2147483648 * c + a * y - b * z + d * x)) * y + (2147483648 * t3 - (2147483648 * d + a * z + b * y - c * x)) * z) + 2147483648 * (2147483648 * (2 * (c0 * m) - 2251799813685248 * t0) + (2 * (c1 * m) - 2251799813685248 * t1) * x + (2 * (c2 * m) - 2251799813685248 * t2) * y + (2 * (c3 * m) - 2251799813685248 * t3) * z) + 4294967296 * (m * (2147483648 * s0 - (2147483648 * c0 + c1 * x + c2 * y + c3 * z)))) (e' := 2 * (d0 * m') - 2251799813685248 * s0) hM0 A3 bW G ha ?_ (by omega) ?_ U0
    · rw [hW]
      rw [← l_ms, I0, l_my]
      rfl
    · generalize m * (2147483648 * s0 - (2147483648 * c0 + c1 * x + c2 * y + c3 * z)) = Y at *
      generalize 2147483648 * (2147483648 * t0 - (2147483648 * a - b * x - c * y - d * z)) + (2147483648 * t1 - (2147483648 * b + a * x + c * z - d * y)) * x + (2147483648 * t2 - (2147483648 * c + a * y - b * z + d * x)) * y + (2147483648 * t3 - (2147483648 * d + a * z + b * y - c * x)) * z = Y1 at *
      generalize 2147483648 * (2 * (c0 * m) - 2251799813685248 * t0) + (2 * (c1 * m) - 2251799813685248 * t1) * x + (2 * (c2 * m) - 2251799813685248 * t2) * y + (2 * (c3 * m) - 2251799813685248 * t3) * z = Y2 at *
      omega
  have I1 := sb_id1 2147483648 2251799813685248 a b c d x y z t0 t1 t2 t3 c0 c1 c2 c3 m s1
  have J1 : -16 ≤ d1 - b ∧ d1 - b ≤ 16 := by
    refine fin_num (M := m) (M' := m') (W := W) (q := b) (s := s1) (d := d1) (err := 2251799813685248 * (2147483648 * (2147483648 * t1 - (2147483648 * b + a * x + c * z - d * y)) - (2147483648 * t0 - (2147483648 * a - b * x - c * y - d * z)) * x - (2147483648 * t2 - (2147483648 * c + a * y - b * z + d * x)) * z + (2147483648 * t3 - (2147483648 * d + a * z + b * y - c * x)) * y) + 2147483648 * (2147483648 * (2 * (c1 * m) - 2251799813685248 * t1) - (2 * (c0 * m) - 2251799813685248 * t0) * x - (2 * (c2 * m) - 2251799813685248 * t2) * z + (2 * (c3 * m) - 2251799813685248 * t3) * y) + 4294967296 * (m * (2147483648 * s1 - (2147483648 * c1 - c0 * x - c2 * z + c3 * y)))) (e' := 2 * (d1 * m') - 2251799813685248 * s1) hM0 A3 bW G hb ?_ (by omega) ?_ U1
    · rw [hW]
      rw [← l_ms, I1, l_my]
      rfl
    · generalize m * (2147483648 * s1 - (2147483648 * c1 - c0 * x - c2 * z + c3 * y)) = Y at *
      generalize 2147483648 * (2147483648 * t1 - (2147483648 * b + a * x + c * z - d * y)) - (2147483648 * t0 - (2147483648 * a - b * x - c * y - d * z)) * x - (2147483648 * t2 - (2147483648 * c + a * y - b * z + d * x)) * z + (2147483648 * t3 - (2147483648 * d + a * z + b * y - c * x)) * y = Y1 at *
      generalize 2147483648 * (2 * (c1 * m) - 2251799813685248 * t1) - (2 * (c0 * m) - 2251799813685248 * t0) * x - (2 * (c2 * m) - 2251799813685248 * t2) * z + (2 * (c3 * m) - 2251799813685248 * t3) * y = Y2 at *
      omega
  have I2 := sb_id2 2147483648 2251799813685248 a b c d x y z t0 t1 t2 t3 c0 c1 c2 c3 m s2
  have J2 : -16 ≤ d2 - c ∧ d2 - c ≤ 16 := by
    refine fin_num (M := m) (M' := m') (W := W) (q := c) (s := s2) (d := d2) (err := 2251799813685248 * (2147483648 * (2147483648 * t2 - (2147483648 * c + a * y - b * z + d * x)) - (2147483648 * t0 - (2147483648 * a - b * x - c * y - d * z)) * y + (2147483648 * t1 - (2147483648 * b + a * x + c * z - d * y)) * z - (2147483648 * t3 - (2147483648 * d + a * z + b * y - c * x)) * x) + 2147483648 * (2147483648 * (2 * (c2 * m) - 2251799813685248 * t2) - (2 * (c0 * m) - 2251799813685248 * t0) * y + (2 * (c1 * m) - 2251799813685248 * t1) * z - (2 * (c3 * m) - 2251799813685248 * t3) * x) + 4294967296 * (m * (2147483648 * s2 - (2147483648 * c2 - c0 * y + c1 * z - c3 * x)))) (e' := 2 * (d2 * m') - 2251799813685248 * s2) hM0 A3 bW G hc' ?_ (by omega) ?_ U2
    · rw [hW]
      rw [← l_ms, I2, l_my]
      rfl
    · generalize m * (2147483648 * s2 - (2147483648 * c2 - c0 * y + c1 * z - c3 * x)) = Y at *
      generalize 2147483648 * (2147483648 * t2 - (2147483648 * c + a * y - b * z + d * x)) - (2147483648 * t0 - (2147483648 * a - b * x - c * y - d * z)) * y + (2147483648 * t1 - (2147483648 * b + a * x + c * z - d * y)) * z - (2147483648 * t3 - (2147483648 * d + a * z + b * y - c * x)) * x = Y1 at *
      generalize 2147483648 * (2 * (c2 * m) - 2251799813685248 * t2) - (2 * (c0 * m) - 2251799813685248 * t0) * y + (2 * (c1 * m) - 2251799813685248 * t1) * z - (2 * (c3 * m) - 2251799813685248 * t3) * x = Y2 at *
      omega
  have I3 := sb_id3 2147483648 2251799813685248 a b c d x y z t0 t1 t2 t3 c0 c1 c2 c3 m s3
  have J3 : -16 ≤ d3 - d ∧ d3 - d ≤ 16 := by
    refine fin_num (M := m) (M' := m') (W := W) (q := d) (s := s3) (d := d3) (err := 2251799813685248 * (2147483648 * (2147483648 * t3 - (2147483648 * d + a * z + b * y - c * x)) - (2147483648 * t0 - (2147483648 * a - b * x - c * y - d * z)) * z - (2147483648 * t1 - (2147483648 * b + a * x + c * z - d * y)) * y + (2147483648 * t2 - (2147483648 * c + a * y - b * z + d * x)) * x) + 2147483648 * (2147483648 * (2 * (c3 * m) - 2251799813685248 * t3) - (2 * (c0 * m) - 2251799813685248 * t0) * z - (2 * (c1 * m) - 2251799813685248 * t1) * y + (2 * (c2 * m) - 2251799813685248 * t2) * x) + 4294967296 * (m * (2147483648 * s3 - (2147483648 * c3 - c0 * z - c1 * y + c2 * x)))) (e' := 2 * (d3 * m') - 2251799813685248 * s3) hM0 A3 bW G hd' ?_ (by omega) ?_ U3
    · rw [hW]
      rw [← l_ms, I3, l_my]
      rfl
    · generalize m * (2147483648 * s3 - (2147483648 * c3 - c0 * z - c1 * y + c2 * x)) = Y at *
      generalize 2147483648 * (2147483648 * t3 - (2147483648 * d + a * z + b * y - c * x)) - (2147483648 * t0 - (2147483648 * a - b * x - c * y - d * z)) * z - (2147483648 * t1 - (2147483648 * b + a * x + c * z - d * y)) * y + (2147483648 * t2 - (2147483648 * c + a * y - b * z + d * x)) * x = Y1 at *
      generalize 2147483648 * (2 * (c3 * m) - 2251799813685248 * t3) - (2 * (c0 * m) - 2251799813685248 * t0) * z - (2 * (c1 * m) - 2251799813685248 * t1) * y + (2 * (c2 * m) - 2251799813685248 * t2) * x = Y2 at *
      omega
  exact ⟨J0, J1, J2, J3⟩
end Go.Proofs.YtmbdcgijjpcppaaGreat
