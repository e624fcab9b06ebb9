/- Plain numbers: a vector that is turned twice, rounded each time, against what is turned at once. -/
import Derived.Test.YtfmalpnlencmbaaCNm
namespace Go.Proofs.Ytfmalpnlencmbaa
open Go.RowKit Go.Shelf

theorem tnx_scale (r a b c d u v s : Int) : tnx (r * a) (r * b) (r * c) (r * d) u v s = r * r * tnx a b c d u v s := by rw [tnx_eq, tnx_eq]; grind
theorem tny_scale (r a b c d u v s : Int) : tny (r * a) (r * b) (r * c) (r * d) u v s = r * r * tny a b c d u v s := by rw [tny_eq, tny_eq]; grind
theorem tnz_scale (r a b c d u v s : Int) : tnz (r * a) (r * b) (r * c) (r * d) u v s = r * r * tnz a b c d u v s := by rw [tnz_eq, tnz_eq]; grind
theorem tnx_lin (a b c d n x y z u v s : Int) : tnx a b c d x y z * n - tnx a b c d u v s = tnx a b c d (x * n - u) (y * n - v) (z * n - s) := by rw [tnx_eq, tnx_eq, tnx_eq]; grind
theorem tny_lin (a b c d n x y z u v s : Int) : tny a b c d x y z * n - tny a b c d u v s = tny a b c d (x * n - u) (y * n - v) (z * n - s) := by rw [tny_eq, tny_eq, tny_eq]; grind
theorem tnz_lin (a b c d n x y z u v s : Int) : tnz a b c d x y z * n - tnz a b c d u v s = tnz a b c d (x * n - u) (y * n - v) (z * n - s) := by rw [tnz_eq, tnz_eq, tnz_eq]; grind
/-- what is left of a rounding, turned -/
theorem left_close (na nb p g0 g1 g2 : Int) (hb : 0 < nb) (h0 : -nb ≤ 2 * g0 ∧ 2 * g0 ≤ nb) (h1 : -nb ≤ 2 * g1 ∧ 2 * g1 ≤ nb) (h2 : -nb ≤ 2 * g2 ∧ 2 * g2 ≤ nb) (ha : 0 < na) (hp : p * p ≤ na * na * (g0 * g0 + g1 * g1 + g2 * g2)) : -(7 * (na * nb)) ≤ 8 * p ∧ 8 * p ≤ 7 * (na * nb) := by
  have sq : ∀ g : Int, -nb ≤ 2 * g ∧ 2 * g ≤ nb → 4 * (g * g) ≤ nb * nb := fun g hg => by
    have h := mul_abs (m := 2 * g) hg.1 hg.2
    have e : 2 * g * (2 * g) = 4 * (g * g) := by grind
    have l : ((2 * g).natAbs : Int) ≤ nb := by omega
    have l2 := Int.mul_le_mul_of_nonneg_right (c := nb) l (by omega)
    omega
  have s0 := sq g0 h0; have s1 := sq g1 h1; have s2 := sq g2 h2
  have pos : 0 ≤ na * na := sq_nonneg na
  have m1 : na * na * (4 * (g0 * g0 + g1 * g1 + g2 * g2)) ≤ na * na * (3 * (nb * nb)) := Int.mul_le_mul_of_nonneg_left (by omega) pos
  have e1 : na * na * (4 * (g0 * g0 + g1 * g1 + g2 * g2)) = 4 * (na * na * (g0 * g0 + g1 * g1 + g2 * g2)) := by grind
  have e2 : na * na * (3 * (nb * nb)) = 3 * (na * nb * (na * nb)) := by grind
  have e3 : 8 * p * (8 * p) = 64 * (p * p) := by grind
  have e4 : 7 * (na * nb) * (7 * (na * nb)) = 49 * (na * nb * (na * nb)) := by grind
  have nn := sq_nonneg (na * nb)
  have q : 0 < na * nb := Int.mul_pos ha hb
  exact abs_of_sq (p := 8 * p) (m := 7 * (na * nb)) (by omega) (by omega)
theorem le_sum3 (p q r : Int) : p * p ≤ p * p + q * q + r * r ∧ q * q ≤ p * p + q * q + r * r ∧ r * r ≤ p * p + q * q + r * r := by
  have := sq_nonneg p; have := sq_nonneg q; have := sq_nonneg r
  refine ⟨?_, ?_, ?_⟩ <;> omega
theorem tn_le (a b c d x y z : Int) : tnx a b c d x y z * tnx a b c d x y z ≤ (a * a + b * b + c * c + d * d) * (a * a + b * b + c * c + d * d) * (x * x + y * y + z * z) ∧ tny a b c d x y z * tny a b c d x y z ≤ (a * a + b * b + c * c + d * d) * (a * a + b * b + c * c + d * d) * (x * x + y * y + z * z) ∧ tnz a b c d x y z * tnz a b c d x y z ≤ (a * a + b * b + c * c + d * d) * (a * a + b * b + c * c + d * d) * (x * x + y * y + z * z) := by
  rw [← tn_sq]; exact le_sum3 _ _ _
theorem mix_le (a b c d e f g h u v s : Int) : mix qx a b c d e f g h u v s * mix qx a b c d e f g h u v s ≤ (a * a + b * b + c * c + d * d) * ((u * u + v * v + s * s) * (e * e + f * f + g * g + h * h)) ∧ mix qy a b c d e f g h u v s * mix qy a b c d e f g h u v s ≤ (a * a + b * b + c * c + d * d) * ((u * u + v * v + s * s) * (e * e + f * f + g * g + h * h)) ∧ mix qz a b c d e f g h u v s * mix qz a b c d e f g h u v s ≤ (a * a + b * b + c * c + d * d) * ((u * u + v * v + s * s) * (e * e + f * f + g * g + h * h)) := by
  rw [← mix_sq]
  have := sq_nonneg (mix qw a b c d e f g h u v s); have := sq_nonneg (mix qx a b c d e f g h u v s); have := sq_nonneg (mix qy a b c d e f g h u v s); have := sq_nonneg (mix qz a b c d e f g h u v s)
  refine ⟨?_, ?_, ?_⟩ <;> omega
theorem sq_le_of {f C : Int} (h : -C ≤ f ∧ f ≤ C) (hC : 0 ≤ C) : f * f ≤ C * C := by
  have h1 := mul_abs (m := f) h.1 h.2
  have l : (f.natAbs : Int) ≤ C := by omega
  have l2 := Int.mul_le_mul_of_nonneg_right (c := C) l hC
  omega
/-- by a rounded product of units a vector is turned nearly as by the product -/
theorem round_close (m0 m1 m2 m3 c0 c1 c2 c3 u v s nm : Int) (n0 : IsNear m0 1073741824 c0) (n1 : IsNear m1 1073741824 c1) (n2 : IsNear m2 1073741824 c2) (n3 : IsNear m3 1073741824 c3)
    (hnm : m0 * m0 + m1 * m1 + m2 * m2 + m3 * m3 = nm) (hm : 0 < nm) (hm2 : nm ≤ 1152921506754330632 * 1152921506754330632) (hc : 1152921498164395976 ≤ c0 * c0 + c1 * c1 + c2 * c2 + c3 * c3)
    (hu : -1073741824 ≤ u ∧ u ≤ 1073741824) (hv : -1073741824 ≤ v ∧ v ≤ 1073741824) (hs : -1073741824 ≤ s ∧ s ≤ 1073741824) :
    (-(8 * (nm * (c0 * c0 + c1 * c1 + c2 * c2 + c3 * c3))) ≤ tnx c0 c1 c2 c3 u v s * nm - tnx m0 m1 m2 m3 u v s * (c0 * c0 + c1 * c1 + c2 * c2 + c3 * c3) ∧ tnx c0 c1 c2 c3 u v s * nm - tnx m0 m1 m2 m3 u v s * (c0 * c0 + c1 * c1 + c2 * c2 + c3 * c3) ≤ 8 * (nm * (c0 * c0 + c1 * c1 + c2 * c2 + c3 * c3))) ∧
    (-(8 * (nm * (c0 * c0 + c1 * c1 + c2 * c2 + c3 * c3))) ≤ tny c0 c1 c2 c3 u v s * nm - tny m0 m1 m2 m3 u v s * (c0 * c0 + c1 * c1 + c2 * c2 + c3 * c3) ∧ tny c0 c1 c2 c3 u v s * nm - tny m0 m1 m2 m3 u v s * (c0 * c0 + c1 * c1 + c2 * c2 + c3 * c3) ≤ 8 * (nm * (c0 * c0 + c1 * c1 + c2 * c2 + c3 * c3))) ∧
    (-(8 * (nm * (c0 * c0 + c1 * c1 + c2 * c2 + c3 * c3))) ≤ tnz c0 c1 c2 c3 u v s * nm - tnz m0 m1 m2 m3 u v s * (c0 * c0 + c1 * c1 + c2 * c2 + c3 * c3) ∧ tnz c0 c1 c2 c3 u v s * nm - tnz m0 m1 m2 m3 u v s * (c0 * c0 + c1 * c1 + c2 * c2 + c3 * c3) ≤ 8 * (nm * (c0 * c0 + c1 * c1 + c2 * c2 + c3 * c3))) := by
  obtain ⟨f0, e0⟩ : ∃ f, f = 1073741824 * c0 - m0 := ⟨_, rfl⟩
  obtain ⟨f1, e1⟩ : ∃ f, f = 1073741824 * c1 - m1 := ⟨_, rfl⟩
  obtain ⟨f2, e2⟩ : ∃ f, f = 1073741824 * c2 - m2 := ⟨_, rfl⟩
  obtain ⟨f3, e3⟩ : ∃ f, f = 1073741824 * c3 - m3 := ⟨_, rfl⟩
  have b0 : -536870912 ≤ f0 ∧ f0 ≤ 536870912 := by have := n0.1; have := n0.2.1; omega
  have b1 : -536870912 ≤ f1 ∧ f1 ≤ 536870912 := by have := n1.1; have := n1.2.1; omega
  have b2 : -536870912 ≤ f2 ∧ f2 ≤ 536870912 := by have := n2.1; have := n2.2.1; omega
  have b3 : -536870912 ≤ f3 ∧ f3 ≤ 536870912 := by have := n3.1; have := n3.2.1; omega
  have g0 := sq_le_of b0 (by omega); have g1 := sq_le_of b1 (by omega); have g2 := sq_le_of b2 (by omega); have g3 := sq_le_of b3 (by omega)
  have z0 := sq_nonneg f0; have z1 := sq_nonneg f1; have z2 := sq_nonneg f2; have z3 := sq_nonneg f3
  have gu := sq_le_of hu (by omega); have gv := sq_le_of hv (by omega); have gs := sq_le_of hs (by omega)
  have zu := sq_nonneg u; have zv := sq_nonneg v; have zs := sq_nonneg s
  have a0 : 1073741824 * c0 = m0 + f0 := by omega
  have a1 : 1073741824 * c1 = m1 + f1 := by omega
  have a2 : 1073741824 * c2 = m2 + f2 := by omega
  have a3 : 1073741824 * c3 = m3 + f3 := by omega
  have nq : 1152921504606846976 * (c0 * c0 + c1 * c1 + c2 * c2 + c3 * c3) = nm + 2 * (m0 * f0 + m1 * f1 + m2 * f2 + m3 * f3) + (f0 * f0 + f1 * f1 + f2 * f2 + f3 * f3) := by
    rw [← hnm, e0, e1, e2, e3]; grind
  have ip := ip_sq m0 m1 m2 m3 f0 f1 f2 f3
  have tf := tn_le f0 f1 f2 f3 u v s
  have tm := tn_le m0 m1 m2 m3 u v s
  have mx := mix_le m0 m1 m2 m3 f0 f1 f2 f3 u v s
  have tx := tnx_scale 1073741824 c0 c1 c2 c3 u v s
  have ty := tny_scale 1073741824 c0 c1 c2 c3 u v s
  have tz := tnz_scale 1073741824 c0 c1 c2 c3 u v s
  rw [a0, a1, a2, a3] at tx ty tz
  rw [tnx_add] at tx
  rw [tny_add] at ty
  rw [tnz_add] at tz
  rw [hnm] at ip tm mx
  clear e0 e1 e2 e3 a0 a1 a2 a3 n0 n1 n2 n3 b0 b1 b2 b3 hu hv hs hnm
  generalize c0 * c0 + c1 * c1 + c2 * c2 + c3 * c3 = nc at *
  have fin : ∀ T M : Int, -(8 * (nm * (1152921504606846976 * nc))) ≤ 1152921504606846976 * T * nm - M * (1152921504606846976 * nc) ∧ 1152921504606846976 * T * nm - M * (1152921504606846976 * nc) ≤ 8 * (nm * (1152921504606846976 * nc)) → -(8 * (nm * nc)) ≤ T * nm - M * nc ∧ T * nm - M * nc ≤ 8 * (nm * nc) := by
    intro T M h
    have q1 : nm * (1152921504606846976 * nc) = 1152921504606846976 * (nm * nc) := by grind
    have q2 : 1152921504606846976 * T * nm = 1152921504606846976 * (T * nm) := by grind
    have q3 : M * (1152921504606846976 * nc) = 1152921504606846976 * (M * nc) := by grind
    rw [q1, q2, q3] at h
    omega
  refine ⟨fin _ _ ?_, fin _ _ ?_, fin _ _ ?_⟩
  · exact rot_close _ _ (mix qx m0 m1 m2 m3 f0 f1 f2 f3 u v s) (tnx f0 f1 f2 f3 u v s) nm _ (m0 * f0 + m1 * f1 + m2 * f2 + m3 * f3) (f0 * f0 + f1 * f1 + f2 * f2 + f3 * f3) (u * u + v * v + s * s) (by rw [tx]; rfl) nq hm hm2 (by omega) (by omega) (by omega) (by omega) mx.1 tf.1 tm.1 ip (by omega)
  · exact rot_close _ _ (mix qy m0 m1 m2 m3 f0 f1 f2 f3 u v s) (tny f0 f1 f2 f3 u v s) nm _ (m0 * f0 + m1 * f1 + m2 * f2 + m3 * f3) (f0 * f0 + f1 * f1 + f2 * f2 + f3 * f3) (u * u + v * v + s * s) (by rw [ty]; rfl) nq hm hm2 (by omega) (by omega) (by omega) (by omega) mx.2.1 tf.2.1 tm.2.1 ip (by omega)
  · exact rot_close _ _ (mix qz m0 m1 m2 m3 f0 f1 f2 f3 u v s) (tnz f0 f1 f2 f3 u v s) nm _ (m0 * f0 + m1 * f1 + m2 * f2 + m3 * f3) (f0 * f0 + f1 * f1 + f2 * f2 + f3 * f3) (u * u + v * v + s * s) (by rw [tz]; rfl) nq hm hm2 (by omega) (by omega) (by omega) (by omega) mx.2.2 tf.2.2 tm.2.2 ip (by omega)
theorem near_left {T n x : Int} (h : IsNear T n x) : -n ≤ 2 * (x * n - T) ∧ 2 * (x * n - T) ≤ n := by have := h.1; have := h.2.1; omega
theorem chain_close (a b c d x y z t u v s : Int) (C0 C1 C2 C3 X0 X1 X2 Y0 Y1 Y2 T0 T1 T2 nA nB nC : Int)
    (eA : nA = a * a + b * b + c * c + d * d) (eB : nB = x * x + y * y + z * z + t * t) (eC : nC = C0 * C0 + C1 * C1 + C2 * C2 + C3 * C3)
    (hA : 1152921504606846976 - 2147483657 ≤ nA ∧ nA ≤ 1152921504606846976 + 2147483656) (hB : 1152921504606846976 - 2147483657 ≤ nB ∧ nB ≤ 1152921504606846976 + 2147483656) (hC : 1152921504606846976 - 6442451000 ≤ nC)
    (n0 : IsNear (qw a b c d x y z t) 1073741824 C0) (n1 : IsNear (qx a b c d x y z t) 1073741824 C1) (n2 : IsNear (qy a b c d x y z t) 1073741824 C2) (n3 : IsNear (qz a b c d x y z t) 1073741824 C3)
    (hu : -1073741824 ≤ u ∧ u ≤ 1073741824) (hv : -1073741824 ≤ v ∧ v ≤ 1073741824) (hs : -1073741824 ≤ s ∧ s ≤ 1073741824)
    (x0 : IsNear (tnx C0 C1 C2 C3 u v s) nC X0) (x1 : IsNear (tny C0 C1 C2 C3 u v s) nC X1) (x2 : IsNear (tnz C0 C1 C2 C3 u v s) nC X2)
    (y0 : IsNear (tnx x y z t u v s) nB Y0) (y1 : IsNear (tny x y z t u v s) nB Y1) (y2 : IsNear (tnz x y z t u v s) nB Y2)
    (t0 : IsNear (tnx a b c d Y0 Y1 Y2) nA T0) (t1 : IsNear (tny a b c d Y0 Y1 Y2) nA T1) (t2 : IsNear (tnz a b c d Y0 Y1 Y2) nA T2) :
    (X0 - T0 ≤ 16 ∧ T0 - X0 ≤ 16) ∧ (X1 - T1 ≤ 16 ∧ T1 - X1 ≤ 16) ∧ (X2 - T2 ≤ 16 ∧ T2 - X2 ≤ 16) := by
  have hnm : qw a b c d x y z t * qw a b c d x y z t + qx a b c d x y z t * qx a b c d x y z t + qy a b c d x y z t * qy a b c d x y z t + qz a b c d x y z t * qz a b c d x y z t = nA * nB := by rw [quat_sq, eA, eB]
  have pm : 0 < nA * nB := Int.mul_pos (by omega) (by omega)
  have pm2 : nA * nB ≤ 1152921506754330632 * 1152921506754330632 := Int.mul_le_mul (by omega) (by omega) (by omega) (by omega)
  have rc := round_close _ _ _ _ _ _ _ _ u v s _ n0 n1 n2 n3 hnm pm pm2 (by omega) hu hv hs
  rw [← eC] at rc
  have cx := tnx_comp a b c d x y z t u v s
  have cy := tny_comp a b c d x y z t u v s
  have cz := tnz_comp a b c d x y z t u v s
  have lx := tnx_lin a b c d nB Y0 Y1 Y2 (tnx x y z t u v s) (tny x y z t u v s) (tnz x y z t u v s)
  have ly := tny_lin a b c d nB Y0 Y1 Y2 (tnx x y z t u v s) (tny x y z t u v s) (tnz x y z t u v s)
  have lz := tnz_lin a b c d nB Y0 Y1 Y2 (tnx x y z t u v s) (tny x y z t u v s) (tnz x y z t u v s)
  have tl := tn_le a b c d (Y0 * nB - tnx x y z t u v s) (Y1 * nB - tny x y z t u v s) (Y2 * nB - tnz x y z t u v s)
  rw [← eA] at tl
  have w0 := left_close nA nB _ _ _ _ (by omega) (near_left y0) (near_left y1) (near_left y2) (by omega) tl.1
  have w1 := left_close nA nB _ _ _ _ (by omega) (near_left y0) (near_left y1) (near_left y2) (by omega) tl.2.1
  have w2 := left_close nA nB _ _ _ _ (by omega) (near_left y0) (near_left y1) (near_left y2) (by omega) tl.2.2
  rw [← lx, cx] at w0
  rw [← ly, cy] at w1
  rw [← lz, cz] at w2
  exact ⟨chain_num X0 T0 _ _ _ nC (nA * nB) nA nB (by omega) (by omega) (by omega) rfl x0 t0 rc.1 w0, chain_num X1 T1 _ _ _ nC (nA * nB) nA nB (by omega) (by omega) (by omega) rfl x1 t1 rc.2.1 w1, chain_num X2 T2 _ _ _ nC (nA * nB) nA nB (by omega) (by omega) (by omega) rfl x2 t2 rc.2.2 w2⟩
end Go.Proofs.Ytfmalpnlencmbaa
