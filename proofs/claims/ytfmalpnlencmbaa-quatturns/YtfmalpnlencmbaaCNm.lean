/- Plain numbers: a vector that is turned twice. -/
import Derived.Test.YtfmalpnlencmbaaMg23
namespace Go.Proofs.Ytfmalpnlencmbaa
open Go.RowKit Go.Shelf

theorem tnx_comp (a b c d x y z t u v s : Int) : tnx a b c d (tnx x y z t u v s) (tny x y z t u v s) (tnz x y z t u v s) = tnx (qw a b c d x y z t) (qx a b c d x y z t) (qy a b c d x y z t) (qz a b c d x y z t) u v s := by
  rw [tnx_eq, tnx_eq, tny_eq, tnz_eq, tnx_eq]; unfold qw qx qy qz; grind
theorem tny_comp (a b c d x y z t u v s : Int) : tny a b c d (tnx x y z t u v s) (tny x y z t u v s) (tnz x y z t u v s) = tny (qw a b c d x y z t) (qx a b c d x y z t) (qy a b c d x y z t) (qz a b c d x y z t) u v s := by
  rw [tny_eq, tnx_eq, tny_eq, tnz_eq, tny_eq]; unfold qw qx qy qz; grind
theorem tnz_comp (a b c d x y z t u v s : Int) : tnz a b c d (tnx x y z t u v s) (tny x y z t u v s) (tnz x y z t u v s) = tnz (qw a b c d x y z t) (qx a b c d x y z t) (qy a b c d x y z t) (qz a b c d x y z t) u v s := by
  rw [tnz_eq, tnx_eq, tny_eq, tnz_eq, tnz_eq]; unfold qw qx qy qz; grind
/-- m (0, v) conj(f) -/
def mix (q : Int → Int → Int → Int → Int → Int → Int → Int → Int) (a b c d e f g h u v s : Int) : Int := q a b c d (qw 0 u v s e (-f) (-g) (-h)) (qx 0 u v s e (-f) (-g) (-h)) (qy 0 u v s e (-f) (-g) (-h)) (qz 0 u v s e (-f) (-g) (-h))
theorem tnx_add (a b c d e f g h u v s : Int) : tnx (a + e) (b + f) (c + g) (d + h) u v s = tnx a b c d u v s + 2 * mix qx a b c d e f g h u v s + tnx e f g h u v s := by
  rw [tnx_eq, tnx_eq, tnx_eq]; unfold mix qx qw qy qz; grind
theorem tny_add (a b c d e f g h u v s : Int) : tny (a + e) (b + f) (c + g) (d + h) u v s = tny a b c d u v s + 2 * mix qy a b c d e f g h u v s + tny e f g h u v s := by
  rw [tny_eq, tny_eq, tny_eq]; unfold mix qx qw qy qz; grind
theorem tnz_add (a b c d e f g h u v s : Int) : tnz (a + e) (b + f) (c + g) (d + h) u v s = tnz a b c d u v s + 2 * mix qz a b c d e f g h u v s + tnz e f g h u v s := by
  rw [tnz_eq, tnz_eq, tnz_eq]; unfold mix qx qw qy qz; grind
theorem mix_sq (a b c d e f g h u v s : Int) : mix qw a b c d e f g h u v s * mix qw a b c d e f g h u v s + mix qx a b c d e f g h u v s * mix qx a b c d e f g h u v s + mix qy a b c d e f g h u v s * mix qy a b c d e f g h u v s + mix qz a b c d e f g h u v s * mix qz a b c d e f g h u v s = (a * a + b * b + c * c + d * d) * ((u * u + v * v + s * s) * (e * e + f * f + g * g + h * h)) := by
  unfold mix
  rw [quat_sq a b c d, quat_sq 0 u v s]
  grind
theorem ip_sq (a b c d e f g h : Int) : (a * e + b * f + c * g + d * h) * (a * e + b * f + c * g + d * h) ≤ (a * a + b * b + c * c + d * d) * (e * e + f * f + g * g + h * h) := by
  have h1 := quat_sq a b c d e (-f) (-g) (-h)
  have e1 : qw a b c d e (-f) (-g) (-h) = a * e + b * f + c * g + d * h := by unfold qw; grind
  have e2 : e * e + -f * -f + -g * -g + -h * -h = e * e + f * f + g * g + h * h := by grind
  rw [e1, e2] at h1
  have s1 := sq_nonneg (qx a b c d e (-f) (-g) (-h)); have s2 := sq_nonneg (qy a b c d e (-f) (-g) (-h)); have s3 := sq_nonneg (qz a b c d e (-f) (-g) (-h))
  omega
theorem abs_of_sq {p m : Int} (hm : 0 ≤ m) (h : p * p ≤ m * m) : -m ≤ p ∧ p ≤ m := by
  have := lt_of_sq (p := p) (m := m + 1) (by
    have e : (m + 1) * (m + 1) = m * m + 2 * m + 1 := by grind
    omega)
  omega
/-- a number by one from 0 on, within bounds -/
theorem mul_bounds {n p B : Int} (hn : 0 ≤ n) (h : -B ≤ p ∧ p ≤ B) : -(n * B) ≤ n * p ∧ n * p ≤ n * B := by
  constructor
  · rw [← Int.mul_neg]; exact Int.mul_le_mul_of_nonneg_left h.1 hn
  · exact Int.mul_le_mul_of_nonneg_left h.2 hn
/-- by quaternions that are near one another a vector is turned nearly alike -/
theorem rot_close (tq tm P tf nm nq ip nf nv : Int) (h1 : tq = tm + 2 * P + tf) (h2 : nq = nm + 2 * ip + nf)
    (hm : 0 < nm) (hm2 : nm ≤ 1152921506754330632 * 1152921506754330632) (hf : 0 ≤ nf) (hf2 : nf ≤ 1152921504606846976) (hv : 0 ≤ nv) (hv2 : nv ≤ 3 * 1152921504606846976)
    (hP : P * P ≤ nm * (nv * nf)) (htf : tf * tf ≤ nf * nf * nv) (htm : tm * tm ≤ nm * nm * nv) (hip : ip * ip ≤ nm * nf)
    (hq : 1152921504606846976 * 1152921498164395976 ≤ nq) : -(8 * (nm * nq)) ≤ tq * nm - tm * nq ∧ tq * nm - tm * nq ≤ 8 * (nm * nq) := by
  have vf : nv * nf ≤ 3 * 1152921504606846976 * 1152921504606846976 := Int.mul_le_mul hv2 hf2 hf (by omega)
  have vf0 : 0 ≤ nv * nf := Int.mul_nonneg hv hf
  have p1 : nm * (nv * nf) ≤ 1152921506754330632 * 1152921506754330632 * (3 * 1152921504606846976 * 1152921504606846976) := Int.mul_le_mul hm2 vf vf0 (by omega)
  have bP := abs_of_sq (p := 4 * P) (m := 7 * (1152921506754330632 * 1152921504606846976)) (by omega) (by
    have e : 4 * P * (4 * P) = 16 * (P * P) := by grind
    omega)
  have ff : nf * nf ≤ 1152921504606846976 * 1152921504606846976 := Int.mul_le_mul hf2 hf2 hf (by omega)
  have p2 : nf * nf * nv ≤ 1152921504606846976 * 1152921504606846976 * (3 * 1152921504606846976) := Int.mul_le_mul ff hv2 hv (by omega)
  have btf := abs_of_sq (p := 4 * tf) (m := 7 * (1152921504606846976 * 1073741824)) (by omega) (by
    have e : 4 * tf * (4 * tf) = 16 * (tf * tf) := by grind
    omega)
  have mm0 : 0 ≤ nm * nm := sq_nonneg nm
  have p3 : nm * nm * nv ≤ nm * nm * (3 * 1152921504606846976) := Int.mul_le_mul_of_nonneg_left hv2 mm0
  have btm := abs_of_sq (p := 4 * tm) (m := 7 * 1073741824 * nm) (by omega) (by
    have e : 4 * tm * (4 * tm) = 16 * (tm * tm) := by grind
    have e2 : 7 * 1073741824 * nm * (7 * 1073741824 * nm) = 49 * 1152921504606846976 * (nm * nm) := by grind
    omega)
  have p4 : nm * nf ≤ 1152921506754330632 * 1152921506754330632 * 1152921504606846976 := Int.mul_le_mul hm2 hf2 hf (by omega)
  have bip := abs_of_sq (p := ip) (m := 1152921506754330632 * 1073741824) (by omega) (by omega)
  -- the difference
  have e : 4 * (tq * nm - tm * nq) = nm * (4 * (2 * P + tf)) - 4 * tm * (2 * ip + nf) := by rw [h1, h2]; grind
  have d1 := mul_bounds (n := nm) (p := 4 * (2 * P + tf)) (B := 2 * (7 * (1152921506754330632 * 1152921504606846976)) + 7 * (1152921504606846976 * 1073741824)) (by omega) (by omega)
  have bs : -(2 * (1152921506754330632 * 1073741824) + 1152921504606846976) ≤ 2 * ip + nf ∧ 2 * ip + nf ≤ 2 * (1152921506754330632 * 1073741824) + 1152921504606846976 := by omega
  have d2 : -(7 * 1073741824 * nm * (2 * (1152921506754330632 * 1073741824) + 1152921504606846976)) ≤ 4 * tm * (2 * ip + nf) ∧ 4 * tm * (2 * ip + nf) ≤ 7 * 1073741824 * nm * (2 * (1152921506754330632 * 1073741824) + 1152921504606846976) := by
    have h := mul_abs (m := 4 * tm) bs.1 bs.2
    have l : ((4 * tm).natAbs : Int) ≤ 7 * 1073741824 * nm := by omega
    have l2 := Int.mul_le_mul_of_nonneg_right (c := 2 * (1152921506754330632 * 1073741824) + 1152921504606846976) l (by omega)
    omega
  have d3 : nm * (1152921504606846976 * 1152921498164395976) ≤ nm * nq := Int.mul_le_mul_of_nonneg_left hq (by omega)
  generalize nm * nq = X at *
  omega
/-- what is turned twice, rounded both times, against what is turned at once -/
theorem chain_num (x t Tc Tm Ta nc nm na nb : Int) (hc : 0 < nc) (ha : 0 < na) (hb : 0 < nb) (hnm : nm = na * nb)
    (hx : IsNear Tc nc x) (ht : IsNear Ta na t) (h1 : -(8 * (nm * nc)) ≤ Tc * nm - Tm * nc ∧ Tc * nm - Tm * nc ≤ 8 * (nm * nc)) (h2 : -(7 * nm) ≤ 8 * (Ta * nb - Tm) ∧ 8 * (Ta * nb - Tm) ≤ 7 * nm) : x - t ≤ 16 ∧ t - x ≤ 16 := by
  have hm : 0 < nm := by rw [hnm]; exact Int.mul_pos ha hb
  have ax := mul_bounds (n := nm) (p := 2 * (Tc - x * nc)) (B := nc) (by omega) ⟨hx.1, hx.2.1⟩
  have at' := mul_bounds (n := nb) (p := 2 * (Ta - t * na)) (B := na) (by omega) ⟨ht.1, ht.2.1⟩
  have e1 : nb * (2 * (Ta - t * na)) = 2 * (Ta * nb) - 2 * (t * nm) := by rw [hnm]; grind
  have e2 : nb * na = nm := by rw [hnm, Int.mul_comm]
  rw [e1, e2] at at'
  have b : -(11 * nm) ≤ 8 * (Tm - t * nm) ∧ 8 * (Tm - t * nm) ≤ 11 * nm := by omega
  have bb := mul_bounds (n := nc) (by omega) b
  have key : 8 * ((x - t) * (nm * nc)) = 8 * (Tc * nm - Tm * nc) - 4 * (nm * (2 * (Tc - x * nc))) + nc * (8 * (Tm - t * nm)) := by grind
  have e3 : nc * (11 * nm) = 11 * (nm * nc) := by grind
  have pos : 0 < nm * nc := Int.mul_pos hm hc
  rw [e3] at bb
  have f1 : (x - t) * (nm * nc) ≤ 10 * (nm * nc) := by omega
  have f2 : -10 * (nm * nc) ≤ (x - t) * (nm * nc) := by omega
  have g1 := Int.le_of_mul_le_mul_right f1 pos
  have g2 := Int.le_of_mul_le_mul_right f2 pos
  omega
end Go.Proofs.Ytfmalpnlencmbaa
