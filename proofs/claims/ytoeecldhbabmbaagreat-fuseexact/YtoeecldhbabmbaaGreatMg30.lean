/- fuse: what Spin, Up and North tell, of anything. What the statements of layer 15 share. What the statements of layer 3 share: a list of Two, May, num, wakes. -/
import Derived.Test.YtoeecldhbabmbaaGreatMg26
import Derived.Test.YtoeecldhbabmbaaGreatFuSm
import Derived.Test.YtoeecldhbabmbaaGreatFuUm
import Derived.Test.YtoeecldhbabmbaaGreatFuNom
import Derived.Test.YtoeecldhbabmbaaGreatMg25
import Derived.Test.YtoeecldhbabmbaaGreatQ8m
import Derived.Deep.RegionHeld3
import Derived.Deep.DeepCutAuto
import Derived.Test.YtoeecldhbabmbaaGreatMg20
import Derived.Test.YtoeecldhbabmbaaGreatMg2
open Go.Value renaming int → J, agg → zG
open Go.IntKind renaming i64 → zq
open Go.Ending renaming returned → zR
open Go.Proofs.Tryz renaming prog → zP
namespace Go.Proofs.YtoeecldhbabmbaaGreat
open Go.RowKit Go.Shelf
def xp0 (b c d x y z : Int) : Int := -b * x - c * y - d * z
def xp1 (a c d x y z : Int) : Int := a * x + c * z - d * y
def xp2 (a b d x y z : Int) : Int := a * y - b * z + d * x
def xp3 (a b c x y z : Int) : Int := a * z + b * y - c * x
def half (p : Int) : Int := nearI p 2147483648
theorem okO_abs {a b c d : Int} (h : okO a b c d = true) : (-1073741828 ≤ a ∧ a ≤ 1073741828) ∧ (-1073741828 ≤ b ∧ b ≤ 1073741828) ∧ (-1073741828 ≤ c ∧ c ≤ 1073741828) ∧ (-1073741828 ≤ d ∧ d ≤ 1073741828) := by
  have := okO_iff.1 h
  omega
theorem rad3_abs {x y z : Int} (h : rad3 x y z = true) : (-1073741824 ≤ x ∧ x ≤ 1073741824) ∧ (-1073741824 ≤ y ∧ y ≤ 1073741824) ∧ (-1073741824 ≤ z ∧ z ≤ 1073741824) := by
  unfold rad3 at h
  simp only [Bool.and_eq_true, rad_iff] at h
  omega
theorem pr_le {a x : Int} (h : -1073741828 ≤ a ∧ a ≤ 1073741828) (k : -1073741824 ≤ x ∧ x ≤ 1073741824) : -1152921508901814272 ≤ a * x ∧ a * x ≤ 1152921508901814272 := by
  have := mul_le_of h.1 h.2 k.1 k.2
  omega
theorem exprod_any (a b c d x y z : Int) (w : World) (h : okO a b c d = true) (k : rad3 x y z = true) :
    Calls zP 80 #[zG #[J zq a, J zq b, J zq c, J zq d], zG #[J zq x, J zq y, J zq z]] w fun e w' => e = zR (zG #[J zq (xp0 b c d x y z), J zq (xp1 a c d x y z), J zq (xp2 a b d x y z), J zq (xp3 a b c x y z)]) ∧ Ext w w' := by
  obtain ⟨ha, hb, hc, hd⟩ := okO_abs h
  obtain ⟨hx, hy, hz⟩ := rad3_abs k
  have hn : -1073741828 ≤ -b ∧ -b ≤ 1073741828 := by omega
  have q0 := pr_le hn hx; have q1 := pr_le hc hy; have q2 := pr_le hd hz
  have q3 := pr_le ha hx; have q4 := pr_le hc hz; have q5 := pr_le hd hy
  have q6 := pr_le ha hy; have q7 := pr_le hb hz; have q8 := pr_le hd hx
  have q9 := pr_le ha hz; have q10 := pr_le hb hy; have q11 := pr_le hc hx
  exact exprod_raw a b c d x y z (-b) _ _ _ _ _ _ _ _ _ _ _ _ w rfl hn.1 hn.2 rfl rfl rfl rfl rfl rfl rfl rfl rfl rfl rfl rfl q0.1 q0.2 q1.1 q1.2 q2.1 q2.2 q3.1 q3.2 q4.1 q4.2 q5.1 q5.2 q6.1 q6.2 q7.1 q7.2 q8.1 q8.2 q9.1 q9.2 q10.1 q10.2 q11.1 q11.2
theorem xp_le {a b c d x y z : Int} (h : okO a b c d = true) (k : rad3 x y z = true) :
    (-3458764526705442816 ≤ xp0 b c d x y z ∧ xp0 b c d x y z ≤ 3458764526705442816) ∧ (-3458764526705442816 ≤ xp1 a c d x y z ∧ xp1 a c d x y z ≤ 3458764526705442816) ∧ (-3458764526705442816 ≤ xp2 a b d x y z ∧ xp2 a b d x y z ≤ 3458764526705442816) ∧ (-3458764526705442816 ≤ xp3 a b c x y z ∧ xp3 a b c x y z ≤ 3458764526705442816) := by
  obtain ⟨ha, hb, hc, hd⟩ := okO_abs h
  obtain ⟨hx, hy, hz⟩ := rad3_abs k
  have hn : -1073741828 ≤ -b ∧ -b ≤ 1073741828 := by omega
  have q0 := pr_le hn hx; have q1 := pr_le hc hy; have q2 := pr_le hd hz
  have q3 := pr_le ha hx; have q4 := pr_le hc hz; have q5 := pr_le hd hy
  have q6 := pr_le ha hy; have q7 := pr_le hb hz; have q8 := pr_le hd hx
  have q9 := pr_le ha hz; have q10 := pr_le hb hy; have q11 := pr_le hc hx
  unfold xp0 xp1 xp2 xp3
  omega
theorem half_le {p : Int} (h : -3458764526705442816 ≤ p ∧ p ≤ 3458764526705442816) : -1610612742 ≤ half p ∧ half p ≤ 1610612742 := near_abs (by decide) (by omega) (by omega)
theorem half_any (p : Int) (w : World) (h : -3458764526705442816 ≤ p ∧ p ≤ 3458764526705442816) :
    Calls zP 81 #[J zq p, J zq 2147483648] w fun e w' => e = zR (.tuple #[J zq (half p), J zq 0]) ∧ Ext w w' := by
  have H := ratio_any p 2147483648 w (by omega) (by omega) (by omega) (by omega)
  have hl := half_le h
  have e : shareR p 1 2147483648 = (half p, 0) := by
    rw [share_word p 1 2147483648 (half p) (by omega) (by rw [over_pos _ _ (by omega), Int.mul_one]; exact nearI_spec p 2147483648 (by decide)), okW_of (by omega) (by omega)]
    rfl
  rw [e] at H
  exact H
def sp0 (a b c d x y z : Int) : Int := a + half (xp0 b c d x y z)
def sp1 (a b c d x y z : Int) : Int := b + half (xp1 a c d x y z)
def sp2 (a b c d x y z : Int) : Int := c + half (xp2 a b d x y z)
def sp3 (a b c d x y z : Int) : Int := d + half (xp3 a b c x y z)
theorem sp_le {a b c d x y z : Int} (h : okO a b c d = true) (k : rad3 x y z = true) :
    (-2684354570 ≤ sp0 a b c d x y z ∧ sp0 a b c d x y z ≤ 2684354570) ∧ (-2684354570 ≤ sp1 a b c d x y z ∧ sp1 a b c d x y z ≤ 2684354570) ∧ (-2684354570 ≤ sp2 a b c d x y z ∧ sp2 a b c d x y z ≤ 2684354570) ∧ (-2684354570 ≤ sp3 a b c d x y z ∧ sp3 a b c d x y z ≤ 2684354570) := by
  obtain ⟨ha, hb, hc, hd⟩ := okO_abs h
  obtain ⟨e0, e1, e2, e3⟩ := xp_le h k
  have h0 := half_le e0; have h1 := half_le e1; have h2 := half_le e2; have h3 := half_le e3
  unfold sp0 sp1 sp2 sp3
  omega
theorem ok4_of {a b c d : Int} (ha : -35184372088832 < a ∧ a < 35184372088832) (hb : -35184372088832 < b ∧ b < 35184372088832) (hc : -35184372088832 < c ∧ c < 35184372088832) (hd : -35184372088832 < d ∧ d < 35184372088832) : ok4 a b c d = true := by
  unfold ok4; rw [okW_of ha.1 ha.2, okW_of hb.1 hb.2, okW_of hc.1 hc.2, okW_of hd.1 hd.2]; rfl
theorem ok3_of {a b c : Int} (ha : -35184372088832 < a ∧ a < 35184372088832) (hb : -35184372088832 < b ∧ b < 35184372088832) (hc : -35184372088832 < c ∧ c < 35184372088832) : ok3 a b c = true := by
  unfold ok3; rw [okW_of ha.1 ha.2, okW_of hb.1 hb.2, okW_of hc.1 hc.2]; rfl
theorem move_zero {a b c d t0 t1 t2 t3 p0 p1 p2 p3 D : Int} (h : okO a b c d = true) (hD : 0 < D) (hp : a * p0 + b * p1 + c * p2 + d * p3 = 0)
    (h0 : -D ≤ 2 * (D * t0 - D * a - p0) ∧ 2 * (D * t0 - D * a - p0) ≤ D) (h1 : -D ≤ 2 * (D * t1 - D * b - p1) ∧ 2 * (D * t1 - D * b - p1) ≤ D) (h2 : -D ≤ 2 * (D * t2 - D * c - p2) ∧ 2 * (D * t2 - D * c - p2) ≤ D) (h3 : -D ≤ 2 * (D * t3 - D * d - p3) ∧ 2 * (D * t3 - D * d - p3) ≤ D) :
    ¬ (t0 = 0 ∧ t1 = 0 ∧ t2 = 0 ∧ t3 = 0) := by
  rintro ⟨rfl, rfl, rfl, rfl⟩
  have hO := okO_iff.1 h
  obtain ⟨ha, hb, hc, hd, hs, _⟩ := hO
  have e : a * (2 * (D * 0 - D * a - p0)) + b * (2 * (D * 0 - D * b - p1)) + c * (2 * (D * 0 - D * c - p2)) + d * (2 * (D * 0 - D * d - p3)) = -(D * (2 * (a * a + b * b + c * c + d * d))) := by grind
  have m0 := mul_le_of ha.1 ha.2 h0.1 h0.2
  have m1 := mul_le_of hb.1 hb.2 h1.1 h1.2
  have m2 := mul_le_of hc.1 hc.2 h2.1 h2.2
  have m3 := mul_le_of hd.1 hd.2 h3.1 h3.2
  have g : D * 2305842992033824800 ≤ D * (2 * (a * a + b * b + c * c + d * d)) := Int.mul_le_mul_of_nonneg_left (by omega) (by omega)
  omega
theorem sp_zero {a b c d x y z : Int} (h : okO a b c d = true) : ¬ (sp0 a b c d x y z = 0 ∧ sp1 a b c d x y z = 0 ∧ sp2 a b c d x y z = 0 ∧ sp3 a b c d x y z = 0) := by
  have n0 := nearI_spec (xp0 b c d x y z) 2147483648 (by decide)
  have n1 := nearI_spec (xp1 a c d x y z) 2147483648 (by decide)
  have n2 := nearI_spec (xp2 a b d x y z) 2147483648 (by decide)
  have n3 := nearI_spec (xp3 a b c x y z) 2147483648 (by decide)
  refine move_zero (p0 := xp0 b c d x y z) (p1 := xp1 a c d x y z) (p2 := xp2 a b d x y z) (p3 := xp3 a b c x y z) (D := 2147483648) h (by decide) (by unfold xp0 xp1 xp2 xp3; grind) ?_ ?_ ?_ ?_
  · obtain ⟨g1, g2, _⟩ := n0; unfold sp0 half; omega
  · obtain ⟨g1, g2, _⟩ := n1; unfold sp1 half; omega
  · obtain ⟨g1, g2, _⟩ := n2; unfold sp2 half; omega
  · obtain ⟨g1, g2, _⟩ := n3; unfold sp3 half; omega
theorem qunit_told {a b c d u0 u1 u2 u3 : Int} (w : World) (h : ok4 a b c d = true) (hz : ¬ (a = 0 ∧ b = 0 ∧ c = 0 ∧ d = 0)) (hu : UnitQ a b c d u0 u1 u2 u3) :
    Calls zP 78 #[zG #[J zq a, J zq b, J zq c, J zq d]] w fun e w' => e = zR (.tuple #[zG #[J zq u0, J zq u1, J zq u2, J zq u3], J zq 0]) ∧ Ext w w' := by
  obtain ⟨k0, k1, k2, k3, q0, q1, q2, q3, rfl, rfl, rfl, rfl⟩ := hu
  exact qUnit_yes a b c d k0 k1 k2 k3 w h hz q0 q1 q2 q3
def SpinD (a b c d x y z u0 u1 u2 u3 : Int) : Prop := UnitQ (sp0 a b c d x y z) (sp1 a b c d x y z) (sp2 a b c d x y z) (sp3 a b c d x y z) u0 u1 u2 u3
theorem spinD_ex {a b c d : Int} (x y z : Int) (h : okO a b c d = true) : ∃ u0 u1 u2 u3, SpinD a b c d x y z u0 u1 u2 u3 := unitq_ex (sp_zero h)
theorem chkO_y {a b c d : Int} (h : okO a b c d = true) : chkO a b c d = 0 := by unfold chkO; rw [if_pos h]
theorem chkO_n {a b c d : Int} (h : okO a b c d = false) : chkO a b c d = 1 := by unfold chkO; rw [if_neg (by rw [h]; decide)]
theorem spin_told {a b c d x y z n u0 u1 u2 u3 : Int} (w : World) (h : okO a b c d = true) (k : ok3 x y z = true) (ht : tck n = true) (hr : rad3 (n * x) (n * y) (n * z) = true) (hu : SpinD a b c d (n * x) (n * y) (n * z) u0 u1 u2 u3) :
    Calls zP 9 #[zG #[J zq a, J zq b, J zq c, J zq d], zG #[J zq x, J zq y, J zq z], J zq n] w fun e w' => e = zR (.tuple #[zG #[J zq u0, J zq u1, J zq u2, J zq u3], J zq 0]) ∧ Ext w w' := by
  have K := fun w' => fCheck_any a b c d w'
  rw [chkO_y h] at K
  have V := fun w' => vCheck_any x y z w'
  rw [chk3_yes k] at V
  have T := fun w' => isticks_any n w'
  rw [ht] at T
  obtain ⟨rx, ry, rz⟩ := rad3_abs hr
  have A := fun w' => angle_any n x y z _ _ _ w' rfl rfl rfl (by omega) (by omega) (by omega) (by omega) (by omega) (by omega)
  have S := fun w' => isspin_any (n * x) (n * y) (n * z) w'
  rw [hr] at S
  obtain ⟨l0, l1, l2, l3⟩ := sp_le h hr
  obtain ⟨e0, e1, e2, e3⟩ := xp_le h hr
  refine spin_good a b c d x y z n (n * x) (n * y) (n * z) u0 u1 u2 u3 0 w K V T A S (fun w' => ?_)
  refine stepSpun a b c d (n * x) (n * y) (n * z) (sp0 a b c d (n * x) (n * y) (n * z)) (sp1 a b c d (n * x) (n * y) (n * z)) (sp2 a b c d (n * x) (n * y) (n * z)) (sp3 a b c d (n * x) (n * y) (n * z)) u0 u1 u2 u3 0 w' (fun w' => ?_) (fun w' => ?_)
  · exact spun_raw a b c d (n * x) (n * y) (n * z) _ _ _ _ _ _ _ _ _ _ _ _ w' (fun w' => numbersOf_any a b c d w') (fun w' => exprod_any a b c d _ _ _ w' h hr) (fun w' => half_any _ w' e0) (fun w' => half_any _ w' e1) (fun w' => half_any _ w' e2) (fun w' => half_any _ w' e3) rfl (by omega) (by omega) rfl (by omega) (by omega) rfl (by omega) (by omega) rfl (by omega) (by omega)
  · exact qunit_told w' (ok4_of (by omega) (by omega) (by omega) (by omega)) (sp_zero h) hu
theorem spin_form {a b c d x y z n : Int} (w : World) (h : (okO a b c d && ok3 x y z && tck n) = false) :
    Calls zP 9 #[zG #[J zq a, J zq b, J zq c, J zq d], zG #[J zq x, J zq y, J zq z], J zq n] w fun e w' => e = zR (.tuple #[zG #[J zq 0, J zq 0, J zq 0, J zq 0], J zq 1]) ∧ Ext w w' := by
  have K := fun w' => fCheck_any a b c d w'
  have V := fun w' => vCheck_any x y z w'
  have T := fun w' => isticks_any n w'
  cases h1 : okO a b c d
  · rw [chkO_n h1] at K
    exact spin_bad0 a b c d x y z n w K
  · rw [chkO_y h1] at K
    cases h2 : ok3 x y z
    · rw [chk3_no h2] at V
      exact spin_bad1 a b c d x y z n w K V
    · rw [chk3_yes h2] at V
      rw [h1, h2] at h
      have h3 : tck n = false := by simpa using h
      rw [h3] at T
      exact spin_bad2 a b c d x y z n w K V T
theorem spin_range {a b c d x y z n : Int} (w : World) (h : okO a b c d = true) (k : ok3 x y z = true) (ht : tck n = true) (hr : rad3 (n * x) (n * y) (n * z) = false) :
    Calls zP 9 #[zG #[J zq a, J zq b, J zq c, J zq d], zG #[J zq x, J zq y, J zq z], J zq n] w fun e w' => e = zR (.tuple #[zG #[J zq 0, J zq 0, J zq 0, J zq 0], J zq 2]) ∧ Ext w w' := by
  have K := fun w' => fCheck_any a b c d w'
  rw [chkO_y h] at K
  have V := fun w' => vCheck_any x y z w'
  rw [chk3_yes k] at V
  have T := fun w' => isticks_any n w'
  rw [ht] at T
  obtain ⟨g0, g1, g2⟩ := ok3_parts k
  have b0 := okW_bounds g0; have b1 := okW_bounds g1; have b2 := okW_bounds g2
  have hn := tck_iff.1 ht
  have m0 := mul_le_of (a := n) (A := 1000) (b := x) (B := 35184372088832) (by omega) (by omega) (by omega) (by omega)
  have m1 := mul_le_of (a := n) (A := 1000) (b := y) (B := 35184372088832) (by omega) (by omega) (by omega) (by omega)
  have m2 := mul_le_of (a := n) (A := 1000) (b := z) (B := 35184372088832) (by omega) (by omega) (by omega) (by omega)
  have A := fun w' => angle_any n x y z _ _ _ w' rfl rfl rfl (by omega) (by omega) (by omega) (by omega) (by omega) (by omega)
  have S := fun w' => isspin_any (n * x) (n * y) (n * z) w'
  rw [hr] at S
  exact spin_far a b c d x y z n (n * x) (n * y) (n * z) w K V T A S
def sh0 (a b c d : Int) : Int := nearI (tnx a (-b) (-c) (-d) 0 0 1073741824) (sq4 a b c d)
def sh1 (a b c d : Int) : Int := nearI (tny a (-b) (-c) (-d) 0 0 1073741824) (sq4 a b c d)
def sh2 (a b c d : Int) : Int := nearI (tnz a (-b) (-c) (-d) 0 0 1073741824) (sq4 a b c d)
theorem wneg {b : Int} (h : -1073741828 ≤ b ∧ b ≤ 1073741828) : wrap64 (-b) = -b := wrap_neg (okW_of (by omega) (by omega))
theorem sh_le {a b c d : Int} (h : okO a b c d = true) : (-1073741824 ≤ sh0 a b c d ∧ sh0 a b c d ≤ 1073741824) ∧ (-1073741824 ≤ sh1 a b c d ∧ sh1 a b c d ≤ 1073741824) ∧ (-1073741824 ≤ sh2 a b c d ∧ sh2 a b c d ≤ 1073741824) := by
  have hb := tn_bound (a := a) (b := -b) (c := -c) (d := -d) (x := 0) (y := 0) (z := 1073741824) (B := 1073741824) (by decide) (by rw [sq4_conj]; exact sq4_pos (okO_zero h)) (by decide)
  rw [sq4_conj] at hb
  exact hb
theorem back_told {a b c d : Int} (w : World) (h : okO a b c d = true) :
    Calls zP 83 #[zG #[J zq a, J zq b, J zq c, J zq d], zG #[J zq 0, J zq 0, J zq 1073741824]] w fun e w' => e = zR (.tuple #[zG #[J zq (sh0 a b c d), J zq (sh1 a b c d), J zq (sh2 a b c d)], J zq 0]) ∧ Ext w w' := by
  have B := qBack_any a b c d 0 0 1073741824 w
  obtain ⟨ha, hb, hc, hd⟩ := okO_abs h
  obtain ⟨l0, l1, l2⟩ := sh_le h
  rw [wneg hb, wneg hc, wneg hd] at B
  have e : turnR a (-b) (-c) (-d) 0 0 1073741824 = .tuple #[zG #[J zq (sh0 a b c d), J zq (sh1 a b c d), J zq (sh2 a b c d)], J zq 0] := by
    have k4 : ok4 a (-b) (-c) (-d) = true := ok4_of (by omega) (by omega) (by omega) (by omega)
    have k3 : ok3 0 0 1073741824 = true := by decide
    have hz := okO_zero h
    unfold turnR
    rw [if_pos (by rw [k4, k3]; rfl), if_neg (by omega), sq4_conj]
    unfold vres
    rw [if_pos (ok3_of (by unfold sh0 at l0; omega) (by unfold sh1 at l1; omega) (by unfold sh2 at l2; omega))]
    rfl
  rw [e] at B
  exact B
theorem vunit_told {x y z m0 m1 m2 : Int} (w : World) (h : ok3 x y z = true) (hz : ¬ (x = 0 ∧ y = 0 ∧ z = 0)) (hu : UnitV x y z m0 m1 m2) :
    Calls zP 84 #[zG #[J zq x, J zq y, J zq z]] w fun e w' => e = zR (.tuple #[zG #[J zq m0, J zq m1, J zq m2], J zq 0]) ∧ Ext w w' := by
  have hl := unitv_le hz hu
  obtain ⟨k0, k1, k2, q0, q1, q2, rfl, rfl, rfl⟩ := hu
  have H := vUnit_yes x y z k0 k1 k2 w h hz q0 q1 q2
  unfold vres at H
  rw [if_pos (ok3_of (by omega) (by omega) (by omega))] at H
  exact H
def of0 (m1 m2 s1 s2 : Int) : Int := nearQ (m1 * s2 - m2 * s1)
def lean (o : Int) : Int := nearQ (o * 8388608)
theorem of_le {p q r s : Int} (hp : -1073741824 ≤ p ∧ p ≤ 1073741824) (hq : -1073741824 ≤ q ∧ q ≤ 1073741824) (hr : -1073741824 ≤ r ∧ r ≤ 1073741824) (hs : -1073741824 ≤ s ∧ s ≤ 1073741824) : -2147483648 ≤ of0 p q r s ∧ of0 p q r s ≤ 2147483648 := by
  have m0 := mul_le_of hp.1 hp.2 hs.1 hs.2
  have m1 := mul_le_of hq.1 hq.2 hr.1 hr.2
  exact nearQ_abs (B := 2147483648) (by omega) (by omega)
theorem lean_le {o : Int} (h : -2147483648 ≤ o ∧ o ≤ 2147483648) : -16777216 ≤ lean o ∧ lean o ≤ 16777216 := nearQ_abs (B := 16777216) (by omega) (by omega)
def UpC (a b c d x y z c0 c1 c2 : Int) : Prop := ∃ m0 m1 m2, UnitV x y z m0 m1 m2 ∧ c0 = lean (of0 m1 m2 (sh1 a b c d) (sh2 a b c d)) ∧ c1 = lean (of0 m2 m0 (sh2 a b c d) (sh0 a b c d)) ∧ c2 = lean (of0 m0 m1 (sh0 a b c d) (sh1 a b c d))
theorem upC_ex (a b c d : Int) {x y z : Int} (hz : ¬ (x = 0 ∧ y = 0 ∧ z = 0)) : ∃ c0 c1 c2, UpC a b c d x y z c0 c1 c2 := by
  obtain ⟨m0, m1, m2, hm⟩ := unitv_ex hz
  exact ⟨_, _, _, m0, m1, m2, hm, rfl, rfl, rfl⟩
theorem upC_le {a b c d x y z c0 c1 c2 : Int} (h : okO a b c d = true) (hz : ¬ (x = 0 ∧ y = 0 ∧ z = 0)) (hc : UpC a b c d x y z c0 c1 c2) : (-16777216 ≤ c0 ∧ c0 ≤ 16777216) ∧ (-16777216 ≤ c1 ∧ c1 ≤ 16777216) ∧ (-16777216 ≤ c2 ∧ c2 ≤ 16777216) := by
  obtain ⟨m0, m1, m2, hm, rfl, rfl, rfl⟩ := hc
  obtain ⟨l0, l1, l2⟩ := unitv_le hz hm
  obtain ⟨s0, s1, s2⟩ := sh_le h
  exact ⟨lean_le (of_le l1 l2 s1 s2), lean_le (of_le l2 l0 s2 s0), lean_le (of_le l0 l1 s0 s1)⟩
theorem upward_told {a b c d x y z c0 c1 c2 : Int} (w : World) (h : okO a b c d = true) (k : ok3 x y z = true) (hz : ¬ (x = 0 ∧ y = 0 ∧ z = 0)) (hc : UpC a b c d x y z c0 c1 c2) :
    Calls zP 45 #[zG #[J zq a, J zq b, J zq c, J zq d], zG #[J zq x, J zq y, J zq z]] w fun e w' => e = zR (.tuple #[zG #[J zq c0, J zq c1, J zq c2], J zq 0]) ∧ Ext w w' := by
  have hl := upC_le h hz hc
  obtain ⟨m0, m1, m2, hm, e0, e1, e2⟩ := hc
  obtain ⟨l0, l1, l2⟩ := unitv_le hz hm
  obtain ⟨s0, s1, s2⟩ := sh_le h
  have o0 := of_le l1 l2 s1 s2; have o1 := of_le l2 l0 s2 s0; have o2 := of_le l0 l1 s0 s1
  refine upward_raw a b c d x y z (sh0 a b c d) (sh1 a b c d) (sh2 a b c d) m0 m1 m2 (of0 m1 m2 (sh1 a b c d) (sh2 a b c d)) (of0 m2 m0 (sh2 a b c d) (sh0 a b c d)) (of0 m0 m1 (sh0 a b c d) (sh1 a b c d)) c0 c1 c2 w (fun w' => back_told w' h) (fun w' => vunit_told w' k hz hm) (fun w' => ?_) (fun w' => ?_)
  · have H := vCross_yes m0 m1 m2 (sh0 a b c d) (sh1 a b c d) (sh2 a b c d) w' (ok3_of (by omega) (by omega) (by omega)) (ok3_of (by omega) (by omega) (by omega))
    have r0 : rowQ 0 (sh2 a b c d) (-(sh1 a b c d)) m0 m1 m2 = of0 m1 m2 (sh1 a b c d) (sh2 a b c d) := by unfold rowQ of0 dot3; congr 1; grind
    have r1 : rowQ (-(sh2 a b c d)) 0 (sh0 a b c d) m0 m1 m2 = of0 m2 m0 (sh2 a b c d) (sh0 a b c d) := by unfold rowQ of0 dot3; congr 1; grind
    have r2 : rowQ (sh1 a b c d) (-(sh0 a b c d)) 0 m0 m1 m2 = of0 m0 m1 (sh0 a b c d) (sh1 a b c d) := by unfold rowQ of0 dot3; congr 1; grind
    rw [r0, r1, r2] at H
    unfold vres at H
    rw [if_pos (ok3_of (by omega) (by omega) (by omega))] at H
    exact H
  · have H := vScale_yes (of0 m1 m2 (sh1 a b c d) (sh2 a b c d)) (of0 m2 m0 (sh2 a b c d) (sh0 a b c d)) (of0 m0 m1 (sh0 a b c d) (sh1 a b c d)) 8388608 w' (ok3_of (by omega) (by omega) (by omega)) (by decide)
    unfold lean at e0 e1 e2
    rw [← e0, ← e1, ← e2] at H
    unfold vres at H
    rw [if_pos (ok3_of (by omega) (by omega) (by omega))] at H
    exact H
def mw (a b c d x y z t : Int) : Int := nearQ (qw a b c d x y z t)
def mx (a b c d x y z t : Int) : Int := nearQ (qx a b c d x y z t)
def my (a b c d x y z t : Int) : Int := nearQ (qy a b c d x y z t)
def mz (a b c d x y z t : Int) : Int := nearQ (qz a b c d x y z t)
theorem near_off (p : Int) : -1073741824 ≤ 2 * (1073741824 * nearQ p - p) ∧ 2 * (1073741824 * nearQ p - p) ≤ 1073741824 := by
  obtain ⟨h1, h2, _⟩ := nearQ_IsNear p
  omega
theorem qk_le {a x : Int} (h : -1073741828 ≤ a ∧ a ≤ 1073741828) (k : -16777216 ≤ x ∧ x ≤ 16777216) : -18014398576590848 ≤ a * x ∧ a * x ≤ 18014398576590848 := by
  have := mul_le_of h.1 h.2 k.1 k.2
  omega
theorem lean_prod {a b c d x y z : Int} (h : okO a b c d = true) (hx : -16777216 ≤ x ∧ x ≤ 16777216) (hy : -16777216 ≤ y ∧ y ≤ 16777216) (hz : -16777216 ≤ z ∧ z ≤ 16777216) :
    ok4 (mw a b c d 1073741824 x y z) (mx a b c d 1073741824 x y z) (my a b c d 1073741824 x y z) (mz a b c d 1073741824 x y z) = true ∧ ¬ (mw a b c d 1073741824 x y z = 0 ∧ mx a b c d 1073741824 x y z = 0 ∧ my a b c d 1073741824 x y z = 0 ∧ mz a b c d 1073741824 x y z = 0) := by
  obtain ⟨ha, hb, hc, hd⟩ := okO_abs h
  have q0 := qk_le ha hx; have q1 := qk_le ha hy; have q2 := qk_le ha hz
  have q3 := qk_le hb hx; have q4 := qk_le hb hy; have q5 := qk_le hb hz
  have q6 := qk_le hc hx; have q7 := qk_le hc hy; have q8 := qk_le hc hz
  have q9 := qk_le hd hx; have q10 := qk_le hd hy; have q11 := qk_le hd hz
  constructor
  · have g0 := nearQ_abs (p := qw a b c d 1073741824 x y z) (B := 1342177280) (by unfold qw; omega) (by unfold qw; omega)
    have g1 := nearQ_abs (p := qx a b c d 1073741824 x y z) (B := 1342177280) (by unfold qx; omega) (by unfold qx; omega)
    have g2 := nearQ_abs (p := qy a b c d 1073741824 x y z) (B := 1342177280) (by unfold qy; omega) (by unfold qy; omega)
    have g3 := nearQ_abs (p := qz a b c d 1073741824 x y z) (B := 1342177280) (by unfold qz; omega) (by unfold qz; omega)
    exact ok4_of (by unfold mw; omega) (by unfold mx; omega) (by unfold my; omega) (by unfold mz; omega)
  · have f0 := near_off (qw a b c d 1073741824 x y z); have f1 := near_off (qx a b c d 1073741824 x y z); have f2 := near_off (qy a b c d 1073741824 x y z); have f3 := near_off (qz a b c d 1073741824 x y z)
    refine move_zero (D := 1073741824) (p0 := -(b * x) - c * y - d * z) (p1 := a * x + c * z - d * y) (p2 := a * y - b * z + d * x) (p3 := a * z + b * y - c * x) h (by decide) (by grind) ?_ ?_ ?_ ?_
    · unfold mw; unfold qw at f0 ⊢; omega
    · unfold mx; unfold qx at f1 ⊢; omega
    · unfold my; unfold qy at f2 ⊢; omega
    · unfold mz; unfold qz at f3 ⊢; omega
theorem swing_prod {a b c d x : Int} (h : okO a b c d = true) (hx : -16777216 ≤ x ∧ x ≤ 16777216) :
    ok4 (mw 1073741824 0 0 x a b c d) (mx 1073741824 0 0 x a b c d) (my 1073741824 0 0 x a b c d) (mz 1073741824 0 0 x a b c d) = true ∧ ¬ (mw 1073741824 0 0 x a b c d = 0 ∧ mx 1073741824 0 0 x a b c d = 0 ∧ my 1073741824 0 0 x a b c d = 0 ∧ mz 1073741824 0 0 x a b c d = 0) := by
  obtain ⟨ha, hb, hc, hd⟩ := okO_abs h
  have q0 := qk_le ha hx; have q3 := qk_le hb hx; have q6 := qk_le hc hx; have q9 := qk_le hd hx
  rw [Int.mul_comm] at q0 q3 q6 q9
  constructor
  · have g0 := nearQ_abs (p := qw 1073741824 0 0 x a b c d) (B := 1342177280) (by unfold qw; omega) (by unfold qw; omega)
    have g1 := nearQ_abs (p := qx 1073741824 0 0 x a b c d) (B := 1342177280) (by unfold qx; omega) (by unfold qx; omega)
    have g2 := nearQ_abs (p := qy 1073741824 0 0 x a b c d) (B := 1342177280) (by unfold qy; omega) (by unfold qy; omega)
    have g3 := nearQ_abs (p := qz 1073741824 0 0 x a b c d) (B := 1342177280) (by unfold qz; omega) (by unfold qz; omega)
    exact ok4_of (by unfold mw; omega) (by unfold mx; omega) (by unfold my; omega) (by unfold mz; omega)
  · have f0 := near_off (qw 1073741824 0 0 x a b c d); have f1 := near_off (qx 1073741824 0 0 x a b c d); have f2 := near_off (qy 1073741824 0 0 x a b c d); have f3 := near_off (qz 1073741824 0 0 x a b c d)
    refine move_zero (D := 1073741824) (p0 := -(x * d)) (p1 := -(x * c)) (p2 := x * b) (p3 := x * a) h (by decide) (by grind) ?_ ?_ ?_ ?_
    · unfold mw; unfold qw at f0 ⊢; omega
    · unfold mx; unfold qx at f1 ⊢; omega
    · unfold my; unfold qy at f2 ⊢; omega
    · unfold mz; unfold qz at f3 ⊢; omega
theorem qmul_told {a b c d x y z t : Int} (w : World) (h : ok4 a b c d = true) (k : ok4 x y z t = true) (m : ok4 (mw a b c d x y z t) (mx a b c d x y z t) (my a b c d x y z t) (mz a b c d x y z t) = true) :
    Calls zP 87 #[zG #[J zq a, J zq b, J zq c, J zq d], zG #[J zq x, J zq y, J zq z, J zq t]] w fun e w' => e = zR (.tuple #[zG #[J zq (mw a b c d x y z t), J zq (mx a b c d x y z t), J zq (my a b c d x y z t), J zq (mz a b c d x y z t)], J zq 0]) ∧ Ext w w' := by
  have H := qMul_any a b c d x y z t w
  unfold qmulR at H
  rw [if_pos (by rw [h, k]; rfl)] at H
  unfold qres at H
  unfold mw mx my mz at m ⊢
  rw [if_pos m] at H
  exact H
def UpD (a b c d x y z u0 u1 u2 u3 : Int) : Prop := ∃ k : Nat, RootQ (sq3 x y z) 1 k ∧ (gat k = false ∧ u0 = a ∧ u1 = b ∧ u2 = c ∧ u3 = d ∨ gat k = true ∧ ∃ c0 c1 c2, UpC a b c d x y z c0 c1 c2 ∧ UnitQ (mw a b c d 1073741824 c0 c1 c2) (mx a b c d 1073741824 c0 c1 c2) (my a b c d 1073741824 c0 c1 c2) (mz a b c d 1073741824 c0 c1 c2) u0 u1 u2 u3)
theorem gat_zero {x y z : Int} {k : Nat} (hk : RootQ (sq3 x y z) 1 k) (hg : gat k = true) : ¬ (x = 0 ∧ y = 0 ∧ z = 0) := by
  rintro ⟨rfl, rfl, rfl⟩
  have e : sq3 0 0 0 = 0 := by decide
  rw [e] at hk
  have := gat_iff.1 hg
  have := rootQ_zero (by decide) hk
  omega
theorem upD_ex {a b c d : Int} (x y z : Int) (h : okO a b c d = true) : ∃ u0 u1 u2 u3, UpD a b c d x y z u0 u1 u2 u3 := by
  obtain ⟨k, hk⟩ := rootQ_exists (sq3 x y z) 1 (by decide)
  cases hg : gat k
  · exact ⟨a, b, c, d, k, hk, .inl ⟨hg, rfl, rfl, rfl, rfl⟩⟩
  · have hz := gat_zero hk hg
    obtain ⟨c0, c1, c2, hc⟩ := upC_ex a b c d hz
    obtain ⟨l0, l1, l2⟩ := upC_le h hz hc
    obtain ⟨u0, u1, u2, u3, hu⟩ := unitq_ex (lean_prod h l0 l1 l2).2
    exact ⟨u0, u1, u2, u3, k, hk, .inr ⟨hg, c0, c1, c2, hc, hu⟩⟩
theorem up_told {a b c d x y z u0 u1 u2 u3 : Int} (w : World) (h : okO a b c d = true) (k : ok3 x y z = true) (hu : UpD a b c d x y z u0 u1 u2 u3) :
    Calls zP 13 #[zG #[J zq a, J zq b, J zq c, J zq d], zG #[J zq x, J zq y, J zq z]] w fun e w' => e = zR (.tuple #[zG #[J zq u0, J zq u1, J zq u2, J zq u3], J zq 0]) ∧ Ext w w' := by
  have K := fun w' => fCheck_any a b c d w'
  rw [chkO_y h] at K
  have V := fun w' => vCheck_any x y z w'
  rw [chk3_yes k] at V
  have O := fun g w' hg => cmpOr2 0 0 0 g w' hg rfl
  obtain ⟨n, hk, hu⟩ := hu
  have G := fun w' => grav_any x y z n w' (fun w' => vNorm_yes x y z n w' k hk)
  rcases hu with ⟨hg, rfl, rfl, rfl, rfl⟩ | ⟨hg, c0, c1, c2, hc, hu⟩
  · rw [hg] at G
    exact up_stays _ _ _ _ x y z 0 0 w K V O G
  · rw [hg] at G
    have hz := gat_zero hk hg
    obtain ⟨l0, l1, l2⟩ := upC_le h hz hc
    obtain ⟨m4, mz⟩ := lean_prod h l0 l1 l2
    refine up_good a b c d x y z 0 0 c0 c1 c2 u0 u1 u2 u3 0 w K V O G (fun w' => upward_told w' h k hz hc) (fun w' => ?_)
    refine stepLeaned a b c d c0 c1 c2 _ _ _ _ u0 u1 u2 u3 0 w' (fun w' => ?_) (fun w' => qunit_told w' m4 mz hu)
    exact leaned_raw a b c d c0 c1 c2 _ _ _ _ 0 w' (fun w' => qmul_told w' (okO_ok4 h) (ok4_of (by omega) (by omega) (by omega) (by omega)) m4)
theorem up_form {a b c d x y z : Int} (w : World) (h : (okO a b c d && ok3 x y z) = false) :
    Calls zP 13 #[zG #[J zq a, J zq b, J zq c, J zq d], zG #[J zq x, J zq y, J zq z]] w fun e w' => e = zR (.tuple #[zG #[J zq 0, J zq 0, J zq 0, J zq 0], J zq 1]) ∧ Ext w w' := by
  have K := fun w' => fCheck_any a b c d w'
  have V := fun w' => vCheck_any x y z w'
  refine up_bad a b c d x y z (chkO a b c d) (chk3 x y z) 1 w K V (fun g w' hg => cmpOr2 _ _ _ g w' hg ?_) (by decide)
  cases h1 : okO a b c d
  · rw [chkO_n h1]; rfl
  · rw [h1] at h
    rw [chkO_y h1, chk3_no (by simpa using h)]; rfl
def nh0 (a b c d x y z : Int) : Int := nearI (tnx a b c d x y z) (sq4 a b c d)
def nh1 (a b c d x y z : Int) : Int := nearI (tny a b c d x y z) (sq4 a b c d)
def nh2 (a b c d x y z : Int) : Int := nearI (tnz a b c d x y z) (sq4 a b c d)
def NorthD (a b c d x y z u0 u1 u2 u3 : Int) : Prop := nh0 a b c d x y z = 0 ∧ nh1 a b c d x y z = 0 ∧ u0 = a ∧ u1 = b ∧ u2 = c ∧ u3 = d ∨ ¬ (nh0 a b c d x y z = 0 ∧ nh1 a b c d x y z = 0 ∧ (0 : Int) = 0) ∧ ∃ s0 s1 s2, UnitV (nh0 a b c d x y z) (nh1 a b c d x y z) 0 s0 s1 s2 ∧ UnitQ (mw 1073741824 0 0 (lean s0) a b c d) (mx 1073741824 0 0 (lean s0) a b c d) (my 1073741824 0 0 (lean s0) a b c d) (mz 1073741824 0 0 (lean s0) a b c d) u0 u1 u2 u3
theorem northD_ex {a b c d : Int} (x y z : Int) (h : okO a b c d = true) : ∃ u0 u1 u2 u3, NorthD a b c d x y z u0 u1 u2 u3 := by
  by_cases hz : nh0 a b c d x y z = 0 ∧ nh1 a b c d x y z = 0 ∧ (0 : Int) = 0
  · exact ⟨a, b, c, d, .inl ⟨hz.1, hz.2.1, rfl, rfl, rfl, rfl⟩⟩
  · obtain ⟨s0, s1, s2, hs⟩ := unitv_ex hz
    obtain ⟨l0, _, _⟩ := unitv_le hz hs
    obtain ⟨u0, u1, u2, u3, hu⟩ := unitq_ex (swing_prod h (lean_le (o := s0) (by omega))).2
    exact ⟨u0, u1, u2, u3, .inr ⟨hz, s0, s1, s2, hs, hu⟩⟩
theorem nturn {a b c d x y z : Int} (w : World) (h : okO a b c d = true) (k : ok3 x y z = true) :
    Calls zP 47 #[zG #[J zq a, J zq b, J zq c, J zq d], zG #[J zq x, J zq y, J zq z]] w fun e w' => e = zR (vres (nh0 a b c d x y z) (nh1 a b c d x y z) (nh2 a b c d x y z)) ∧ Ext w w' := by
  have T := qTurn_any a b c d x y z w
  have hz := okO_zero h
  unfold turnR at T
  rw [if_pos (by rw [okO_ok4 h, k]; rfl), if_neg hz] at T
  exact T
theorem eqV3 (x y z a b c : Int) (w : World) : (Op.equalIn 10000 28 (zG #[J zq x, J zq y, J zq z]) (zG #[J zq a, J zq b, J zq c])).run zP w = .ok (x == a && (y == b && z == c)) w := by
  by_cases hx : x = a <;> by_cases hy : y = b <;> by_cases hz : z = c <;> simp [go_sem, hx, hy, hz]
theorem eqV0 (x y : Int) (w : World) : (Op.equalIn 10000 28 (zG #[J zq x, J zq y, J zq 0]) (zG #[J zq 0, J zq 0, J zq 0])).run zP w = .ok (x == 0 && y == 0) w := by
  have := eqV3 x y 0 0 0 0 w
  rw [this]; simp
theorem north_told {a b c d x y z u0 u1 u2 u3 : Int} (w : World) (h : okO a b c d = true) (k : ok3 x y z = true) (hn : ok3 (nh0 a b c d x y z) (nh1 a b c d x y z) (nh2 a b c d x y z) = true) (hu : NorthD a b c d x y z u0 u1 u2 u3) :
    Calls zP 14 #[zG #[J zq a, J zq b, J zq c, J zq d], zG #[J zq x, J zq y, J zq z]] w fun e w' => e = zR (.tuple #[zG #[J zq u0, J zq u1, J zq u2, J zq u3], J zq 0]) ∧ Ext w w' := by
  have K := fun w' => fCheck_any a b c d w'
  rw [chkO_y h] at K
  have V := fun w' => vCheck_any x y z w'
  rw [chk3_yes k] at V
  have O := fun g w' hg => cmpOr2 0 0 0 g w' hg rfl
  have T := fun w' => nturn w' h k
  unfold vres at T
  rw [if_pos hn] at T
  obtain ⟨g0, g1, g2⟩ := ok3_parts hn
  rcases hu with ⟨e0, e1, rfl, rfl, rfl, rfl⟩ | ⟨hz, s0, s1, s2, hs, hu⟩
  · rw [e0, e1] at T
    exact north_stays _ _ _ _ x y z 0 0 _ w K V O T (fun w' => eqV0 0 0 w')
  · obtain ⟨l0, l1, l2⟩ := unitv_le hz hs
    have hl := lean_le (o := s0) (by omega)
    obtain ⟨m4, mz⟩ := swing_prod h hl
    have n3 : ok3 (nh0 a b c d x y z) (nh1 a b c d x y z) 0 = true := by unfold ok3; rw [g0, g1]; rfl
    generalize nh0 a b c d x y z = h0 at *
    generalize nh1 a b c d x y z = h1 at *
    generalize nh2 a b c d x y z = h2 at *
    have he : (h0 == 0 && h1 == 0) = false := by
      rw [Bool.eq_false_iff]; intro hc; simp at hc; exact hz ⟨hc.1, hc.2, rfl⟩
    refine north_good a b c d x y z 0 0 h0 h1 h2 (lean s0) u0 u1 u2 u3 0 w K V O T (fun w' => by rw [eqV0, he]) (fun w' => ?_) (fun w' => ?_)
    · refine northward_raw h0 h1 0 s0 s1 s2 (lean s0) w' (fun w' => vunit_told w' n3 hz hs) (fun w' => ?_)
      have H := mulw s0 8388608 (okW_of (by omega) (by omega)) (by decide) w'
      unfold lean at hl ⊢
      rw [fit_yes' (okW_of (by omega) (by omega))] at H
      exact H
    · refine stepSwung a b c d (lean s0) _ _ _ _ u0 u1 u2 u3 0 w' (fun w' => ?_) (fun w' => qunit_told w' m4 mz hu)
      exact swung_raw a b c d (lean s0) _ _ _ _ 0 w' (fun w' => qmul_told w' (ok4_of (by omega) (by omega) (by omega) (by omega)) (okO_ok4 h) m4)
theorem north_range {a b c d x y z : Int} (w : World) (h : okO a b c d = true) (k : ok3 x y z = true) (hn : ok3 (nh0 a b c d x y z) (nh1 a b c d x y z) (nh2 a b c d x y z) = false) :
    Calls zP 14 #[zG #[J zq a, J zq b, J zq c, J zq d], zG #[J zq x, J zq y, J zq z]] w fun e w' => e = zR (.tuple #[zG #[J zq 0, J zq 0, J zq 0, J zq 0], J zq 2]) ∧ Ext w w' := by
  have K := fun w' => fCheck_any a b c d w'
  rw [chkO_y h] at K
  have V := fun w' => vCheck_any x y z w'
  rw [chk3_yes k] at V
  have O := fun g w' hg => cmpOr2 0 0 0 g w' hg rfl
  have T := fun w' => nturn w' h k
  unfold vres at T
  rw [if_neg (by rw [hn]; decide)] at T
  exact north_err a b c d x y z 0 0 0 0 0 2 w K V O T (by decide)
theorem north_form {a b c d x y z : Int} (w : World) (h : (okO a b c d && ok3 x y z) = false) :
    Calls zP 14 #[zG #[J zq a, J zq b, J zq c, J zq d], zG #[J zq x, J zq y, J zq z]] w fun e w' => e = zR (.tuple #[zG #[J zq 0, J zq 0, J zq 0, J zq 0], J zq 1]) ∧ Ext w w' := by
  have K := fun w' => fCheck_any a b c d w'
  have V := fun w' => vCheck_any x y z w'
  refine north_bad a b c d x y z (chkO a b c d) (chk3 x y z) 1 w K V (fun g w' hg => cmpOr2 _ _ _ g w' hg ?_) (by decide)
  cases h1 : okO a b c d
  · rw [chkO_n h1]; rfl
  · rw [h1] at h
    rw [chkO_y h1, chk3_no (by simpa using h)]; rfl
set_option maxHeartbeats 400000 in
theorem num15_any (v : Int) (w : World) :
    Calls zP 10 #[J zq v] w fun e w' => e = zR (J zq v) ∧ w' = w := by
  go_enter Tryz.func10, Tryz.ntmps10
  go_wp2
  go_ret
  exact ⟨rfl, rfl⟩
def NL (n : Nat) (w : World) (b off len : Nat) (Z : Nat → Nat → Int) : Prop :=
  ∀ i, i < len → ∀ j, j < n → w.cell? ⟨b, off + i * n + j, none⟩ = some (J zq (Z i j)) ∧ -9223372036854775808 ≤ Z i j ∧ Z i j ≤ 9223372036854775807
theorem NL.ext {n : Nat} {w w' : World} {b off len : Nat} {Z : Nat → Nat → Int} (h : NL n w b off len Z) (hx : Ext w w') : NL n w' b off len Z := by
  intro i hi j hj
  obtain ⟨h1, h2⟩ := h i hi j hj
  refine ⟨?_, h2⟩
  rw [(hx.lay).1 b _ (cell_lt h1)]
  exact h1
theorem up_fresh : UpD 1073741824 0 0 0 0 0 9806650 1073741824 0 0 0 := by
  refine ⟨9806650, ?_, .inr ⟨by decide, 0, 0, 0, ⟨0, 0, 1073741824, ⟨0, 0, 1073741824, ?_, ?_, ?_, by decide, by decide, by decide⟩, ?_, ?_, ?_⟩, ⟨1073741824, 0, 0, 0, ?_, ?_, ?_, ?_, by decide +kernel, by decide +kernel, by decide +kernel, by decide +kernel⟩⟩⟩
  · unfold RootQ; decide +kernel
  · unfold RootQ; decide +kernel
  · unfold RootQ; decide +kernel
  · unfold RootQ; decide +kernel
  · decide +kernel
  · decide +kernel
  · decide +kernel
  · unfold RootQ; decide +kernel
  · unfold RootQ; decide +kernel
  · unfold RootQ; decide +kernel
  · unfold RootQ; decide +kernel
theorem eqF (x y z u a b c d : Int) (w : World) : (Op.equalIn 10000 26 (zG #[J zq x, J zq y, J zq z, J zq u]) (zG #[J zq a, J zq b, J zq c, J zq d])).run zP w = .ok (x == a && (y == b && (z == c && u == d))) w := by
  by_cases hx : x = a <;> by_cases hy : y = b <;> by_cases hz : z = c <;> by_cases hu : u = d <;> simp [go_sem, hx, hy, hz, hu]
set_option maxRecDepth 20000 in
set_option maxHeartbeats 4000000 in
theorem wakes15_any (w : World) : Calls zP 17 #[] w fun e w' => e = zR (.bool true) ∧ Ext w w' := by
  have HF : Hid (∀ w, Calls zP 15 #[] w fun e w' => e = zR (zG #[J zq 1073741824, J zq 0, J zq 0, J zq 0]) ∧ Ext w w') := fresh_any
  have HA : Hid (∀ w, Calls zP 13 #[zG #[J zq 1073741824, J zq 0, J zq 0, J zq 0], zG #[J zq 0, J zq 0, J zq 9806650]] w fun e w' => e = zR (.tuple #[zG #[J zq 1073741824, J zq 0, J zq 0, J zq 0], J zq 0]) ∧ Ext w w') := fun w => up_told w (by decide) (by decide) up_fresh
  have he := eqF 1073741824 0 0 0 1073741824 0 0 0
  go_enter Tryz.func17, Tryz.ntmps17
  go_wp2_with fail
  refine (HF.out _).mono ?_
  rintro e w1 ⟨rfl, x1⟩
  go_wp2_with fail
  refine (HA.out _).mono ?_
  rintro e w2 ⟨rfl, x2⟩
  go_upto_region 2 with fail
  have F1 : Hid (HV (w2.alloc (.cells #[J zq 1073741824, J zq 0, J zq 0, J zq 0] 26)) w2.heap.size [J zq 1073741824, J zq 0, J zq 0, J zq 0]) := hv_at rfl
  have FX : Hid (Ext w (w2.alloc (.cells #[J zq 1073741824, J zq 0, J zq 0, J zq 0] 26))) := (x1.trans x2).alloc _
  generalize (w2.alloc (.cells #[J zq 1073741824, J zq 0, J zq 0, J zq 0] 26)) = w3 at *
  generalize w2.heap.size = n1 at *
  clear x1 x2
  obtain ⟨q0, q1, q2, q3⟩ := F1.out.k4
  go_wp2_with (go_at_call 10; refine (num15_any _ _).mono ?_; rintro e wx ⟨rfl, hwx⟩; have hwy := hwx.symm; clear hwx; subst hwy)
  go_ret
  exact ⟨by first | rfl | simp, FX.out⟩
def Twos3 (w : World) (b off len : Nat) (Z : Nat → Nat → Int) : Prop :=
  ∀ i, i < len → ∀ j, j < 16 → w.cell? ⟨b, off + i * 16 + j, none⟩ = some (J zq (Z i j)) ∧ -9223372036854775808 ≤ Z i j ∧ Z i j ≤ 9223372036854775807
theorem Twos3.ext {w w' : World} {b off len : Nat} {Z : Nat → Nat → Int} (h : Twos3 w b off len Z) (hx : Ext w w') : Twos3 w' b off len Z := by
  intro i hi j hj
  obtain ⟨h1, h2⟩ := h i hi j hj
  refine ⟨?_, h2⟩
  rw [(hx.lay).1 b _ (cell_lt h1)]
  exact h1
set_option maxHeartbeats 2000000 in
theorem mayv_any (x y z : Int) (w : World) :
    Calls zP 5 #[zG #[J zq x, J zq y, J zq z]] w fun e w' => e = zR (.bool (ok3 x y z)) ∧ Ext w w' := by
  have HM : Hid (∀ v w', Calls zP 22 #[J zq v] w' fun e w'' => e = zR (.bool (okW v)) ∧ w'' = w') := may_any
  unfold ok3
  cases h0 : okW x
  · go_enter Tryz.func5, Tryz.ntmps5
    go_wp2_with (go_at_call 22; refine (HM.out _ _).mono ?_; rintro e wx ⟨rfl, hwx⟩; have hwy := hwx.symm; clear hwx; subst hwy)
    go_ret
    exact ⟨rfl, (Ext.refl _).alloc _⟩
  · cases h1 : okW y
    · go_enter Tryz.func5, Tryz.ntmps5
      go_wp2_with (go_at_call 22; refine (HM.out _ _).mono ?_; rintro e wx ⟨rfl, hwx⟩; have hwy := hwx.symm; clear hwx; subst hwy)
      go_ret
      exact ⟨rfl, (Ext.refl _).alloc _⟩
    · go_enter Tryz.func5, Tryz.ntmps5
      go_wp2_with (go_at_call 22; refine (HM.out _ _).mono ?_; rintro e wx ⟨rfl, hwx⟩; have hwy := hwx.symm; clear hwx; subst hwy)
      go_ret
      exact ⟨rfl, (Ext.refl _).alloc _⟩
end Go.Proofs.YtoeecldhbabmbaaGreat
