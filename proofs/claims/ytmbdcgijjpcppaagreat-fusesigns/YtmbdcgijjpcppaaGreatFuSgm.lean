/- FuseSigns. -/
import Derived.Test.YtmbdcgijjpcppaaGreatFl0m
import Derived.Deep.Cut
import Derived.Deep.DeepCutAuto
namespace Go.Proofs.YtmbdcgijjpcppaaGreat
open Go.RowKit Go.Shelf
theorem rad3_of {x y z : Int} (hx : -1073741824 ≤ x ∧ x ≤ 1073741824) (hy : -1073741824 ≤ y ∧ y ≤ 1073741824) (hz : -1073741824 ≤ z ∧ z ≤ 1073741824) : rad3 x y z = true := by
  unfold rad3; rw [rad_iff.2 hx, rad_iff.2 hy, rad_iff.2 hz]; rfl
theorem half_neg (p : Int) : half (-p) = -half p := nearI_neg p 2147483648 (by decide)
theorem okO_neg {a b c d : Int} (h : okO a b c d = true) : okO (-a) (-b) (-c) (-d) = true := by
  have := okO_iff.1 h
  refine okO_iff.2 ⟨by omega, by omega, by omega, by omega, ?_, ?_⟩ <;> simp only [Int.neg_mul_neg] <;> omega
theorem spinD_neg {a b c d x y z u0 u1 u2 u3 : Int} (h : okO a b c d = true) (hu : SpinD a b c d x y z u0 u1 u2 u3) : SpinD (-a) (-b) (-c) (-d) x y z (-u0) (-u1) (-u2) (-u3) := by
  have h := unitq_neg (sp_zero h) hu
  have e0 : xp0 (-b) (-c) (-d) x y z = -xp0 b c d x y z := by unfold xp0; grind
  have e1 : xp1 (-a) (-c) (-d) x y z = -xp1 a c d x y z := by unfold xp1; grind
  have e2 : xp2 (-a) (-b) (-d) x y z = -xp2 a b d x y z := by unfold xp2; grind
  have e3 : xp3 (-a) (-b) (-c) x y z = -xp3 a b c x y z := by unfold xp3; grind
  have s0 : sp0 (-a) (-b) (-c) (-d) x y z = -sp0 a b c d x y z := by unfold sp0; rw [e0, half_neg]; omega
  have s1 : sp1 (-a) (-b) (-c) (-d) x y z = -sp1 a b c d x y z := by unfold sp1; rw [e1, half_neg]; omega
  have s2 : sp2 (-a) (-b) (-c) (-d) x y z = -sp2 a b c d x y z := by unfold sp2; rw [e2, half_neg]; omega
  have s3 : sp3 (-a) (-b) (-c) (-d) x y z = -sp3 a b c d x y z := by unfold sp3; rw [e3, half_neg]; omega
  unfold SpinD
  rw [s0, s1, s2, s3]
  exact h
theorem tn_neg (a b c d x y z : Int) : tnx (-a) (-b) (-c) (-d) x y z = tnx a b c d x y z ∧ tny (-a) (-b) (-c) (-d) x y z = tny a b c d x y z ∧ tnz (-a) (-b) (-c) (-d) x y z = tnz a b c d x y z := by
  rw [tnx_eq, tnx_eq, tny_eq, tny_eq, tnz_eq, tnz_eq]
  refine ⟨?_, ?_, ?_⟩ <;> simp only [Int.neg_mul_neg]
theorem sh_neg (a b c d : Int) : sh0 (-a) (-b) (-c) (-d) = sh0 a b c d ∧ sh1 (-a) (-b) (-c) (-d) = sh1 a b c d ∧ sh2 (-a) (-b) (-c) (-d) = sh2 a b c d := by
  obtain ⟨t0, t1, t2⟩ := tn_neg a (-b) (-c) (-d) 0 0 1073741824
  unfold sh0 sh1 sh2
  rw [t0, t1, t2, sq4_neg]
  exact ⟨rfl, rfl, rfl⟩
theorem nh_neg (a b c d x y z : Int) : nh0 (-a) (-b) (-c) (-d) x y z = nh0 a b c d x y z ∧ nh1 (-a) (-b) (-c) (-d) x y z = nh1 a b c d x y z ∧ nh2 (-a) (-b) (-c) (-d) x y z = nh2 a b c d x y z := by
  obtain ⟨t0, t1, t2⟩ := tn_neg a b c d x y z
  unfold nh0 nh1 nh2
  rw [t0, t1, t2, sq4_neg]
  exact ⟨rfl, rfl, rfl⟩
theorem m_negl (a b c d x y z t : Int) : mw (-a) (-b) (-c) (-d) x y z t = -mw a b c d x y z t ∧ mx (-a) (-b) (-c) (-d) x y z t = -mx a b c d x y z t ∧ my (-a) (-b) (-c) (-d) x y z t = -my a b c d x y z t ∧ mz (-a) (-b) (-c) (-d) x y z t = -mz a b c d x y z t := by
  have e0 : qw (-a) (-b) (-c) (-d) x y z t = -qw a b c d x y z t := by unfold qw; grind
  have e1 : qx (-a) (-b) (-c) (-d) x y z t = -qx a b c d x y z t := by unfold qx; grind
  have e2 : qy (-a) (-b) (-c) (-d) x y z t = -qy a b c d x y z t := by unfold qy; grind
  have e3 : qz (-a) (-b) (-c) (-d) x y z t = -qz a b c d x y z t := by unfold qz; grind
  unfold mw mx my mz
  rw [e0, e1, e2, e3, nearQ_neg, nearQ_neg, nearQ_neg, nearQ_neg]
  exact ⟨rfl, rfl, rfl, rfl⟩
theorem m_negr (a b c d x y z t : Int) : mw a b c d (-x) (-y) (-z) (-t) = -mw a b c d x y z t ∧ mx a b c d (-x) (-y) (-z) (-t) = -mx a b c d x y z t ∧ my a b c d (-x) (-y) (-z) (-t) = -my a b c d x y z t ∧ mz a b c d (-x) (-y) (-z) (-t) = -mz a b c d x y z t := by
  have e0 : qw a b c d (-x) (-y) (-z) (-t) = -qw a b c d x y z t := by unfold qw; grind
  have e1 : qx a b c d (-x) (-y) (-z) (-t) = -qx a b c d x y z t := by unfold qx; grind
  have e2 : qy a b c d (-x) (-y) (-z) (-t) = -qy a b c d x y z t := by unfold qy; grind
  have e3 : qz a b c d (-x) (-y) (-z) (-t) = -qz a b c d x y z t := by unfold qz; grind
  unfold mw mx my mz
  rw [e0, e1, e2, e3, nearQ_neg, nearQ_neg, nearQ_neg, nearQ_neg]
  exact ⟨rfl, rfl, rfl, rfl⟩
theorem upD_neg {a b c d x y z u0 u1 u2 u3 : Int} (h : okO a b c d = true) (hu : UpD a b c d x y z u0 u1 u2 u3) : UpD (-a) (-b) (-c) (-d) x y z (-u0) (-u1) (-u2) (-u3) := by
  obtain ⟨k, hk, ⟨hg, rfl, rfl, rfl, rfl⟩ | ⟨hg, c0, c1, c2, hc, hu⟩⟩ := hu
  · exact ⟨k, hk, .inl ⟨hg, rfl, rfl, rfl, rfl⟩⟩
  · have hz := gat_zero hk hg
    obtain ⟨l0, l1, l2⟩ := upC_le h hz hc
    have hn := unitq_neg (lean_prod h l0 l1 l2).2 hu
    refine ⟨k, hk, .inr ⟨hg, c0, c1, c2, ?_, ?_⟩⟩
    · unfold UpC at hc ⊢
      obtain ⟨s0, s1, s2⟩ := sh_neg a b c d
      rw [s0, s1, s2]
      exact hc
    · obtain ⟨q0, q1, q2, q3⟩ := m_negl a b c d 1073741824 c0 c1 c2
      rw [q0, q1, q2, q3]
      exact hn
theorem northD_neg {a b c d x y z u0 u1 u2 u3 : Int} (h : okO a b c d = true) (hu : NorthD a b c d x y z u0 u1 u2 u3) : NorthD (-a) (-b) (-c) (-d) x y z (-u0) (-u1) (-u2) (-u3) := by
  obtain ⟨s0, s1, s2⟩ := nh_neg a b c d x y z
  unfold NorthD at hu ⊢
  rw [s0, s1]
  rcases hu with ⟨e0, e1, rfl, rfl, rfl, rfl⟩ | ⟨hz, s0, s1, s2, hs, hu⟩
  · exact .inl ⟨e0, e1, rfl, rfl, rfl, rfl⟩
  · obtain ⟨l0, _, _⟩ := unitv_le hz hs
    have hn := unitq_neg (swing_prod h (lean_le (o := s0) (by omega))).2 hu
    refine .inr ⟨hz, s0, s1, s2, hs, ?_⟩
    obtain ⟨q0, q1, q2, q3⟩ := m_negr 1073741824 0 0 (lean s0) a b c d
    rw [q0, q1, q2, q3]
    exact hn
theorem nh_le {a b c d x y z B : Int} (h : okO a b c d = true) (hB : 0 ≤ B) (hB2 : B < 35184372088832) (hv : x * x + y * y + z * z ≤ B * B) : ok3 (nh0 a b c d x y z) (nh1 a b c d x y z) (nh2 a b c d x y z) = true := by
  have hb := tn_bound (a := a) (b := b) (c := c) (d := d) hB (sq4_pos (okO_zero h)) hv
  unfold nh0 nh1 nh2
  exact ok3_of (by omega) (by omega) (by omega)
theorem sq_le {x B : Int} (h : -B ≤ x ∧ x ≤ B) : x * x ≤ B * B := by
  have := mul_le_of h.1 h.2 h.1 h.2
  omega
set_option maxHeartbeats 2000000 in
theorem negative_any (a b c d : Int) (w : World) (ha : -35184372088832 < a ∧ a < 35184372088832) (hb : -35184372088832 < b ∧ b < 35184372088832) (hc : -35184372088832 < c ∧ c < 35184372088832) (hd : -35184372088832 < d ∧ d < 35184372088832) :
    Calls Tryz.prog 26 #[.agg #[.int .i64 a, .int .i64 b, .int .i64 c, .int .i64 d]] w fun e w' => e = .returned (.agg #[.int .i64 (-a), .int .i64 (-b), .int .i64 (-c), .int .i64 (-d)]) ∧ Ext w w' := by
  obtain ⟨a1, a2⟩ := ha; obtain ⟨b1, b2⟩ := hb; obtain ⟨c1, c2⟩ := hc; obtain ⟨d1, d2⟩ := hd
  go_enter Tryz.func26, Tryz.ntmps26
  go_wp2_with fail
  exact bodyPost_ret (v := .agg #[.int .i64 (-a), .int .i64 (-b), .int .i64 (-c), .int .i64 (-d)]) (by simp [results, Tryz.results26, go_sem]) rfl ⟨rfl, by repeat (first | with_reducible assumption | with_reducible exact Ext.refl _ | with_reducible refine Ext.drew ?_ | with_reducible refine Ext.drewN ?_ _ | with_reducible refine Ext.alloc ?_ _ | with_reducible refine Ext.set ?_ (by first | exact Nat.le_refl _ | (dsimp only; omega) | (simp; done)) _)⟩
theorem negative_back (a b c d : Int) (w : World) (ha : -35184372088832 < a ∧ a < 35184372088832) (hb : -35184372088832 < b ∧ b < 35184372088832) (hc : -35184372088832 < c ∧ c < 35184372088832) (hd : -35184372088832 < d ∧ d < 35184372088832) :
    Calls Tryz.prog 26 #[.agg #[.int .i64 (-a), .int .i64 (-b), .int .i64 (-c), .int .i64 (-d)]] w fun e w' => e = .returned (.agg #[.int .i64 a, .int .i64 b, .int .i64 c, .int .i64 d]) ∧ Ext w w' := by
  have h := negative_any (-a) (-b) (-c) (-d) w (by omega) (by omega) (by omega) (by omega)
  rw [Int.neg_neg, Int.neg_neg, Int.neg_neg, Int.neg_neg] at h
  exact h
/-- all that is told of the calls of one round -/
theorem signs_told (a b c d x y z r s q : Int) (h : okO a b c d = true) (hx : -1048576 ≤ x ∧ x ≤ 1048576) (hy : -1048576 ≤ y ∧ y ≤ 1048576) (hz : -1048576 ≤ z ∧ z ≤ 1048576) (hr : -9806650 ≤ r ∧ r ≤ 9806650) (hs : -9806650 ≤ s ∧ s ≤ 9806650) (hq : -9806650 ≤ q ∧ q ≤ 9806650) : ∃ m0 m1 m2 m3 e0 e1 e2 e3 f0 f1 f2 f3 g0 g1 g2 g3 h0 h1 h2 h3 i0 i1 i2 i3 j0 j1 j2 j3 : Int,
    (∀ w, Calls Tryz.prog 26 #[.agg #[.int .i64 a, .int .i64 b, .int .i64 c, .int .i64 d]] w fun e w' => e = .returned (.agg #[.int .i64 m0, .int .i64 m1, .int .i64 m2, .int .i64 m3]) ∧ Ext w w') ∧ (∀ w, Calls Tryz.prog 12 #[.agg #[.int .i64 a, .int .i64 b, .int .i64 c, .int .i64 d], .agg #[.int .i64 x, .int .i64 y, .int .i64 z], .int .i64 9] w fun e w' => e = .returned (.tuple #[.agg #[.int .i64 e0, .int .i64 e1, .int .i64 e2, .int .i64 e3], .int .i64 0]) ∧ Ext w w') ∧ (∀ w, Calls Tryz.prog 12 #[.agg #[.int .i64 m0, .int .i64 m1, .int .i64 m2, .int .i64 m3], .agg #[.int .i64 x, .int .i64 y, .int .i64 z], .int .i64 9] w fun e w' => e = .returned (.tuple #[.agg #[.int .i64 f0, .int .i64 f1, .int .i64 f2, .int .i64 f3], .int .i64 0]) ∧ Ext w w') ∧ (∀ w, Calls Tryz.prog 16 #[.agg #[.int .i64 a, .int .i64 b, .int .i64 c, .int .i64 d], .agg #[.int .i64 r, .int .i64 s, .int .i64 q]] w fun e w' => e = .returned (.tuple #[.agg #[.int .i64 g0, .int .i64 g1, .int .i64 g2, .int .i64 g3], .int .i64 0]) ∧ Ext w w') ∧ (∀ w, Calls Tryz.prog 16 #[.agg #[.int .i64 m0, .int .i64 m1, .int .i64 m2, .int .i64 m3], .agg #[.int .i64 r, .int .i64 s, .int .i64 q]] w fun e w' => e = .returned (.tuple #[.agg #[.int .i64 h0, .int .i64 h1, .int .i64 h2, .int .i64 h3], .int .i64 0]) ∧ Ext w w') ∧ (∀ w, Calls Tryz.prog 17 #[.agg #[.int .i64 a, .int .i64 b, .int .i64 c, .int .i64 d], .agg #[.int .i64 r, .int .i64 s, .int .i64 q]] w fun e w' => e = .returned (.tuple #[.agg #[.int .i64 i0, .int .i64 i1, .int .i64 i2, .int .i64 i3], .int .i64 0]) ∧ Ext w w') ∧ (∀ w, Calls Tryz.prog 17 #[.agg #[.int .i64 m0, .int .i64 m1, .int .i64 m2, .int .i64 m3], .agg #[.int .i64 r, .int .i64 s, .int .i64 q]] w fun e w' => e = .returned (.tuple #[.agg #[.int .i64 j0, .int .i64 j1, .int .i64 j2, .int .i64 j3], .int .i64 0]) ∧ Ext w w') ∧ (∀ w, Calls Tryz.prog 26 #[.agg #[.int .i64 f0, .int .i64 f1, .int .i64 f2, .int .i64 f3]] w fun e w' => e = .returned (.agg #[.int .i64 e0, .int .i64 e1, .int .i64 e2, .int .i64 e3]) ∧ Ext w w') ∧ (∀ w, Calls Tryz.prog 26 #[.agg #[.int .i64 h0, .int .i64 h1, .int .i64 h2, .int .i64 h3]] w fun e w' => e = .returned (.agg #[.int .i64 g0, .int .i64 g1, .int .i64 g2, .int .i64 g3]) ∧ Ext w w') ∧ (∀ w, Calls Tryz.prog 26 #[.agg #[.int .i64 j0, .int .i64 j1, .int .i64 j2, .int .i64 j3]] w fun e w' => e = .returned (.agg #[.int .i64 i0, .int .i64 i1, .int .i64 i2, .int .i64 i3]) ∧ Ext w w') := by
  have hn := okO_neg h
  obtain ⟨ha, hb, hc, hd⟩ := okO_abs h
  obtain ⟨e0, e1, e2, e3, he⟩ := spinD_ex (9 * x) (9 * y) (9 * z) h
  obtain ⟨g0, g1, g2, g3, hg⟩ := upD_ex r s q h
  obtain ⟨i0, i1, i2, i3, hi⟩ := northD_ex r s q h
  have oe := okO_abs (spinD_ok h he)
  have og := okO_abs (upD_ok h hg)
  have oi := okO_abs (northD_ok h hi)
  have k3 : ok3 x y z = true := ok3_of (by omega) (by omega) (by omega)
  have k3' : ok3 r s q = true := ok3_of (by omega) (by omega) (by omega)
  have v1 := sq_le hr; have v2 := sq_le hs; have v3 := sq_le hq
  have nl := nh_le (x := r) (y := s) (z := q) (B := 33554432) h (by decide) (by decide) (by omega)
  have nl' := nh_le (x := r) (y := s) (z := q) (B := 33554432) hn (by decide) (by decide) (by omega)
  have hrad : rad3 (9 * x) (9 * y) (9 * z) = true := rad3_of (by omega) (by omega) (by omega)
  refine ⟨-a, -b, -c, -d, e0, e1, e2, e3, -e0, -e1, -e2, -e3, g0, g1, g2, g3, -g0, -g1, -g2, -g3, i0, i1, i2, i3, -i0, -i1, -i2, -i3, fun w => negative_any a b c d w (by omega) (by omega) (by omega) (by omega), fun w => spin_told w h k3 (by decide) hrad he, fun w => spin_told w hn k3 (by decide) hrad (spinD_neg h he), fun w => up_told w h k3' hg, fun w => up_told w hn k3' (upD_neg h hg), fun w => north_told w h k3' nl hi, fun w => north_told w hn k3' nl' (northD_neg h hi), fun w => negative_back _ _ _ _ w (by omega) (by omega) (by omega) (by omega), fun w => negative_back _ _ _ _ w (by omega) (by omega) (by omega) (by omega), fun w => negative_back _ _ _ _ w (by omega) (by omega) (by omega) (by omega)⟩
set_option maxRecDepth 20000 in
set_option maxHeartbeats 40000000 in
theorem signs_any (b off len cap : Nat) (Z : Nat → Nat → Int) (w : World) (hl : len ≤ maxLen) (hc : NL 8 w b off len Z) :
    Calls Tryz.prog 6 #[.slice (some ⟨b, off, none⟩) len cap] w fun e w' => e = .returned (.bool true) ∧ Ext w w' := by
  have hl' : len ≤ 9223372036854775807 := by unfold maxLen at hl; omega
  clear hl
  go_enter Tryz.func6, Tryz.ntmps6
  go_wp2_with fail
  go_loopw [3] (fun i wr => ∃ k : Nat, k ≤ len ∧ i = .int .i64 k ∧ Hid (Ext w wr)) (fun i _ => len - (intOf i).toNat)
  case atStart => exact ⟨0, Nat.zero_le _, rfl, Ext.refl _⟩
  case round =>
    obtain ⟨k, hk, rfl, FX⟩ := hrel
    by_cases hlt : k < len
    · by_cases h5 : k < 6
      · skip
        obtain ⟨c0, n0a, n0b⟩ := (hc.ext FX.out) k hlt 0 (by omega)
        obtain ⟨c1, n1a, n1b⟩ := (hc.ext FX.out) k hlt 1 (by omega)
        obtain ⟨c2, n2a, n2b⟩ := (hc.ext FX.out) k hlt 2 (by omega)
        obtain ⟨c3, n3a, n3b⟩ := (hc.ext FX.out) k hlt 3 (by omega)
        obtain ⟨c4, n4a, n4b⟩ := (hc.ext FX.out) k hlt 4 (by omega)
        obtain ⟨c5, n5a, n5b⟩ := (hc.ext FX.out) k hlt 5 (by omega)
        obtain ⟨c6, n6a, n6b⟩ := (hc.ext FX.out) k hlt 6 (by omega)
        obtain ⟨c7, n7a, n7b⟩ := (hc.ext FX.out) k hlt 7 (by omega)
        rw [Nat.add_zero] at c0
        have hlt' : (k : Int) < (len : Int) := by omega
        clear hc n0a n0b n1a n1b n2a n2b n3a n3b n4a n4b n5a n5b n6a n6b n7a n7b
        generalize Z k 0 = y0 at *
        generalize Z k 1 = y1 at *
        generalize Z k 2 = y2 at *
        generalize Z k 3 = y3 at *
        generalize Z k 4 = y4 at *
        generalize Z k 5 = y5 at *
        generalize Z k 6 = y6 at *
        generalize Z k 7 = y7 at *
        obtain ⟨u0, u1, u2, u3, ok, HU, hok⟩ := lunit_any y0 y1 y2 y3
        have HU : Hid (∀ w, Calls Tryz.prog 21 #[.agg #[.int .i64 y0, .int .i64 y1, .int .i64 y2, .int .i64 y3]] w fun e w' => e = .returned (.tuple #[.agg #[.int .i64 u0, .int .i64 u1, .int .i64 u2, .int .i64 u3], .bool ok]) ∧ Ext w w') := HU
        have hok : Hid (ok = true → isU u0 u1 u2 u3 ∧ okO u0 u1 u2 u3 = true) := hok
        go_upto_region 5 with fail
        clear c0 c1 c2 c3 c4 c5 c6 c7
        have Lp : Hid (w.heap.size ≤ wr.heap.size) := FX.out.size
        have Fp : Hid (HV (wr.alloc (.cells #[.int .i64 y0, .int .i64 y1, .int .i64 y2, .int .i64 y3, .int .i64 y4, .int .i64 y5, .int .i64 y6, .int .i64 y7] 30)) wr.heap.size [.int .i64 y0, .int .i64 y1, .int .i64 y2, .int .i64 y3, .int .i64 y4, .int .i64 y5, .int .i64 y6, .int .i64 y7]) := hv_at rfl
        have FX : Hid (Ext w (wr.alloc (.cells #[.int .i64 y0, .int .i64 y1, .int .i64 y2, .int .i64 y3, .int .i64 y4, .int .i64 y5, .int .i64 y6, .int .i64 y7] 30))) := FX.out.alloc _
        generalize (wr.alloc (.cells #[.int .i64 y0, .int .i64 y1, .int .i64 y2, .int .i64 y3, .int .i64 y4, .int .i64 y5, .int .i64 y6, .int .i64 y7] 30)) = wx1 at *
        generalize wr.heap.size = np at *
        have qp0 : wx1.cell? ⟨np, 0, none⟩ = some (.int .i64 y0) := Fp.out.c 0 rfl
        have qp1 : wx1.cell? ⟨np, 1, none⟩ = some (.int .i64 y1) := Fp.out.c 1 rfl
        have qp2 : wx1.cell? ⟨np, 2, none⟩ = some (.int .i64 y2) := Fp.out.c 2 rfl
        have qp3 : wx1.cell? ⟨np, 3, none⟩ = some (.int .i64 y3) := Fp.out.c 3 rfl
        go_upto_region 6 with (first | (go_at_call 21; refine (HU.out _).mono ?_; rintro e w5 ⟨rfl, x5⟩))
        have Fp : Hid (HV w5 np [.int .i64 y0, .int .i64 y1, .int .i64 y2, .int .i64 y3, .int .i64 y4, .int .i64 y5, .int .i64 y6, .int .i64 y7]) := Fp.out.ext x5
        have FX : Hid (Ext w w5) := FX.out.trans x5
        clear qp0 qp1 qp2 qp3 x5 HU
        have ltpf : np < w5.heap.size := Fp.out.1
        have Lf : Hid (w.heap.size ≤ w5.heap.size) := FX.out.size
        have Fp : Hid (HV (w5.alloc (.cells #[.int .i64 u0, .int .i64 u1, .int .i64 u2, .int .i64 u3] 26)) np [.int .i64 y0, .int .i64 y1, .int .i64 y2, .int .i64 y3, .int .i64 y4, .int .i64 y5, .int .i64 y6, .int .i64 y7]) := Fp.out.alloc _
        have Ff : Hid (HV (w5.alloc (.cells #[.int .i64 u0, .int .i64 u1, .int .i64 u2, .int .i64 u3] 26)) w5.heap.size [.int .i64 u0, .int .i64 u1, .int .i64 u2, .int .i64 u3]) := hv_at rfl
        have FX : Hid (Ext w (w5.alloc (.cells #[.int .i64 u0, .int .i64 u1, .int .i64 u2, .int .i64 u3] 26))) := FX.out.alloc _
        generalize (w5.alloc (.cells #[.int .i64 u0, .int .i64 u1, .int .i64 u2, .int .i64 u3] 26)) = wx2 at *
        generalize w5.heap.size = nf at *
        cases ok
        · clear hok Fp Ff
          go_wp2_with fail
          go_roundw
          case rel => exact ⟨k + 1, by omega, by go_num, FX⟩
          case measure => simp [intOf]; omega
        · obtain ⟨hU, hO⟩ := hok.out rfl
          clear hok hU
          have bv0 := brt_bounds 1048576 y4 (by decide)
          have bv1 := brt_bounds 1048576 y5 (by decide)
          have bv2 := brt_bounds 1048576 y6 (by decide)
          have Hv : Hid (∀ w, Calls Tryz.prog 22 #[.agg #[.int .i64 y4, .int .i64 y5, .int .i64 y6], .int .i64 1048576] w fun e w' => e = .returned (.agg #[.int .i64 (brt 1048576 y4), .int .i64 (brt 1048576 y5), .int .i64 (brt 1048576 y6)]) ∧ Ext w w') := brvec_1048576 _ _ _
          generalize brt 1048576 y4 = v0 at *
          generalize brt 1048576 y5 = v1 at *
          generalize brt 1048576 y6 = v2 at *
          have bt0 := brt_bounds 9806650 y4 (by decide)
          have bt1 := brt_bounds 9806650 y5 (by decide)
          have bt2 := brt_bounds 9806650 y6 (by decide)
          have Ht : Hid (∀ w, Calls Tryz.prog 22 #[.agg #[.int .i64 y4, .int .i64 y5, .int .i64 y6], .int .i64 9806650] w fun e w' => e = .returned (.agg #[.int .i64 (brt 9806650 y4), .int .i64 (brt 9806650 y5), .int .i64 (brt 9806650 y6)]) ∧ Ext w w') := brvec_9806650 _ _ _
          generalize brt 9806650 y4 = t0 at *
          generalize brt 9806650 y5 = t1 at *
          generalize brt 9806650 y6 = t2 at *
          obtain ⟨m0, m1, m2, m3, e0, e1, e2, e3, f0, f1, f2, f3, g0, g1, g2, g3, h0, h1, h2, h3, i0, i1, i2, i3, j0, j1, j2, j3, N0, S1, S2, P1, P2, O1, O2, N1, N2, N3⟩ := signs_told u0 u1 u2 u3 v0 v1 v2 t0 t1 t2 hO bv0 bv1 bv2 bt0 bt1 bt2
          have N0 : Hid (∀ w, Calls Tryz.prog 26 #[.agg #[.int .i64 u0, .int .i64 u1, .int .i64 u2, .int .i64 u3]] w fun e w' => e = .returned (.agg #[.int .i64 m0, .int .i64 m1, .int .i64 m2, .int .i64 m3]) ∧ Ext w w') := N0
          have S1 : Hid (∀ w, Calls Tryz.prog 12 #[.agg #[.int .i64 u0, .int .i64 u1, .int .i64 u2, .int .i64 u3], .agg #[.int .i64 v0, .int .i64 v1, .int .i64 v2], .int .i64 9] w fun e w' => e = .returned (.tuple #[.agg #[.int .i64 e0, .int .i64 e1, .int .i64 e2, .int .i64 e3], .int .i64 0]) ∧ Ext w w') := S1
          have S2 : Hid (∀ w, Calls Tryz.prog 12 #[.agg #[.int .i64 m0, .int .i64 m1, .int .i64 m2, .int .i64 m3], .agg #[.int .i64 v0, .int .i64 v1, .int .i64 v2], .int .i64 9] w fun e w' => e = .returned (.tuple #[.agg #[.int .i64 f0, .int .i64 f1, .int .i64 f2, .int .i64 f3], .int .i64 0]) ∧ Ext w w') := S2
          have P1 : Hid (∀ w, Calls Tryz.prog 16 #[.agg #[.int .i64 u0, .int .i64 u1, .int .i64 u2, .int .i64 u3], .agg #[.int .i64 t0, .int .i64 t1, .int .i64 t2]] w fun e w' => e = .returned (.tuple #[.agg #[.int .i64 g0, .int .i64 g1, .int .i64 g2, .int .i64 g3], .int .i64 0]) ∧ Ext w w') := P1
          have P2 : Hid (∀ w, Calls Tryz.prog 16 #[.agg #[.int .i64 m0, .int .i64 m1, .int .i64 m2, .int .i64 m3], .agg #[.int .i64 t0, .int .i64 t1, .int .i64 t2]] w fun e w' => e = .returned (.tuple #[.agg #[.int .i64 h0, .int .i64 h1, .int .i64 h2, .int .i64 h3], .int .i64 0]) ∧ Ext w w') := P2
          have O1 : Hid (∀ w, Calls Tryz.prog 17 #[.agg #[.int .i64 u0, .int .i64 u1, .int .i64 u2, .int .i64 u3], .agg #[.int .i64 t0, .int .i64 t1, .int .i64 t2]] w fun e w' => e = .returned (.tuple #[.agg #[.int .i64 i0, .int .i64 i1, .int .i64 i2, .int .i64 i3], .int .i64 0]) ∧ Ext w w') := O1
          have O2 : Hid (∀ w, Calls Tryz.prog 17 #[.agg #[.int .i64 m0, .int .i64 m1, .int .i64 m2, .int .i64 m3], .agg #[.int .i64 t0, .int .i64 t1, .int .i64 t2]] w fun e w' => e = .returned (.tuple #[.agg #[.int .i64 j0, .int .i64 j1, .int .i64 j2, .int .i64 j3], .int .i64 0]) ∧ Ext w w') := O2
          have N1 : Hid (∀ w, Calls Tryz.prog 26 #[.agg #[.int .i64 f0, .int .i64 f1, .int .i64 f2, .int .i64 f3]] w fun e w' => e = .returned (.agg #[.int .i64 e0, .int .i64 e1, .int .i64 e2, .int .i64 e3]) ∧ Ext w w') := N1
          have N2 : Hid (∀ w, Calls Tryz.prog 26 #[.agg #[.int .i64 h0, .int .i64 h1, .int .i64 h2, .int .i64 h3]] w fun e w' => e = .returned (.agg #[.int .i64 g0, .int .i64 g1, .int .i64 g2, .int .i64 g3]) ∧ Ext w w') := N2
          have N3 : Hid (∀ w, Calls Tryz.prog 26 #[.agg #[.int .i64 j0, .int .i64 j1, .int .i64 j2, .int .i64 j3]] w fun e w' => e = .returned (.agg #[.int .i64 i0, .int .i64 i1, .int .i64 i2, .int .i64 i3]) ∧ Ext w w') := N3
          clear bv0 bv1 bv2 bt0 bt1 bt2 hO
          have qf0 : wx2.cell? ⟨nf, 0, none⟩ = some (.int .i64 u0) := Ff.out.c 0 rfl
          have qf1 : wx2.cell? ⟨nf, 1, none⟩ = some (.int .i64 u1) := Ff.out.c 1 rfl
          have qf2 : wx2.cell? ⟨nf, 2, none⟩ = some (.int .i64 u2) := Ff.out.c 2 rfl
          have qf3 : wx2.cell? ⟨nf, 3, none⟩ = some (.int .i64 u3) := Ff.out.c 3 rfl
          go_upto_region 8 with (first | (go_at_call 26; refine (N0.out _).mono ?_; rintro e w6 ⟨rfl, x6⟩))
          have Fp : Hid (HV w6 np [.int .i64 y0, .int .i64 y1, .int .i64 y2, .int .i64 y3, .int .i64 y4, .int .i64 y5, .int .i64 y6, .int .i64 y7]) := Fp.out.ext x6
          have Ff : Hid (HV w6 nf [.int .i64 u0, .int .i64 u1, .int .i64 u2, .int .i64 u3]) := Ff.out.ext x6
          have FX : Hid (Ext w w6) := FX.out.trans x6
          clear qf0 qf1 qf2 qf3 x6 N0
          have ltpm : np < w6.heap.size := Fp.out.1
          have ltfm : nf < w6.heap.size := Ff.out.1
          have Lm : Hid (w.heap.size ≤ w6.heap.size) := FX.out.size
          have Fp : Hid (HV (w6.alloc (.cells #[.int .i64 m0, .int .i64 m1, .int .i64 m2, .int .i64 m3] 26)) np [.int .i64 y0, .int .i64 y1, .int .i64 y2, .int .i64 y3, .int .i64 y4, .int .i64 y5, .int .i64 y6, .int .i64 y7]) := Fp.out.alloc _
          have Ff : Hid (HV (w6.alloc (.cells #[.int .i64 m0, .int .i64 m1, .int .i64 m2, .int .i64 m3] 26)) nf [.int .i64 u0, .int .i64 u1, .int .i64 u2, .int .i64 u3]) := Ff.out.alloc _
          have Fm : Hid (HV (w6.alloc (.cells #[.int .i64 m0, .int .i64 m1, .int .i64 m2, .int .i64 m3] 26)) w6.heap.size [.int .i64 m0, .int .i64 m1, .int .i64 m2, .int .i64 m3]) := hv_at rfl
          have FX : Hid (Ext w (w6.alloc (.cells #[.int .i64 m0, .int .i64 m1, .int .i64 m2, .int .i64 m3] 26))) := FX.out.alloc _
          generalize (w6.alloc (.cells #[.int .i64 m0, .int .i64 m1, .int .i64 m2, .int .i64 m3] 26)) = wx3 at *
          generalize w6.heap.size = nm at *
          have qp4 : wx3.cell? ⟨np, 4, none⟩ = some (.int .i64 y4) := Fp.out.c 4 rfl
          have qp5 : wx3.cell? ⟨np, 5, none⟩ = some (.int .i64 y5) := Fp.out.c 5 rfl
          have qp6 : wx3.cell? ⟨np, 6, none⟩ = some (.int .i64 y6) := Fp.out.c 6 rfl
          go_upto_region 9 with (first | (go_at_call 22; refine (Hv.out _).mono ?_; rintro e w7 ⟨rfl, x7⟩))
          have Fp : Hid (HV w7 np [.int .i64 y0, .int .i64 y1, .int .i64 y2, .int .i64 y3, .int .i64 y4, .int .i64 y5, .int .i64 y6, .int .i64 y7]) := Fp.out.ext x7
          have Ff : Hid (HV w7 nf [.int .i64 u0, .int .i64 u1, .int .i64 u2, .int .i64 u3]) := Ff.out.ext x7
          have Fm : Hid (HV w7 nm [.int .i64 m0, .int .i64 m1, .int .i64 m2, .int .i64 m3]) := Fm.out.ext x7
          have FX : Hid (Ext w w7) := FX.out.trans x7
          clear qp4 qp5 qp6 x7 Hv
          have ltpv : np < w7.heap.size := Fp.out.1
          have ltfv : nf < w7.heap.size := Ff.out.1
          have ltmv : nm < w7.heap.size := Fm.out.1
          have Lv : Hid (w.heap.size ≤ w7.heap.size) := FX.out.size
          have Fp : Hid (HV (w7.alloc (.cells #[.int .i64 v0, .int .i64 v1, .int .i64 v2] 28)) np [.int .i64 y0, .int .i64 y1, .int .i64 y2, .int .i64 y3, .int .i64 y4, .int .i64 y5, .int .i64 y6, .int .i64 y7]) := Fp.out.alloc _
          have Ff : Hid (HV (w7.alloc (.cells #[.int .i64 v0, .int .i64 v1, .int .i64 v2] 28)) nf [.int .i64 u0, .int .i64 u1, .int .i64 u2, .int .i64 u3]) := Ff.out.alloc _
          have Fm : Hid (HV (w7.alloc (.cells #[.int .i64 v0, .int .i64 v1, .int .i64 v2] 28)) nm [.int .i64 m0, .int .i64 m1, .int .i64 m2, .int .i64 m3]) := Fm.out.alloc _
          have Fv : Hid (HV (w7.alloc (.cells #[.int .i64 v0, .int .i64 v1, .int .i64 v2] 28)) w7.heap.size [.int .i64 v0, .int .i64 v1, .int .i64 v2]) := hv_at rfl
          have FX : Hid (Ext w (w7.alloc (.cells #[.int .i64 v0, .int .i64 v1, .int .i64 v2] 28))) := FX.out.alloc _
          generalize (w7.alloc (.cells #[.int .i64 v0, .int .i64 v1, .int .i64 v2] 28)) = wx4 at *
          generalize w7.heap.size = nv at *
          have qf0 : wx4.cell? ⟨nf, 0, none⟩ = some (.int .i64 u0) := Ff.out.c 0 rfl
          have qf1 : wx4.cell? ⟨nf, 1, none⟩ = some (.int .i64 u1) := Ff.out.c 1 rfl
          have qf2 : wx4.cell? ⟨nf, 2, none⟩ = some (.int .i64 u2) := Ff.out.c 2 rfl
          have qf3 : wx4.cell? ⟨nf, 3, none⟩ = some (.int .i64 u3) := Ff.out.c 3 rfl
          have qv0 : wx4.cell? ⟨nv, 0, none⟩ = some (.int .i64 v0) := Fv.out.c 0 rfl
          have qv1 : wx4.cell? ⟨nv, 1, none⟩ = some (.int .i64 v1) := Fv.out.c 1 rfl
          have qv2 : wx4.cell? ⟨nv, 2, none⟩ = some (.int .i64 v2) := Fv.out.c 2 rfl
          go_upto_region 10 with (first | (go_at_call 12; refine (S1.out _).mono ?_; rintro e w8 ⟨rfl, x8⟩))
          have Fp : Hid (HV w8 np [.int .i64 y0, .int .i64 y1, .int .i64 y2, .int .i64 y3, .int .i64 y4, .int .i64 y5, .int .i64 y6, .int .i64 y7]) := Fp.out.ext x8
          have Ff : Hid (HV w8 nf [.int .i64 u0, .int .i64 u1, .int .i64 u2, .int .i64 u3]) := Ff.out.ext x8
          have Fm : Hid (HV w8 nm [.int .i64 m0, .int .i64 m1, .int .i64 m2, .int .i64 m3]) := Fm.out.ext x8
          have Fv : Hid (HV w8 nv [.int .i64 v0, .int .i64 v1, .int .i64 v2]) := Fv.out.ext x8
          have FX : Hid (Ext w w8) := FX.out.trans x8
          clear qf0 qf1 qf2 qf3 qv0 qv1 qv2 x8 S1
          have ltpe : np < w8.heap.size := Fp.out.1
          have ltfe : nf < w8.heap.size := Ff.out.1
          have ltme : nm < w8.heap.size := Fm.out.1
          have ltve : nv < w8.heap.size := Fv.out.1
          have Le : Hid (w.heap.size ≤ w8.heap.size) := FX.out.size
          have Fp : Hid (HV (w8.alloc (.cells #[.int .i64 e0, .int .i64 e1, .int .i64 e2, .int .i64 e3] 26)) np [.int .i64 y0, .int .i64 y1, .int .i64 y2, .int .i64 y3, .int .i64 y4, .int .i64 y5, .int .i64 y6, .int .i64 y7]) := Fp.out.alloc _
          have Ff : Hid (HV (w8.alloc (.cells #[.int .i64 e0, .int .i64 e1, .int .i64 e2, .int .i64 e3] 26)) nf [.int .i64 u0, .int .i64 u1, .int .i64 u2, .int .i64 u3]) := Ff.out.alloc _
          have Fm : Hid (HV (w8.alloc (.cells #[.int .i64 e0, .int .i64 e1, .int .i64 e2, .int .i64 e3] 26)) nm [.int .i64 m0, .int .i64 m1, .int .i64 m2, .int .i64 m3]) := Fm.out.alloc _
          have Fv : Hid (HV (w8.alloc (.cells #[.int .i64 e0, .int .i64 e1, .int .i64 e2, .int .i64 e3] 26)) nv [.int .i64 v0, .int .i64 v1, .int .i64 v2]) := Fv.out.alloc _
          have Fe : Hid (HV (w8.alloc (.cells #[.int .i64 e0, .int .i64 e1, .int .i64 e2, .int .i64 e3] 26)) w8.heap.size [.int .i64 e0, .int .i64 e1, .int .i64 e2, .int .i64 e3]) := hv_at rfl
          have FX : Hid (Ext w (w8.alloc (.cells #[.int .i64 e0, .int .i64 e1, .int .i64 e2, .int .i64 e3] 26))) := FX.out.alloc _
          generalize (w8.alloc (.cells #[.int .i64 e0, .int .i64 e1, .int .i64 e2, .int .i64 e3] 26)) = wx5 at *
          generalize w8.heap.size = ne at *
          have qm0 : wx5.cell? ⟨nm, 0, none⟩ = some (.int .i64 m0) := Fm.out.c 0 rfl
          have qm1 : wx5.cell? ⟨nm, 1, none⟩ = some (.int .i64 m1) := Fm.out.c 1 rfl
          have qm2 : wx5.cell? ⟨nm, 2, none⟩ = some (.int .i64 m2) := Fm.out.c 2 rfl
          have qm3 : wx5.cell? ⟨nm, 3, none⟩ = some (.int .i64 m3) := Fm.out.c 3 rfl
          have qv0 : wx5.cell? ⟨nv, 0, none⟩ = some (.int .i64 v0) := Fv.out.c 0 rfl
          have qv1 : wx5.cell? ⟨nv, 1, none⟩ = some (.int .i64 v1) := Fv.out.c 1 rfl
          have qv2 : wx5.cell? ⟨nv, 2, none⟩ = some (.int .i64 v2) := Fv.out.c 2 rfl
          go_upto_region 11 with (first | (go_at_call 12; refine (S2.out _).mono ?_; rintro e w9 ⟨rfl, x9⟩))
          have Fp : Hid (HV w9 np [.int .i64 y0, .int .i64 y1, .int .i64 y2, .int .i64 y3, .int .i64 y4, .int .i64 y5, .int .i64 y6, .int .i64 y7]) := Fp.out.ext x9
          have Ff : Hid (HV w9 nf [.int .i64 u0, .int .i64 u1, .int .i64 u2, .int .i64 u3]) := Ff.out.ext x9
          have Fm : Hid (HV w9 nm [.int .i64 m0, .int .i64 m1, .int .i64 m2, .int .i64 m3]) := Fm.out.ext x9
          have Fv : Hid (HV w9 nv [.int .i64 v0, .int .i64 v1, .int .i64 v2]) := Fv.out.ext x9
          have Fe : Hid (HV w9 ne [.int .i64 e0, .int .i64 e1, .int .i64 e2, .int .i64 e3]) := Fe.out.ext x9
          have FX : Hid (Ext w w9) := FX.out.trans x9
          clear qm0 qm1 qm2 qm3 qv0 qv1 qv2 x9 S2
          have ltpk : np < w9.heap.size := Fp.out.1
          have ltfk : nf < w9.heap.size := Ff.out.1
          have ltmk : nm < w9.heap.size := Fm.out.1
          have ltvk : nv < w9.heap.size := Fv.out.1
          have ltek : ne < w9.heap.size := Fe.out.1
          have Lk : Hid (w.heap.size ≤ w9.heap.size) := FX.out.size
          have Fp : Hid (HV (w9.alloc (.cells #[.int .i64 f0, .int .i64 f1, .int .i64 f2, .int .i64 f3] 26)) np [.int .i64 y0, .int .i64 y1, .int .i64 y2, .int .i64 y3, .int .i64 y4, .int .i64 y5, .int .i64 y6, .int .i64 y7]) := Fp.out.alloc _
          have Ff : Hid (HV (w9.alloc (.cells #[.int .i64 f0, .int .i64 f1, .int .i64 f2, .int .i64 f3] 26)) nf [.int .i64 u0, .int .i64 u1, .int .i64 u2, .int .i64 u3]) := Ff.out.alloc _
          have Fm : Hid (HV (w9.alloc (.cells #[.int .i64 f0, .int .i64 f1, .int .i64 f2, .int .i64 f3] 26)) nm [.int .i64 m0, .int .i64 m1, .int .i64 m2, .int .i64 m3]) := Fm.out.alloc _
          have Fv : Hid (HV (w9.alloc (.cells #[.int .i64 f0, .int .i64 f1, .int .i64 f2, .int .i64 f3] 26)) nv [.int .i64 v0, .int .i64 v1, .int .i64 v2]) := Fv.out.alloc _
          have Fe : Hid (HV (w9.alloc (.cells #[.int .i64 f0, .int .i64 f1, .int .i64 f2, .int .i64 f3] 26)) ne [.int .i64 e0, .int .i64 e1, .int .i64 e2, .int .i64 e3]) := Fe.out.alloc _
          have Fk : Hid (HV (w9.alloc (.cells #[.int .i64 f0, .int .i64 f1, .int .i64 f2, .int .i64 f3] 26)) w9.heap.size [.int .i64 f0, .int .i64 f1, .int .i64 f2, .int .i64 f3]) := hv_at rfl
          have FX : Hid (Ext w (w9.alloc (.cells #[.int .i64 f0, .int .i64 f1, .int .i64 f2, .int .i64 f3] 26))) := FX.out.alloc _
          generalize (w9.alloc (.cells #[.int .i64 f0, .int .i64 f1, .int .i64 f2, .int .i64 f3] 26)) = wx6 at *
          generalize w9.heap.size = nk at *
          have qp4 : wx6.cell? ⟨np, 4, none⟩ = some (.int .i64 y4) := Fp.out.c 4 rfl
          have qp5 : wx6.cell? ⟨np, 5, none⟩ = some (.int .i64 y5) := Fp.out.c 5 rfl
          have qp6 : wx6.cell? ⟨np, 6, none⟩ = some (.int .i64 y6) := Fp.out.c 6 rfl
          go_upto_region 12 with (first | (go_at_call 22; refine (Ht.out _).mono ?_; rintro e w10 ⟨rfl, x10⟩))
          have Fp : Hid (HV w10 np [.int .i64 y0, .int .i64 y1, .int .i64 y2, .int .i64 y3, .int .i64 y4, .int .i64 y5, .int .i64 y6, .int .i64 y7]) := Fp.out.ext x10
          have Ff : Hid (HV w10 nf [.int .i64 u0, .int .i64 u1, .int .i64 u2, .int .i64 u3]) := Ff.out.ext x10
          have Fm : Hid (HV w10 nm [.int .i64 m0, .int .i64 m1, .int .i64 m2, .int .i64 m3]) := Fm.out.ext x10
          have Fe : Hid (HV w10 ne [.int .i64 e0, .int .i64 e1, .int .i64 e2, .int .i64 e3]) := Fe.out.ext x10
          have Fk : Hid (HV w10 nk [.int .i64 f0, .int .i64 f1, .int .i64 f2, .int .i64 f3]) := Fk.out.ext x10
          have FX : Hid (Ext w w10) := FX.out.trans x10
          clear qp4 qp5 qp6 x10 Ht
          have ltft : nf < w10.heap.size := Ff.out.1
          have ltmt : nm < w10.heap.size := Fm.out.1
          have ltet : ne < w10.heap.size := Fe.out.1
          have ltkt : nk < w10.heap.size := Fk.out.1
          have Lt : Hid (w.heap.size ≤ w10.heap.size) := FX.out.size
          have Ff : Hid (HV (w10.alloc (.cells #[.int .i64 t0, .int .i64 t1, .int .i64 t2] 28)) nf [.int .i64 u0, .int .i64 u1, .int .i64 u2, .int .i64 u3]) := Ff.out.alloc _
          have Fm : Hid (HV (w10.alloc (.cells #[.int .i64 t0, .int .i64 t1, .int .i64 t2] 28)) nm [.int .i64 m0, .int .i64 m1, .int .i64 m2, .int .i64 m3]) := Fm.out.alloc _
          have Fe : Hid (HV (w10.alloc (.cells #[.int .i64 t0, .int .i64 t1, .int .i64 t2] 28)) ne [.int .i64 e0, .int .i64 e1, .int .i64 e2, .int .i64 e3]) := Fe.out.alloc _
          have Fk : Hid (HV (w10.alloc (.cells #[.int .i64 t0, .int .i64 t1, .int .i64 t2] 28)) nk [.int .i64 f0, .int .i64 f1, .int .i64 f2, .int .i64 f3]) := Fk.out.alloc _
          have Ft : Hid (HV (w10.alloc (.cells #[.int .i64 t0, .int .i64 t1, .int .i64 t2] 28)) w10.heap.size [.int .i64 t0, .int .i64 t1, .int .i64 t2]) := hv_at rfl
          have FX : Hid (Ext w (w10.alloc (.cells #[.int .i64 t0, .int .i64 t1, .int .i64 t2] 28))) := FX.out.alloc _
          generalize (w10.alloc (.cells #[.int .i64 t0, .int .i64 t1, .int .i64 t2] 28)) = wx7 at *
          generalize w10.heap.size = nt at *
          have qf0 : wx7.cell? ⟨nf, 0, none⟩ = some (.int .i64 u0) := Ff.out.c 0 rfl
          have qf1 : wx7.cell? ⟨nf, 1, none⟩ = some (.int .i64 u1) := Ff.out.c 1 rfl
          have qf2 : wx7.cell? ⟨nf, 2, none⟩ = some (.int .i64 u2) := Ff.out.c 2 rfl
          have qf3 : wx7.cell? ⟨nf, 3, none⟩ = some (.int .i64 u3) := Ff.out.c 3 rfl
          have qt0 : wx7.cell? ⟨nt, 0, none⟩ = some (.int .i64 t0) := Ft.out.c 0 rfl
          have qt1 : wx7.cell? ⟨nt, 1, none⟩ = some (.int .i64 t1) := Ft.out.c 1 rfl
          have qt2 : wx7.cell? ⟨nt, 2, none⟩ = some (.int .i64 t2) := Ft.out.c 2 rfl
          go_upto_region 13 with (first | (go_at_call 16; refine (P1.out _).mono ?_; rintro e w11 ⟨rfl, x11⟩))
          have Ff : Hid (HV w11 nf [.int .i64 u0, .int .i64 u1, .int .i64 u2, .int .i64 u3]) := Ff.out.ext x11
          have Fm : Hid (HV w11 nm [.int .i64 m0, .int .i64 m1, .int .i64 m2, .int .i64 m3]) := Fm.out.ext x11
          have Fe : Hid (HV w11 ne [.int .i64 e0, .int .i64 e1, .int .i64 e2, .int .i64 e3]) := Fe.out.ext x11
          have Fk : Hid (HV w11 nk [.int .i64 f0, .int .i64 f1, .int .i64 f2, .int .i64 f3]) := Fk.out.ext x11
          have Ft : Hid (HV w11 nt [.int .i64 t0, .int .i64 t1, .int .i64 t2]) := Ft.out.ext x11
          have FX : Hid (Ext w w11) := FX.out.trans x11
          clear qf0 qf1 qf2 qf3 qt0 qt1 qt2 x11 P1
          have ltfg : nf < w11.heap.size := Ff.out.1
          have ltmg : nm < w11.heap.size := Fm.out.1
          have lteg : ne < w11.heap.size := Fe.out.1
          have ltkg : nk < w11.heap.size := Fk.out.1
          have lttg : nt < w11.heap.size := Ft.out.1
          have Lg : Hid (w.heap.size ≤ w11.heap.size) := FX.out.size
          have Ff : Hid (HV (w11.alloc (.cells #[.int .i64 g0, .int .i64 g1, .int .i64 g2, .int .i64 g3] 26)) nf [.int .i64 u0, .int .i64 u1, .int .i64 u2, .int .i64 u3]) := Ff.out.alloc _
          have Fm : Hid (HV (w11.alloc (.cells #[.int .i64 g0, .int .i64 g1, .int .i64 g2, .int .i64 g3] 26)) nm [.int .i64 m0, .int .i64 m1, .int .i64 m2, .int .i64 m3]) := Fm.out.alloc _
          have Fe : Hid (HV (w11.alloc (.cells #[.int .i64 g0, .int .i64 g1, .int .i64 g2, .int .i64 g3] 26)) ne [.int .i64 e0, .int .i64 e1, .int .i64 e2, .int .i64 e3]) := Fe.out.alloc _
          have Fk : Hid (HV (w11.alloc (.cells #[.int .i64 g0, .int .i64 g1, .int .i64 g2, .int .i64 g3] 26)) nk [.int .i64 f0, .int .i64 f1, .int .i64 f2, .int .i64 f3]) := Fk.out.alloc _
          have Ft : Hid (HV (w11.alloc (.cells #[.int .i64 g0, .int .i64 g1, .int .i64 g2, .int .i64 g3] 26)) nt [.int .i64 t0, .int .i64 t1, .int .i64 t2]) := Ft.out.alloc _
          have Fg : Hid (HV (w11.alloc (.cells #[.int .i64 g0, .int .i64 g1, .int .i64 g2, .int .i64 g3] 26)) w11.heap.size [.int .i64 g0, .int .i64 g1, .int .i64 g2, .int .i64 g3]) := hv_at rfl
          have FX : Hid (Ext w (w11.alloc (.cells #[.int .i64 g0, .int .i64 g1, .int .i64 g2, .int .i64 g3] 26))) := FX.out.alloc _
          generalize (w11.alloc (.cells #[.int .i64 g0, .int .i64 g1, .int .i64 g2, .int .i64 g3] 26)) = wx8 at *
          generalize w11.heap.size = ng at *
          have qm0 : wx8.cell? ⟨nm, 0, none⟩ = some (.int .i64 m0) := Fm.out.c 0 rfl
          have qm1 : wx8.cell? ⟨nm, 1, none⟩ = some (.int .i64 m1) := Fm.out.c 1 rfl
          have qm2 : wx8.cell? ⟨nm, 2, none⟩ = some (.int .i64 m2) := Fm.out.c 2 rfl
          have qm3 : wx8.cell? ⟨nm, 3, none⟩ = some (.int .i64 m3) := Fm.out.c 3 rfl
          have qt0 : wx8.cell? ⟨nt, 0, none⟩ = some (.int .i64 t0) := Ft.out.c 0 rfl
          have qt1 : wx8.cell? ⟨nt, 1, none⟩ = some (.int .i64 t1) := Ft.out.c 1 rfl
          have qt2 : wx8.cell? ⟨nt, 2, none⟩ = some (.int .i64 t2) := Ft.out.c 2 rfl
          go_upto_region 14 with (first | (go_at_call 16; refine (P2.out _).mono ?_; rintro e w12 ⟨rfl, x12⟩))
          have Ff : Hid (HV w12 nf [.int .i64 u0, .int .i64 u1, .int .i64 u2, .int .i64 u3]) := Ff.out.ext x12
          have Fm : Hid (HV w12 nm [.int .i64 m0, .int .i64 m1, .int .i64 m2, .int .i64 m3]) := Fm.out.ext x12
          have Fe : Hid (HV w12 ne [.int .i64 e0, .int .i64 e1, .int .i64 e2, .int .i64 e3]) := Fe.out.ext x12
          have Fk : Hid (HV w12 nk [.int .i64 f0, .int .i64 f1, .int .i64 f2, .int .i64 f3]) := Fk.out.ext x12
          have Ft : Hid (HV w12 nt [.int .i64 t0, .int .i64 t1, .int .i64 t2]) := Ft.out.ext x12
          have Fg : Hid (HV w12 ng [.int .i64 g0, .int .i64 g1, .int .i64 g2, .int .i64 g3]) := Fg.out.ext x12
          have FX : Hid (Ext w w12) := FX.out.trans x12
          clear qm0 qm1 qm2 qm3 qt0 qt1 qt2 x12 P2
          have ltfh : nf < w12.heap.size := Ff.out.1
          have ltmh : nm < w12.heap.size := Fm.out.1
          have lteh : ne < w12.heap.size := Fe.out.1
          have ltkh : nk < w12.heap.size := Fk.out.1
          have ltth : nt < w12.heap.size := Ft.out.1
          have ltgh : ng < w12.heap.size := Fg.out.1
          have Lh : Hid (w.heap.size ≤ w12.heap.size) := FX.out.size
          have Ff : Hid (HV (w12.alloc (.cells #[.int .i64 h0, .int .i64 h1, .int .i64 h2, .int .i64 h3] 26)) nf [.int .i64 u0, .int .i64 u1, .int .i64 u2, .int .i64 u3]) := Ff.out.alloc _
          have Fm : Hid (HV (w12.alloc (.cells #[.int .i64 h0, .int .i64 h1, .int .i64 h2, .int .i64 h3] 26)) nm [.int .i64 m0, .int .i64 m1, .int .i64 m2, .int .i64 m3]) := Fm.out.alloc _
          have Fe : Hid (HV (w12.alloc (.cells #[.int .i64 h0, .int .i64 h1, .int .i64 h2, .int .i64 h3] 26)) ne [.int .i64 e0, .int .i64 e1, .int .i64 e2, .int .i64 e3]) := Fe.out.alloc _
          have Fk : Hid (HV (w12.alloc (.cells #[.int .i64 h0, .int .i64 h1, .int .i64 h2, .int .i64 h3] 26)) nk [.int .i64 f0, .int .i64 f1, .int .i64 f2, .int .i64 f3]) := Fk.out.alloc _
          have Ft : Hid (HV (w12.alloc (.cells #[.int .i64 h0, .int .i64 h1, .int .i64 h2, .int .i64 h3] 26)) nt [.int .i64 t0, .int .i64 t1, .int .i64 t2]) := Ft.out.alloc _
          have Fg : Hid (HV (w12.alloc (.cells #[.int .i64 h0, .int .i64 h1, .int .i64 h2, .int .i64 h3] 26)) ng [.int .i64 g0, .int .i64 g1, .int .i64 g2, .int .i64 g3]) := Fg.out.alloc _
          have Fh : Hid (HV (w12.alloc (.cells #[.int .i64 h0, .int .i64 h1, .int .i64 h2, .int .i64 h3] 26)) w12.heap.size [.int .i64 h0, .int .i64 h1, .int .i64 h2, .int .i64 h3]) := hv_at rfl
          have FX : Hid (Ext w (w12.alloc (.cells #[.int .i64 h0, .int .i64 h1, .int .i64 h2, .int .i64 h3] 26))) := FX.out.alloc _
          generalize (w12.alloc (.cells #[.int .i64 h0, .int .i64 h1, .int .i64 h2, .int .i64 h3] 26)) = wx9 at *
          generalize w12.heap.size = nh at *
          have qf0 : wx9.cell? ⟨nf, 0, none⟩ = some (.int .i64 u0) := Ff.out.c 0 rfl
          have qf1 : wx9.cell? ⟨nf, 1, none⟩ = some (.int .i64 u1) := Ff.out.c 1 rfl
          have qf2 : wx9.cell? ⟨nf, 2, none⟩ = some (.int .i64 u2) := Ff.out.c 2 rfl
          have qf3 : wx9.cell? ⟨nf, 3, none⟩ = some (.int .i64 u3) := Ff.out.c 3 rfl
          have qt0 : wx9.cell? ⟨nt, 0, none⟩ = some (.int .i64 t0) := Ft.out.c 0 rfl
          have qt1 : wx9.cell? ⟨nt, 1, none⟩ = some (.int .i64 t1) := Ft.out.c 1 rfl
          have qt2 : wx9.cell? ⟨nt, 2, none⟩ = some (.int .i64 t2) := Ft.out.c 2 rfl
          go_upto_region 15 with (first | (go_at_call 17; refine (O1.out _).mono ?_; rintro e w13 ⟨rfl, x13⟩))
          have Ff : Hid (HV w13 nf [.int .i64 u0, .int .i64 u1, .int .i64 u2, .int .i64 u3]) := Ff.out.ext x13
          have Fm : Hid (HV w13 nm [.int .i64 m0, .int .i64 m1, .int .i64 m2, .int .i64 m3]) := Fm.out.ext x13
          have Fe : Hid (HV w13 ne [.int .i64 e0, .int .i64 e1, .int .i64 e2, .int .i64 e3]) := Fe.out.ext x13
          have Fk : Hid (HV w13 nk [.int .i64 f0, .int .i64 f1, .int .i64 f2, .int .i64 f3]) := Fk.out.ext x13
          have Ft : Hid (HV w13 nt [.int .i64 t0, .int .i64 t1, .int .i64 t2]) := Ft.out.ext x13
          have Fg : Hid (HV w13 ng [.int .i64 g0, .int .i64 g1, .int .i64 g2, .int .i64 g3]) := Fg.out.ext x13
          have Fh : Hid (HV w13 nh [.int .i64 h0, .int .i64 h1, .int .i64 h2, .int .i64 h3]) := Fh.out.ext x13
          have FX : Hid (Ext w w13) := FX.out.trans x13
          clear qf0 qf1 qf2 qf3 qt0 qt1 qt2 x13 O1
          have ltfi : nf < w13.heap.size := Ff.out.1
          have ltmi : nm < w13.heap.size := Fm.out.1
          have ltei : ne < w13.heap.size := Fe.out.1
          have ltki : nk < w13.heap.size := Fk.out.1
          have ltti : nt < w13.heap.size := Ft.out.1
          have ltgi : ng < w13.heap.size := Fg.out.1
          have lthi : nh < w13.heap.size := Fh.out.1
          have Li : Hid (w.heap.size ≤ w13.heap.size) := FX.out.size
          have Ff : Hid (HV (w13.alloc (.cells #[.int .i64 i0, .int .i64 i1, .int .i64 i2, .int .i64 i3] 26)) nf [.int .i64 u0, .int .i64 u1, .int .i64 u2, .int .i64 u3]) := Ff.out.alloc _
          have Fm : Hid (HV (w13.alloc (.cells #[.int .i64 i0, .int .i64 i1, .int .i64 i2, .int .i64 i3] 26)) nm [.int .i64 m0, .int .i64 m1, .int .i64 m2, .int .i64 m3]) := Fm.out.alloc _
          have Fe : Hid (HV (w13.alloc (.cells #[.int .i64 i0, .int .i64 i1, .int .i64 i2, .int .i64 i3] 26)) ne [.int .i64 e0, .int .i64 e1, .int .i64 e2, .int .i64 e3]) := Fe.out.alloc _
          have Fk : Hid (HV (w13.alloc (.cells #[.int .i64 i0, .int .i64 i1, .int .i64 i2, .int .i64 i3] 26)) nk [.int .i64 f0, .int .i64 f1, .int .i64 f2, .int .i64 f3]) := Fk.out.alloc _
          have Ft : Hid (HV (w13.alloc (.cells #[.int .i64 i0, .int .i64 i1, .int .i64 i2, .int .i64 i3] 26)) nt [.int .i64 t0, .int .i64 t1, .int .i64 t2]) := Ft.out.alloc _
          have Fg : Hid (HV (w13.alloc (.cells #[.int .i64 i0, .int .i64 i1, .int .i64 i2, .int .i64 i3] 26)) ng [.int .i64 g0, .int .i64 g1, .int .i64 g2, .int .i64 g3]) := Fg.out.alloc _
          have Fh : Hid (HV (w13.alloc (.cells #[.int .i64 i0, .int .i64 i1, .int .i64 i2, .int .i64 i3] 26)) nh [.int .i64 h0, .int .i64 h1, .int .i64 h2, .int .i64 h3]) := Fh.out.alloc _
          have Fi : Hid (HV (w13.alloc (.cells #[.int .i64 i0, .int .i64 i1, .int .i64 i2, .int .i64 i3] 26)) w13.heap.size [.int .i64 i0, .int .i64 i1, .int .i64 i2, .int .i64 i3]) := hv_at rfl
          have FX : Hid (Ext w (w13.alloc (.cells #[.int .i64 i0, .int .i64 i1, .int .i64 i2, .int .i64 i3] 26))) := FX.out.alloc _
          generalize (w13.alloc (.cells #[.int .i64 i0, .int .i64 i1, .int .i64 i2, .int .i64 i3] 26)) = wx10 at *
          generalize w13.heap.size = ni at *
          have qm0 : wx10.cell? ⟨nm, 0, none⟩ = some (.int .i64 m0) := Fm.out.c 0 rfl
          have qm1 : wx10.cell? ⟨nm, 1, none⟩ = some (.int .i64 m1) := Fm.out.c 1 rfl
          have qm2 : wx10.cell? ⟨nm, 2, none⟩ = some (.int .i64 m2) := Fm.out.c 2 rfl
          have qm3 : wx10.cell? ⟨nm, 3, none⟩ = some (.int .i64 m3) := Fm.out.c 3 rfl
          have qt0 : wx10.cell? ⟨nt, 0, none⟩ = some (.int .i64 t0) := Ft.out.c 0 rfl
          have qt1 : wx10.cell? ⟨nt, 1, none⟩ = some (.int .i64 t1) := Ft.out.c 1 rfl
          have qt2 : wx10.cell? ⟨nt, 2, none⟩ = some (.int .i64 t2) := Ft.out.c 2 rfl
          go_upto_region 16 with (first | (go_at_call 17; refine (O2.out _).mono ?_; rintro e w14 ⟨rfl, x14⟩))
          have Ff : Hid (HV w14 nf [.int .i64 u0, .int .i64 u1, .int .i64 u2, .int .i64 u3]) := Ff.out.ext x14
          have Fm : Hid (HV w14 nm [.int .i64 m0, .int .i64 m1, .int .i64 m2, .int .i64 m3]) := Fm.out.ext x14
          have Fe : Hid (HV w14 ne [.int .i64 e0, .int .i64 e1, .int .i64 e2, .int .i64 e3]) := Fe.out.ext x14
          have Fk : Hid (HV w14 nk [.int .i64 f0, .int .i64 f1, .int .i64 f2, .int .i64 f3]) := Fk.out.ext x14
          have Ft : Hid (HV w14 nt [.int .i64 t0, .int .i64 t1, .int .i64 t2]) := Ft.out.ext x14
          have Fg : Hid (HV w14 ng [.int .i64 g0, .int .i64 g1, .int .i64 g2, .int .i64 g3]) := Fg.out.ext x14
          have Fh : Hid (HV w14 nh [.int .i64 h0, .int .i64 h1, .int .i64 h2, .int .i64 h3]) := Fh.out.ext x14
          have Fi : Hid (HV w14 ni [.int .i64 i0, .int .i64 i1, .int .i64 i2, .int .i64 i3]) := Fi.out.ext x14
          have FX : Hid (Ext w w14) := FX.out.trans x14
          clear qm0 qm1 qm2 qm3 qt0 qt1 qt2 x14 O2
          have ltfj : nf < w14.heap.size := Ff.out.1
          have ltmj : nm < w14.heap.size := Fm.out.1
          have ltej : ne < w14.heap.size := Fe.out.1
          have ltkj : nk < w14.heap.size := Fk.out.1
          have lttj : nt < w14.heap.size := Ft.out.1
          have ltgj : ng < w14.heap.size := Fg.out.1
          have lthj : nh < w14.heap.size := Fh.out.1
          have ltij : ni < w14.heap.size := Fi.out.1
          have Lj : Hid (w.heap.size ≤ w14.heap.size) := FX.out.size
          have Ff : Hid (HV (w14.alloc (.cells #[.int .i64 j0, .int .i64 j1, .int .i64 j2, .int .i64 j3] 26)) nf [.int .i64 u0, .int .i64 u1, .int .i64 u2, .int .i64 u3]) := Ff.out.alloc _
          have Fm : Hid (HV (w14.alloc (.cells #[.int .i64 j0, .int .i64 j1, .int .i64 j2, .int .i64 j3] 26)) nm [.int .i64 m0, .int .i64 m1, .int .i64 m2, .int .i64 m3]) := Fm.out.alloc _
          have Fe : Hid (HV (w14.alloc (.cells #[.int .i64 j0, .int .i64 j1, .int .i64 j2, .int .i64 j3] 26)) ne [.int .i64 e0, .int .i64 e1, .int .i64 e2, .int .i64 e3]) := Fe.out.alloc _
          have Fk : Hid (HV (w14.alloc (.cells #[.int .i64 j0, .int .i64 j1, .int .i64 j2, .int .i64 j3] 26)) nk [.int .i64 f0, .int .i64 f1, .int .i64 f2, .int .i64 f3]) := Fk.out.alloc _
          have Ft : Hid (HV (w14.alloc (.cells #[.int .i64 j0, .int .i64 j1, .int .i64 j2, .int .i64 j3] 26)) nt [.int .i64 t0, .int .i64 t1, .int .i64 t2]) := Ft.out.alloc _
          have Fg : Hid (HV (w14.alloc (.cells #[.int .i64 j0, .int .i64 j1, .int .i64 j2, .int .i64 j3] 26)) ng [.int .i64 g0, .int .i64 g1, .int .i64 g2, .int .i64 g3]) := Fg.out.alloc _
          have Fh : Hid (HV (w14.alloc (.cells #[.int .i64 j0, .int .i64 j1, .int .i64 j2, .int .i64 j3] 26)) nh [.int .i64 h0, .int .i64 h1, .int .i64 h2, .int .i64 h3]) := Fh.out.alloc _
          have Fi : Hid (HV (w14.alloc (.cells #[.int .i64 j0, .int .i64 j1, .int .i64 j2, .int .i64 j3] 26)) ni [.int .i64 i0, .int .i64 i1, .int .i64 i2, .int .i64 i3]) := Fi.out.alloc _
          have Fj : Hid (HV (w14.alloc (.cells #[.int .i64 j0, .int .i64 j1, .int .i64 j2, .int .i64 j3] 26)) w14.heap.size [.int .i64 j0, .int .i64 j1, .int .i64 j2, .int .i64 j3]) := hv_at rfl
          have FX : Hid (Ext w (w14.alloc (.cells #[.int .i64 j0, .int .i64 j1, .int .i64 j2, .int .i64 j3] 26))) := FX.out.alloc _
          generalize (w14.alloc (.cells #[.int .i64 j0, .int .i64 j1, .int .i64 j2, .int .i64 j3] 26)) = wx11 at *
          generalize w14.heap.size = nj at *
          skip
          have qe := eqQ e0 e1 e2 e3 e0 e1 e2 e3
          have qg := eqQ g0 g1 g2 g3 g0 g1 g2 g3
          have qi := eqQ i0 i1 i2 i3 i0 i1 i2 i3
          rw [show (e0 == e0 && (e1 == e1 && (e2 == e2 && e3 == e3))) = true by simp] at qe
          rw [show (g0 == g0 && (g1 == g1 && (g2 == g2 && g3 == g3))) = true by simp] at qg
          rw [show (i0 == i0 && (i1 == i1 && (i2 == i2 && i3 == i3))) = true by simp] at qi
          go_cut [133] from 22 to 133 (fun v133 wx => v133 = .bool false ∧ Hid (Ext wx11 wx))
          case first =>
            have qe0 : wx11.cell? ⟨ne, 0, none⟩ = some (.int .i64 e0) := Fe.out.c 0 rfl
            have qe1 : wx11.cell? ⟨ne, 1, none⟩ = some (.int .i64 e1) := Fe.out.c 1 rfl
            have qe2 : wx11.cell? ⟨ne, 2, none⟩ = some (.int .i64 e2) := Fe.out.c 2 rfl
            have qe3 : wx11.cell? ⟨ne, 3, none⟩ = some (.int .i64 e3) := Fe.out.c 3 rfl
            have be : ne < wx11.heap.size := Fe.out.1
            have me1 := Nat.ne_of_lt be
            have me2 := Nat.ne_of_gt be
            have qk0 : wx11.cell? ⟨nk, 0, none⟩ = some (.int .i64 f0) := Fk.out.c 0 rfl
            have qk1 : wx11.cell? ⟨nk, 1, none⟩ = some (.int .i64 f1) := Fk.out.c 1 rfl
            have qk2 : wx11.cell? ⟨nk, 2, none⟩ = some (.int .i64 f2) := Fk.out.c 2 rfl
            have qk3 : wx11.cell? ⟨nk, 3, none⟩ = some (.int .i64 f3) := Fk.out.c 3 rfl
            have bk : nk < wx11.heap.size := Fk.out.1
            have mk1 := Nat.ne_of_lt bk
            have mk2 := Nat.ne_of_gt bk
            have qg0 : wx11.cell? ⟨ng, 0, none⟩ = some (.int .i64 g0) := Fg.out.c 0 rfl
            have qg1 : wx11.cell? ⟨ng, 1, none⟩ = some (.int .i64 g1) := Fg.out.c 1 rfl
            have qg2 : wx11.cell? ⟨ng, 2, none⟩ = some (.int .i64 g2) := Fg.out.c 2 rfl
            have qg3 : wx11.cell? ⟨ng, 3, none⟩ = some (.int .i64 g3) := Fg.out.c 3 rfl
            have bg : ng < wx11.heap.size := Fg.out.1
            have mg1 := Nat.ne_of_lt bg
            have mg2 := Nat.ne_of_gt bg
            have qh0 : wx11.cell? ⟨nh, 0, none⟩ = some (.int .i64 h0) := Fh.out.c 0 rfl
            have qh1 : wx11.cell? ⟨nh, 1, none⟩ = some (.int .i64 h1) := Fh.out.c 1 rfl
            have qh2 : wx11.cell? ⟨nh, 2, none⟩ = some (.int .i64 h2) := Fh.out.c 2 rfl
            have qh3 : wx11.cell? ⟨nh, 3, none⟩ = some (.int .i64 h3) := Fh.out.c 3 rfl
            have bh : nh < wx11.heap.size := Fh.out.1
            have mh1 := Nat.ne_of_lt bh
            have mh2 := Nat.ne_of_gt bh
            have qi0 : wx11.cell? ⟨ni, 0, none⟩ = some (.int .i64 i0) := Fi.out.c 0 rfl
            have qi1 : wx11.cell? ⟨ni, 1, none⟩ = some (.int .i64 i1) := Fi.out.c 1 rfl
            have qi2 : wx11.cell? ⟨ni, 2, none⟩ = some (.int .i64 i2) := Fi.out.c 2 rfl
            have qi3 : wx11.cell? ⟨ni, 3, none⟩ = some (.int .i64 i3) := Fi.out.c 3 rfl
            have bi : ni < wx11.heap.size := Fi.out.1
            have mi1 := Nat.ne_of_lt bi
            have mi2 := Nat.ne_of_gt bi
            have qj0 : wx11.cell? ⟨nj, 0, none⟩ = some (.int .i64 j0) := Fj.out.c 0 rfl
            have qj1 : wx11.cell? ⟨nj, 1, none⟩ = some (.int .i64 j1) := Fj.out.c 1 rfl
            have qj2 : wx11.cell? ⟨nj, 2, none⟩ = some (.int .i64 j2) := Fj.out.c 2 rfl
            have qj3 : wx11.cell? ⟨nj, 3, none⟩ = some (.int .i64 j3) := Fj.out.c 3 rfl
            have bj : nj < wx11.heap.size := Fj.out.1
            have mj1 := Nat.ne_of_lt bj
            have mj2 := Nat.ne_of_gt bj
            go_region_held3 (fun w' => w'.cell? ⟨ne, 0, none⟩ = some (.int .i64 e0) ∧ w'.cell? ⟨ne, 1, none⟩ = some (.int .i64 e1) ∧ w'.cell? ⟨ne, 2, none⟩ = some (.int .i64 e2) ∧ w'.cell? ⟨ne, 3, none⟩ = some (.int .i64 e3) ∧ w'.cell? ⟨nk, 0, none⟩ = some (.int .i64 f0) ∧ w'.cell? ⟨nk, 1, none⟩ = some (.int .i64 f1) ∧ w'.cell? ⟨nk, 2, none⟩ = some (.int .i64 f2) ∧ w'.cell? ⟨nk, 3, none⟩ = some (.int .i64 f3) ∧ w'.cell? ⟨ng, 0, none⟩ = some (.int .i64 g0) ∧ w'.cell? ⟨ng, 1, none⟩ = some (.int .i64 g1) ∧ w'.cell? ⟨ng, 2, none⟩ = some (.int .i64 g2) ∧ w'.cell? ⟨ng, 3, none⟩ = some (.int .i64 g3) ∧ w'.cell? ⟨nh, 0, none⟩ = some (.int .i64 h0) ∧ w'.cell? ⟨nh, 1, none⟩ = some (.int .i64 h1) ∧ w'.cell? ⟨nh, 2, none⟩ = some (.int .i64 h2) ∧ w'.cell? ⟨nh, 3, none⟩ = some (.int .i64 h3) ∧ w'.cell? ⟨ni, 0, none⟩ = some (.int .i64 i0) ∧ w'.cell? ⟨ni, 1, none⟩ = some (.int .i64 i1) ∧ w'.cell? ⟨ni, 2, none⟩ = some (.int .i64 i2) ∧ w'.cell? ⟨ni, 3, none⟩ = some (.int .i64 i3) ∧ w'.cell? ⟨nj, 0, none⟩ = some (.int .i64 j0) ∧ w'.cell? ⟨nj, 1, none⟩ = some (.int .i64 j1) ∧ w'.cell? ⟨nj, 2, none⟩ = some (.int .i64 j2) ∧ w'.cell? ⟨nj, 3, none⟩ = some (.int .i64 j3)) (first | (go_keep; done) | (refine ⟨?_, ?_, ?_, ?_, ?_, ?_, ?_, ?_, ?_, ?_, ?_, ?_, ?_, ?_, ?_, ?_, ?_, ?_, ?_, ?_, ?_, ?_, ?_, ?_⟩ <;> (rw [World.cell?_setCell_far _ _ _ _ (by dsimp only; omega)]; with_reducible assumption)) | skip) (first | (go_at_call 13; refine (num15_any _ _).mono ?_; rintro e wx ⟨rfl, hwx⟩; have hwy := hwx.symm; clear hwx; subst hwy) | (go_at_call_of 26 (Value.agg #[Value.int IntKind.i64 f0, Value.int IntKind.i64 f1, Value.int IntKind.i64 f2, Value.int IntKind.i64 f3]); refine (N1.out _).mono ?_; rintro e u0 ⟨rfl, y0⟩; have Y0 : Ext wx11 u0 := Ext.trans (by repeat (first | with_reducible assumption | with_reducible exact Ext.refl _ | with_reducible refine Ext.drew ?_ | with_reducible refine Ext.drewN ?_ _ | with_reducible refine Ext.alloc ?_ _ | with_reducible refine Ext.set ?_ (by first | exact Nat.le_refl _ | (dsimp only; omega) | (simp; done)) _)) y0; have qe0u : u0.cell? ⟨ne, 0, none⟩ = some (.int .i64 e0) := (Fe.out.ext Y0).c 0 rfl; have qe1u : u0.cell? ⟨ne, 1, none⟩ = some (.int .i64 e1) := (Fe.out.ext Y0).c 1 rfl; have qe2u : u0.cell? ⟨ne, 2, none⟩ = some (.int .i64 e2) := (Fe.out.ext Y0).c 2 rfl; have qe3u : u0.cell? ⟨ne, 3, none⟩ = some (.int .i64 e3) := (Fe.out.ext Y0).c 3 rfl; have beu : ne < u0.heap.size := (Fe.out.ext Y0).1; have me1u := Nat.ne_of_lt beu; have me2u := Nat.ne_of_gt beu; have qk0u : u0.cell? ⟨nk, 0, none⟩ = some (.int .i64 f0) := (Fk.out.ext Y0).c 0 rfl; have qk1u : u0.cell? ⟨nk, 1, none⟩ = some (.int .i64 f1) := (Fk.out.ext Y0).c 1 rfl; have qk2u : u0.cell? ⟨nk, 2, none⟩ = some (.int .i64 f2) := (Fk.out.ext Y0).c 2 rfl; have qk3u : u0.cell? ⟨nk, 3, none⟩ = some (.int .i64 f3) := (Fk.out.ext Y0).c 3 rfl; have bku : nk < u0.heap.size := (Fk.out.ext Y0).1; have mk1u := Nat.ne_of_lt bku; have mk2u := Nat.ne_of_gt bku; have qg0u : u0.cell? ⟨ng, 0, none⟩ = some (.int .i64 g0) := (Fg.out.ext Y0).c 0 rfl; have qg1u : u0.cell? ⟨ng, 1, none⟩ = some (.int .i64 g1) := (Fg.out.ext Y0).c 1 rfl; have qg2u : u0.cell? ⟨ng, 2, none⟩ = some (.int .i64 g2) := (Fg.out.ext Y0).c 2 rfl; have qg3u : u0.cell? ⟨ng, 3, none⟩ = some (.int .i64 g3) := (Fg.out.ext Y0).c 3 rfl; have bgu : ng < u0.heap.size := (Fg.out.ext Y0).1; have mg1u := Nat.ne_of_lt bgu; have mg2u := Nat.ne_of_gt bgu; have qh0u : u0.cell? ⟨nh, 0, none⟩ = some (.int .i64 h0) := (Fh.out.ext Y0).c 0 rfl; have qh1u : u0.cell? ⟨nh, 1, none⟩ = some (.int .i64 h1) := (Fh.out.ext Y0).c 1 rfl; have qh2u : u0.cell? ⟨nh, 2, none⟩ = some (.int .i64 h2) := (Fh.out.ext Y0).c 2 rfl; have qh3u : u0.cell? ⟨nh, 3, none⟩ = some (.int .i64 h3) := (Fh.out.ext Y0).c 3 rfl; have bhu : nh < u0.heap.size := (Fh.out.ext Y0).1; have mh1u := Nat.ne_of_lt bhu; have mh2u := Nat.ne_of_gt bhu; have qi0u : u0.cell? ⟨ni, 0, none⟩ = some (.int .i64 i0) := (Fi.out.ext Y0).c 0 rfl; have qi1u : u0.cell? ⟨ni, 1, none⟩ = some (.int .i64 i1) := (Fi.out.ext Y0).c 1 rfl; have qi2u : u0.cell? ⟨ni, 2, none⟩ = some (.int .i64 i2) := (Fi.out.ext Y0).c 2 rfl; have qi3u : u0.cell? ⟨ni, 3, none⟩ = some (.int .i64 i3) := (Fi.out.ext Y0).c 3 rfl; have biu : ni < u0.heap.size := (Fi.out.ext Y0).1; have mi1u := Nat.ne_of_lt biu; have mi2u := Nat.ne_of_gt biu; have qj0u : u0.cell? ⟨nj, 0, none⟩ = some (.int .i64 j0) := (Fj.out.ext Y0).c 0 rfl; have qj1u : u0.cell? ⟨nj, 1, none⟩ = some (.int .i64 j1) := (Fj.out.ext Y0).c 1 rfl; have qj2u : u0.cell? ⟨nj, 2, none⟩ = some (.int .i64 j2) := (Fj.out.ext Y0).c 2 rfl; have qj3u : u0.cell? ⟨nj, 3, none⟩ = some (.int .i64 j3) := (Fj.out.ext Y0).c 3 rfl; have bju : nj < u0.heap.size := (Fj.out.ext Y0).1; have mj1u := Nat.ne_of_lt bju; have mj2u := Nat.ne_of_gt bju) | (go_at_call_of 26 (Value.agg #[Value.int IntKind.i64 h0, Value.int IntKind.i64 h1, Value.int IntKind.i64 h2, Value.int IntKind.i64 h3]); refine (N2.out _).mono ?_; rintro e u1 ⟨rfl, y1⟩; have Y1 : Ext wx11 u1 := Ext.trans (by repeat (first | with_reducible assumption | with_reducible exact Ext.refl _ | with_reducible refine Ext.drew ?_ | with_reducible refine Ext.drewN ?_ _ | with_reducible refine Ext.alloc ?_ _ | with_reducible refine Ext.set ?_ (by first | exact Nat.le_refl _ | (dsimp only; omega) | (simp; done)) _)) y1; have qe0u : u1.cell? ⟨ne, 0, none⟩ = some (.int .i64 e0) := (Fe.out.ext Y1).c 0 rfl; have qe1u : u1.cell? ⟨ne, 1, none⟩ = some (.int .i64 e1) := (Fe.out.ext Y1).c 1 rfl; have qe2u : u1.cell? ⟨ne, 2, none⟩ = some (.int .i64 e2) := (Fe.out.ext Y1).c 2 rfl; have qe3u : u1.cell? ⟨ne, 3, none⟩ = some (.int .i64 e3) := (Fe.out.ext Y1).c 3 rfl; have beu : ne < u1.heap.size := (Fe.out.ext Y1).1; have me1u := Nat.ne_of_lt beu; have me2u := Nat.ne_of_gt beu; have qk0u : u1.cell? ⟨nk, 0, none⟩ = some (.int .i64 f0) := (Fk.out.ext Y1).c 0 rfl; have qk1u : u1.cell? ⟨nk, 1, none⟩ = some (.int .i64 f1) := (Fk.out.ext Y1).c 1 rfl; have qk2u : u1.cell? ⟨nk, 2, none⟩ = some (.int .i64 f2) := (Fk.out.ext Y1).c 2 rfl; have qk3u : u1.cell? ⟨nk, 3, none⟩ = some (.int .i64 f3) := (Fk.out.ext Y1).c 3 rfl; have bku : nk < u1.heap.size := (Fk.out.ext Y1).1; have mk1u := Nat.ne_of_lt bku; have mk2u := Nat.ne_of_gt bku; have qg0u : u1.cell? ⟨ng, 0, none⟩ = some (.int .i64 g0) := (Fg.out.ext Y1).c 0 rfl; have qg1u : u1.cell? ⟨ng, 1, none⟩ = some (.int .i64 g1) := (Fg.out.ext Y1).c 1 rfl; have qg2u : u1.cell? ⟨ng, 2, none⟩ = some (.int .i64 g2) := (Fg.out.ext Y1).c 2 rfl; have qg3u : u1.cell? ⟨ng, 3, none⟩ = some (.int .i64 g3) := (Fg.out.ext Y1).c 3 rfl; have bgu : ng < u1.heap.size := (Fg.out.ext Y1).1; have mg1u := Nat.ne_of_lt bgu; have mg2u := Nat.ne_of_gt bgu; have qh0u : u1.cell? ⟨nh, 0, none⟩ = some (.int .i64 h0) := (Fh.out.ext Y1).c 0 rfl; have qh1u : u1.cell? ⟨nh, 1, none⟩ = some (.int .i64 h1) := (Fh.out.ext Y1).c 1 rfl; have qh2u : u1.cell? ⟨nh, 2, none⟩ = some (.int .i64 h2) := (Fh.out.ext Y1).c 2 rfl; have qh3u : u1.cell? ⟨nh, 3, none⟩ = some (.int .i64 h3) := (Fh.out.ext Y1).c 3 rfl; have bhu : nh < u1.heap.size := (Fh.out.ext Y1).1; have mh1u := Nat.ne_of_lt bhu; have mh2u := Nat.ne_of_gt bhu; have qi0u : u1.cell? ⟨ni, 0, none⟩ = some (.int .i64 i0) := (Fi.out.ext Y1).c 0 rfl; have qi1u : u1.cell? ⟨ni, 1, none⟩ = some (.int .i64 i1) := (Fi.out.ext Y1).c 1 rfl; have qi2u : u1.cell? ⟨ni, 2, none⟩ = some (.int .i64 i2) := (Fi.out.ext Y1).c 2 rfl; have qi3u : u1.cell? ⟨ni, 3, none⟩ = some (.int .i64 i3) := (Fi.out.ext Y1).c 3 rfl; have biu : ni < u1.heap.size := (Fi.out.ext Y1).1; have mi1u := Nat.ne_of_lt biu; have mi2u := Nat.ne_of_gt biu; have qj0u : u1.cell? ⟨nj, 0, none⟩ = some (.int .i64 j0) := (Fj.out.ext Y1).c 0 rfl; have qj1u : u1.cell? ⟨nj, 1, none⟩ = some (.int .i64 j1) := (Fj.out.ext Y1).c 1 rfl; have qj2u : u1.cell? ⟨nj, 2, none⟩ = some (.int .i64 j2) := (Fj.out.ext Y1).c 2 rfl; have qj3u : u1.cell? ⟨nj, 3, none⟩ = some (.int .i64 j3) := (Fj.out.ext Y1).c 3 rfl; have bju : nj < u1.heap.size := (Fj.out.ext Y1).1; have mj1u := Nat.ne_of_lt bju; have mj2u := Nat.ne_of_gt bju) | (go_at_call_of 26 (Value.agg #[Value.int IntKind.i64 j0, Value.int IntKind.i64 j1, Value.int IntKind.i64 j2, Value.int IntKind.i64 j3]); refine (N3.out _).mono ?_; rintro e u2 ⟨rfl, y2⟩; have Y2 : Ext wx11 u2 := Ext.trans (by repeat (first | with_reducible assumption | with_reducible exact Ext.refl _ | with_reducible refine Ext.drew ?_ | with_reducible refine Ext.drewN ?_ _ | with_reducible refine Ext.alloc ?_ _ | with_reducible refine Ext.set ?_ (by first | exact Nat.le_refl _ | (dsimp only; omega) | (simp; done)) _)) y2; have qe0u : u2.cell? ⟨ne, 0, none⟩ = some (.int .i64 e0) := (Fe.out.ext Y2).c 0 rfl; have qe1u : u2.cell? ⟨ne, 1, none⟩ = some (.int .i64 e1) := (Fe.out.ext Y2).c 1 rfl; have qe2u : u2.cell? ⟨ne, 2, none⟩ = some (.int .i64 e2) := (Fe.out.ext Y2).c 2 rfl; have qe3u : u2.cell? ⟨ne, 3, none⟩ = some (.int .i64 e3) := (Fe.out.ext Y2).c 3 rfl; have beu : ne < u2.heap.size := (Fe.out.ext Y2).1; have me1u := Nat.ne_of_lt beu; have me2u := Nat.ne_of_gt beu; have qk0u : u2.cell? ⟨nk, 0, none⟩ = some (.int .i64 f0) := (Fk.out.ext Y2).c 0 rfl; have qk1u : u2.cell? ⟨nk, 1, none⟩ = some (.int .i64 f1) := (Fk.out.ext Y2).c 1 rfl; have qk2u : u2.cell? ⟨nk, 2, none⟩ = some (.int .i64 f2) := (Fk.out.ext Y2).c 2 rfl; have qk3u : u2.cell? ⟨nk, 3, none⟩ = some (.int .i64 f3) := (Fk.out.ext Y2).c 3 rfl; have bku : nk < u2.heap.size := (Fk.out.ext Y2).1; have mk1u := Nat.ne_of_lt bku; have mk2u := Nat.ne_of_gt bku; have qg0u : u2.cell? ⟨ng, 0, none⟩ = some (.int .i64 g0) := (Fg.out.ext Y2).c 0 rfl; have qg1u : u2.cell? ⟨ng, 1, none⟩ = some (.int .i64 g1) := (Fg.out.ext Y2).c 1 rfl; have qg2u : u2.cell? ⟨ng, 2, none⟩ = some (.int .i64 g2) := (Fg.out.ext Y2).c 2 rfl; have qg3u : u2.cell? ⟨ng, 3, none⟩ = some (.int .i64 g3) := (Fg.out.ext Y2).c 3 rfl; have bgu : ng < u2.heap.size := (Fg.out.ext Y2).1; have mg1u := Nat.ne_of_lt bgu; have mg2u := Nat.ne_of_gt bgu; have qh0u : u2.cell? ⟨nh, 0, none⟩ = some (.int .i64 h0) := (Fh.out.ext Y2).c 0 rfl; have qh1u : u2.cell? ⟨nh, 1, none⟩ = some (.int .i64 h1) := (Fh.out.ext Y2).c 1 rfl; have qh2u : u2.cell? ⟨nh, 2, none⟩ = some (.int .i64 h2) := (Fh.out.ext Y2).c 2 rfl; have qh3u : u2.cell? ⟨nh, 3, none⟩ = some (.int .i64 h3) := (Fh.out.ext Y2).c 3 rfl; have bhu : nh < u2.heap.size := (Fh.out.ext Y2).1; have mh1u := Nat.ne_of_lt bhu; have mh2u := Nat.ne_of_gt bhu; have qi0u : u2.cell? ⟨ni, 0, none⟩ = some (.int .i64 i0) := (Fi.out.ext Y2).c 0 rfl; have qi1u : u2.cell? ⟨ni, 1, none⟩ = some (.int .i64 i1) := (Fi.out.ext Y2).c 1 rfl; have qi2u : u2.cell? ⟨ni, 2, none⟩ = some (.int .i64 i2) := (Fi.out.ext Y2).c 2 rfl; have qi3u : u2.cell? ⟨ni, 3, none⟩ = some (.int .i64 i3) := (Fi.out.ext Y2).c 3 rfl; have biu : ni < u2.heap.size := (Fi.out.ext Y2).1; have mi1u := Nat.ne_of_lt biu; have mi2u := Nat.ne_of_gt biu; have qj0u : u2.cell? ⟨nj, 0, none⟩ = some (.int .i64 j0) := (Fj.out.ext Y2).c 0 rfl; have qj1u : u2.cell? ⟨nj, 1, none⟩ = some (.int .i64 j1) := (Fj.out.ext Y2).c 1 rfl; have qj2u : u2.cell? ⟨nj, 2, none⟩ = some (.int .i64 j2) := (Fj.out.ext Y2).c 2 rfl; have qj3u : u2.cell? ⟨nj, 3, none⟩ = some (.int .i64 j3) := (Fj.out.ext Y2).c 3 rfl; have bju : nj < u2.heap.size := (Fj.out.ext Y2).1; have mj1u := Nat.ne_of_lt bju; have mj2u := Nat.ne_of_gt bju))
            all_goals
              go_wp2_with fail
              go_meet
              exact ⟨rfl, Y2⟩
          case rest =>
            obtain ⟨rfl, hx⟩ := hcut
            have hx := hx.out
            have Fe : Hid (HV wc ne [.int .i64 e0, .int .i64 e1, .int .i64 e2, .int .i64 e3]) := Fe.out.ext hx
            have Fk : Hid (HV wc nk [.int .i64 f0, .int .i64 f1, .int .i64 f2, .int .i64 f3]) := Fk.out.ext hx
            have Fg : Hid (HV wc ng [.int .i64 g0, .int .i64 g1, .int .i64 g2, .int .i64 g3]) := Fg.out.ext hx
            have Fh : Hid (HV wc nh [.int .i64 h0, .int .i64 h1, .int .i64 h2, .int .i64 h3]) := Fh.out.ext hx
            have Fi : Hid (HV wc ni [.int .i64 i0, .int .i64 i1, .int .i64 i2, .int .i64 i3]) := Fi.out.ext hx
            have Fj : Hid (HV wc nj [.int .i64 j0, .int .i64 j1, .int .i64 j2, .int .i64 j3]) := Fj.out.ext hx
            have FX : Hid (Ext w wc) := FX.out.trans hx
            clear hx
            generalize wc = wx12 at *
            go_wp2_with fail
            go_roundw
            case rel => exact ⟨k + 1, by omega, by go_num, FX⟩
            case measure => simp [intOf]; omega
      · go_wp2_with fail
        refine (wakes15_any _).mono ?_
        rintro e w1 ⟨rfl, x1⟩
        have E1 : Ext w w1 := FX.out.trans x1
        go_wp2_with fail
        go_ret
        exact ⟨rfl, E1⟩
    · have hk' : k = len := by omega
      subst hk'
      go_wp2_with fail
      refine (wakes15_any _).mono ?_
      rintro e w1 ⟨rfl, x1⟩
      have E1 : Ext w w1 := FX.out.trans x1
      go_wp2_with fail
      go_ret
      exact ⟨rfl, E1⟩
set_option maxHeartbeats 4000000 in
theorem signs_none (a : Option Addr) (cap : Nat) (w : World) :
    Calls Tryz.prog 6 #[.slice a 0 cap] w fun e w' => e = .returned (.bool true) ∧ Ext w w' := by
  go_enter Tryz.func6, Tryz.ntmps6
  go_wp2_with fail
  go_loopw [3] (fun i wr => i = .int .i64 0 ∧ Hid (Ext w wr)) (fun _ _ => 0)
  case atStart => exact ⟨rfl, Ext.refl _⟩
  case round =>
    obtain ⟨rfl, FX⟩ := hrel
    go_wp2_with fail
    refine (wakes15_any _).mono ?_
    rintro e w1 ⟨rfl, x1⟩
    have E1 : Ext w w1 := FX.out.trans x1
    go_wp2_with fail
    go_ret
    exact ⟨rfl, E1⟩
end Go.Proofs.YtmbdcgijjpcppaaGreat
