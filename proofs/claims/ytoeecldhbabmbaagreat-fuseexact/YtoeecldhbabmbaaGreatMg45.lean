/- gimbalref3: of, sum, Times, Exact over numbers that fit. gimbalref3: MayQuat, Squares. gimbalref3: one, Norm. -/
import Derived.Test.YtoeecldhbabmbaaGreatR3km
import Derived.Test.YtoeecldhbabmbaaGreatMg2
import Derived.Test.YtoeecldhbabmbaaGreatMg41
import Derived.Deep.RegionHeld
import Derived.Deep.RegionHeld3
import Derived.Test.YtoeecldhbabmbaaGreatMg43
open Go.Value renaming int → J, agg → zG
open Go.IntKind renaming i64 → zq
open Go.Ending renaming returned → zR
open Go.Proofs.Tryz renaming prog → zP
namespace Go.Proofs.YtoeecldhbabmbaaGreat
open Go.RowKit Go.Shelf
theorem fitW {a : Int} (h : okW a = true) : Fit 46 a := by
  have := okW_bounds h
  have e : (2 : Nat) ^ 46 = 70368744177664 := by decide
  unfold Fit; omega
theorem ok4_parts {a b c d : Int} (h : ok4 a b c d = true) : okW a = true ∧ okW b = true ∧ okW c = true ∧ okW d = true := by
  unfold ok4 at h
  simp only [Bool.and_eq_true] at h
  exact h
theorem fof_any (a b c d : Int) (w : World) (ha : okW a = true) (hb : okW b = true) (hc : okW c = true) (hd : okW d = true) : Calls zP 65 #[zG #[J zq a, J zq b, J zq c, J zq d]] w fun e w'' => (∃ r, e = zR r ∧ IsFour w'' r a b c d) ∧ Ext w w'' :=
  of_raw a b c d w (fun w' => from_any a w' (word64 ha).1 (word64 ha).2) (fun w' => from_any b w' (word64 hb).1 (word64 hb).2) (fun w' => from_any c w' (word64 hc).1 (word64 hc).2) (fun w' => from_any d w' (word64 hd).1 (word64 hd).2)
theorem fit_sg {s : Int} (h : s = 1 ∨ s = -1) : Fit 1 s := by rcases h with rfl | rfl <;> (unfold Fit; decide)
theorem fsum_any (z0 z1 z2 z3 sb sc sd R : Int) (k : Nat) (r0 r1 r2 r3 : Value) (w : World) (i0 : IsI w r0 z0) (i1 : IsI w r1 z1) (i2 : IsI w r2 z2) (i3 : IsI w r3 z3)
    (hk : k ≤ 8000) (f0 : Fit k z0) (f1 : Fit k z1) (f2 : Fit k z2) (f3 : Fit k z3) (hb : sb = 1 ∨ sb = -1) (hc : sc = 1 ∨ sc = -1) (hd : sd = 1 ∨ sd = -1) (hR : z0 + z1 * sb + (z2 * sc + z3 * sd) = R) :
    Calls zP 100 #[r0, r1, J zq sb, r2, J zq sc, r3, J zq sd] w fun e w'' => (∃ r, e = zR r ∧ IsI w'' r (R)) ∧ Ext w w'' := by
  subst hR
  obtain ⟨b0, a0, l0, k0, rfl⟩ := i0.form
  obtain ⟨b1, a1, l1, k1, rfl⟩ := i1.form
  obtain ⟨b2, a2, l2, k2, rfl⟩ := i2.form
  obtain ⟨b3, a3, l3, k3, rfl⟩ := i3.form
  have g1 := fit_sg hb
  have g2 := fit_sg hc
  have g3 := fit_sg hd
  have m1 := f1.mul g1
  have m2 := f2.mul g2
  have m3 := f3.mul g3
  have s1 := (f0.le (Nat.le_succ k)).add m1
  have s2 := m2.add m3
  have s3 := s1.add s2
  have b1' : -9223372036854775808 ≤ sb ∧ sb ≤ 9223372036854775807 := by omega
  have b2' : -9223372036854775808 ≤ sc ∧ sc ≤ 9223372036854775807 := by omega
  have b3' : -9223372036854775808 ≤ sd ∧ sd ≤ 9223372036854775807 := by omega
  exact fsum_raw b0 b1 b2 b3 a0 a1 a2 a3 l0 k0 l1 k1 l2 k2 l3 k3 z0 z1 z2 z3 sb sc sd _ _ _ _ _ _ w i0 i1 i2 i3
    (fun w' => from_any sb w' b1'.1 b1'.2) (fun r1 r2 w' j1 j2 => times_isI _ _ r1 r2 w' j1 j2 (f1.small (by omega)) (g1.small (by omega)) (m1.small (by omega)))
    (fun w' => from_any sc w' b2'.1 b2'.2) (fun r1 r2 w' j1 j2 => times_isI _ _ r1 r2 w' j1 j2 (f2.small (by omega)) (g2.small (by omega)) (m2.small (by omega)))
    (fun w' => from_any sd w' b3'.1 b3'.2) (fun r1 r2 w' j1 j2 => times_isI _ _ r1 r2 w' j1 j2 (f3.small (by omega)) (g3.small (by omega)) (m3.small (by omega)))
    (fun r1 r2 w' j1 j2 => plus_isI _ _ r1 r2 w' j1 j2 (f0.small (by omega)) (m1.small (by omega)) (s1.small (by omega)))
    (fun r1 r2 w' j1 j2 => plus_isI _ _ r1 r2 w' j1 j2 (m2.small (by omega)) (m3.small (by omega)) (s2.small (by omega)))
    (fun r1 r2 w' j1 j2 => plus_isI _ _ r1 r2 w' j1 j2 (s1.small (by omega)) (s2.small (by omega)) (s3.small (by omega)))
theorem ftimes_any (p0 p1 p2 p3 q0 q1 q2 q3 : Int) (k l : Nat) (v1 v2 : Value) (w : World) (h1 : IsFour w v1 p0 p1 p2 p3) (h2 : IsFour w v2 q0 q1 q2 q3) (hk : k + l ≤ 7000)
    (fp0 : Fit k p0) (fp1 : Fit k p1) (fp2 : Fit k p2) (fp3 : Fit k p3) (fq0 : Fit l q0) (fq1 : Fit l q1) (fq2 : Fit l q2) (fq3 : Fit l q3) :
    Calls zP 64 #[v1, v2] w fun e w'' => (∃ r, e = zR r ∧ IsFour w'' r (qw p0 p1 p2 p3 q0 q1 q2 q3) (qx p0 p1 p2 p3 q0 q1 q2 q3) (qy p0 p1 p2 p3 q0 q1 q2 q3) (qz p0 p1 p2 p3 q0 q1 q2 q3)) ∧ Ext w w'' := by
  obtain ⟨bp0, bp1, bp2, bp3, ap0, ap1, ap2, ap3, lp0, kp0, lp1, kp1, lp2, kp2, lp3, kp3, rfl, ip0, ip1, ip2, ip3⟩ := h1
  obtain ⟨bq0, bq1, bq2, bq3, aq0, aq1, aq2, aq3, lq0, kq0, lq1, kq1, lq2, kq2, lq3, kq3, rfl, iq0, iq1, iq2, iq3⟩ := h2
  have T : ∀ x y : Int, Fit k x → Fit l y → ∀ r1 r2 w', IsI w' r1 x → IsI w' r2 y → Calls zP 55 #[r1, r2] w' fun e w'' => (∃ r, e = zR r ∧ IsI w'' r (x * y)) ∧ Ext w' w'' := fun x y fx fy r1 r2 w' j1 j2 => times_isI _ _ r1 r2 w' j1 j2 (fx.small (by omega)) (fy.small (by omega)) ((fx.mul fy).small (by omega))
  have U : ∀ (z0 z1 z2 z3 sb sc sd R : Int), Fit (k + l) z0 → Fit (k + l) z1 → Fit (k + l) z2 → Fit (k + l) z3 → (sb = 1 ∨ sb = -1) → (sc = 1 ∨ sc = -1) → (sd = 1 ∨ sd = -1) → z0 + z1 * sb + (z2 * sc + z3 * sd) = R → ∀ r0 r1 r2 r3 w', IsI w' r0 z0 → IsI w' r1 z1 → IsI w' r2 z2 → IsI w' r3 z3 → Calls zP 100 #[r0, r1, J zq sb, r2, J zq sc, r3, J zq sd] w' fun e w'' => (∃ r, e = zR r ∧ IsI w'' r R) ∧ Ext w' w'' := fun z0 z1 z2 z3 sb sc sd R g0 g1 g2 g3 hb hc hd hR r0 r1 r2 r3 w' j0 j1 j2 j3 => fsum_any z0 z1 z2 z3 sb sc sd R (k + l) r0 r1 r2 r3 w' j0 j1 j2 j3 (by omega) g0 g1 g2 g3 hb hc hd hR
  exact ftimes_raw bp0 bp1 bp2 bp3 bq0 bq1 bq2 bq3 ap0 ap1 ap2 ap3 aq0 aq1 aq2 aq3 lp0 kp0 lp1 kp1 lp2 kp2 lp3 kp3 lq0 kq0 lq1 kq1 lq2 kq2 lq3 kq3 p0 p1 p2 p3 q0 q1 q2 q3 _ _ _ _ _ _ _ _ _ _ _ _ _ _ _ _ _ _ _ _ w ip0 ip1 ip2 ip3 iq0 iq1 iq2 iq3
    (T p0 q0 fp0 fq0) (T p1 q1 fp1 fq1) (T p2 q2 fp2 fq2) (T p3 q3 fp3 fq3) (U _ _ _ _ (-1) (-1) (-1) (qw p0 p1 p2 p3 q0 q1 q2 q3) (fp0.mul fq0) (fp1.mul fq1) (fp2.mul fq2) (fp3.mul fq3) (.inr rfl) (.inr rfl) (.inr rfl) (by unfold qw; omega))
    (T p0 q1 fp0 fq1) (T p1 q0 fp1 fq0) (T p2 q3 fp2 fq3) (T p3 q2 fp3 fq2) (U _ _ _ _ (1) (1) (-1) (qx p0 p1 p2 p3 q0 q1 q2 q3) (fp0.mul fq1) (fp1.mul fq0) (fp2.mul fq3) (fp3.mul fq2) (.inl rfl) (.inl rfl) (.inr rfl) (by unfold qx; omega))
    (T p0 q2 fp0 fq2) (T p1 q3 fp1 fq3) (T p2 q0 fp2 fq0) (T p3 q1 fp3 fq1) (U _ _ _ _ (-1) (1) (1) (qy p0 p1 p2 p3 q0 q1 q2 q3) (fp0.mul fq2) (fp1.mul fq3) (fp2.mul fq0) (fp3.mul fq1) (.inr rfl) (.inl rfl) (.inl rfl) (by unfold qy; omega))
    (T p0 q3 fp0 fq3) (T p1 q2 fp1 fq2) (T p2 q1 fp2 fq1) (T p3 q0 fp3 fq0) (U _ _ _ _ (1) (-1) (1) (qz p0 p1 p2 p3 q0 q1 q2 q3) (fp0.mul fq3) (fp1.mul fq2) (fp2.mul fq1) (fp3.mul fq0) (.inl rfl) (.inr rfl) (.inl rfl) (by unfold qz; omega))
theorem qw_fit {p0 p1 p2 p3 q0 q1 q2 q3 : Int} {k l : Nat} (fp0 : Fit k p0) (fp1 : Fit k p1) (fp2 : Fit k p2) (fp3 : Fit k p3) (fq0 : Fit l q0) (fq1 : Fit l q1) (fq2 : Fit l q2) (fq3 : Fit l q3) : Fit (k + l + 3) (qw p0 p1 p2 p3 q0 q1 q2 q3) ∧ Fit (k + l + 3) (qx p0 p1 p2 p3 q0 q1 q2 q3) ∧ Fit (k + l + 3) (qy p0 p1 p2 p3 q0 q1 q2 q3) ∧ Fit (k + l + 3) (qz p0 p1 p2 p3 q0 q1 q2 q3) := by
  have S : ∀ u x y z : Int, Fit (k + l) u → Fit (k + l) x → Fit (k + l) y → Fit (k + l) z → ∀ s1 s2 s3 : Int, (s1 = 1 ∨ s1 = -1) → (s2 = 1 ∨ s2 = -1) → (s3 = 1 ∨ s3 = -1) → Fit (k + l + 3) (u + x * s1 + (y * s2 + z * s3)) := fun u x y z fu fx fy fz s1 s2 s3 h1 h2 h3 =>
    ((fu.le (Nat.le_succ _)).add (fx.mul (fit_sg h1))).add ((fy.mul (fit_sg h2)).add (fz.mul (fit_sg h3)))
  refine ⟨?_, ?_, ?_, ?_⟩
  · have h := S _ _ _ _ (fp0.mul fq0) (fp1.mul fq1) (fp2.mul fq2) (fp3.mul fq3) (-1) (-1) (-1) (.inr rfl) (.inr rfl) (.inr rfl)
    have e : qw p0 p1 p2 p3 q0 q1 q2 q3 = p0 * q0 + p1 * q1 * (-1) + (p2 * q2 * (-1) + p3 * q3 * (-1)) := by unfold qw; omega
    rw [e]; exact h
  · have h := S _ _ _ _ (fp0.mul fq1) (fp1.mul fq0) (fp2.mul fq3) (fp3.mul fq2) (1) (1) (-1) (.inl rfl) (.inl rfl) (.inr rfl)
    have e : qx p0 p1 p2 p3 q0 q1 q2 q3 = p0 * q1 + p1 * q0 * (1) + (p2 * q3 * (1) + p3 * q2 * (-1)) := by unfold qx; omega
    rw [e]; exact h
  · have h := S _ _ _ _ (fp0.mul fq2) (fp1.mul fq3) (fp2.mul fq0) (fp3.mul fq1) (-1) (1) (1) (.inr rfl) (.inl rfl) (.inl rfl)
    have e : qy p0 p1 p2 p3 q0 q1 q2 q3 = p0 * q2 + p1 * q3 * (-1) + (p2 * q0 * (1) + p3 * q1 * (1)) := by unfold qy; omega
    rw [e]; exact h
  · have h := S _ _ _ _ (fp0.mul fq3) (fp1.mul fq2) (fp2.mul fq1) (fp3.mul fq0) (1) (-1) (1) (.inl rfl) (.inr rfl) (.inl rfl)
    have e : qz p0 p1 p2 p3 q0 q1 q2 q3 = p0 * q3 + p1 * q2 * (1) + (p2 * q1 * (-1) + p3 * q0 * (1)) := by unfold qz; omega
    rw [e]; exact h
set_option maxHeartbeats 4000000 in
theorem mayq_any (a b c d : Int) (w : World) :
    Calls zP 18 #[zG #[J zq a, J zq b, J zq c, J zq d]] w fun e w' => e = zR (.bool (ok4 a b c d)) ∧ Ext w w' := by
  have HM : Hid (∀ v w', Calls zP 22 #[J zq v] w' fun e w'' => e = zR (.bool (okW v)) ∧ w'' = w') := may_any
  unfold ok4
  cases h0 : okW a
  · go_enter Tryz.func18, Tryz.ntmps18
    go_wp2_with (go_at_call 22; refine (HM.out _ _).mono ?_; rintro e wx ⟨rfl, hwx⟩; have hwy := hwx.symm; clear hwx; subst hwy)
    go_ret
    exact ⟨rfl, (Ext.refl _).alloc _⟩
  · cases h1 : okW b
    · go_enter Tryz.func18, Tryz.ntmps18
      go_wp2_with (go_at_call 22; refine (HM.out _ _).mono ?_; rintro e wx ⟨rfl, hwx⟩; have hwy := hwx.symm; clear hwx; subst hwy)
      go_ret
      exact ⟨rfl, (Ext.refl _).alloc _⟩
    · cases h2 : okW c
      · go_enter Tryz.func18, Tryz.ntmps18
        go_wp2_with (go_at_call 22; refine (HM.out _ _).mono ?_; rintro e wx ⟨rfl, hwx⟩; have hwy := hwx.symm; clear hwx; subst hwy)
        go_ret
        exact ⟨rfl, (Ext.refl _).alloc _⟩
      · go_enter Tryz.func18, Tryz.ntmps18
        go_wp2_with (go_at_call 22; refine (HM.out _ _).mono ?_; rintro e wx ⟨rfl, hwx⟩; have hwy := hwx.symm; clear hwx; subst hwy)
        go_ret
        exact ⟨rfl, (Ext.refl _).alloc _⟩
set_option maxRecDepth 20000 in
set_option maxHeartbeats 8000000 in
theorem rsquares_raw (a b c d p s D : Int) (w : World)
    (P0 : Hid (∀ w', Calls zP 21 #[J zq a, J zq a] w' fun e w'' => (∃ r, e = zR r ∧ IsI w'' r (p)) ∧ Ext w' w''))
    (DD : Hid (∀ w', Calls zP 52 #[zG #[J zq b, J zq c, J zq d], zG #[J zq b, J zq c, J zq d]] w' fun e w'' => (∃ r, e = zR r ∧ IsI w'' r (s)) ∧ Ext w' w''))
    (PP : Hid (∀ r1 r2 w', IsI w' r1 p → IsI w' r2 s → Calls zP 51 #[r1, r2] w' fun e w'' => (∃ r, e = zR r ∧ IsI w'' r (D)) ∧ Ext w' w'')) :
    Calls zP 19 #[zG #[J zq a, J zq b, J zq c, J zq d]] w fun e w' => (∃ r, e = zR r ∧ IsI w' r D) ∧ Ext w w' := by
  have QB : Hid (HV ((w.alloc (.cells #[J zq a, J zq b, J zq c, J zq d] 24)).alloc (.cells #[.bool false, .slice none 0 0] 50)) w.heap.size [J zq a, J zq b, J zq c, J zq d]) := HV.alloc (hv_at rfl) _
  have RB : Hid (HV ((w.alloc (.cells #[J zq a, J zq b, J zq c, J zq d] 24)).alloc (.cells #[.bool false, .slice none 0 0] 50)) (w.heap.size + 1) [.bool false, .slice none 0 0]) := hv_at (by simp)
  have E0 : Ext w ((w.alloc (.cells #[J zq a, J zq b, J zq c, J zq d] 24)).alloc (.cells #[.bool false, .slice none 0 0] 50)) := ((Ext.refl _).alloc _).alloc _
  have ne1 : w.heap.size ≠ w.heap.size + 1 := by omega
  have ne2 : w.heap.size + 1 ≠ w.heap.size := by omega
  go_enter Tryz.func19, Tryz.ntmps19
  go_upto_region 1 with fail
  generalize ((w.alloc (.cells #[J zq a, J zq b, J zq c, J zq d] 24)).alloc (.cells #[.bool false, .slice none 0 0] 50)) = wB at *
  obtain ⟨q0, q1, q2, q3⟩ := QB.out.k4
  have ql := QB.out.1
  go_region_held3 (fun w' => w'.cell? ⟨w.heap.size, 0, none⟩ = some (J zq a) ∧ w'.cell? ⟨w.heap.size, 1, none⟩ = some (J zq b) ∧ w'.cell? ⟨w.heap.size, 2, none⟩ = some (J zq c) ∧ w'.cell? ⟨w.heap.size, 3, none⟩ = some (J zq d)) (first | (go_keep; done) | skip) (first | (go_at_call 21; refine (P0.out _).mono ?_; rintro e wa ⟨⟨ra, rfl, ha⟩, xa⟩; have Ya : Ext wB wa := Ext.trans eX xa; obtain ⟨ka0, ka1, ka2, ka3⟩ := (QB.out.ext Ya).k4; have ra0 := (RB.out.ext Ya).c 0 rfl; have ra1 := (RB.out.ext Ya).c 1 rfl; have fa0 := (RB.out.ext Ya).f 0 rfl; have fa1 := (RB.out.ext Ya).f 1 rfl; have la := (RB.out.ext Ya).1) | (go_at_call 52; refine (DD.out _).mono ?_; rintro e wd ⟨⟨rd, rfl, hd⟩, xd⟩; have Yd : Ext wB wd := Ext.trans eX xd; obtain ⟨kd0, kd1, kd2, kd3⟩ := (QB.out.ext Yd).k4; have rd0 := (RB.out.ext Yd).c 0 rfl; have rd1 := (RB.out.ext Yd).c 1 rfl; have fd0 := (RB.out.ext Yd).f 0 rfl; have fd1 := (RB.out.ext Yd).f 1 rfl; have ld := (RB.out.ext Yd).1) | (go_at_call 51; refine (PP.out _ _ _ (by first | exact ha.ext xd | exact ha.ext (Ext.trans eX xd)) hd).mono ?_; rintro e wp ⟨⟨rp, rfl, hp⟩, xp⟩; have Yp : Ext wB wp := Ext.trans eX xp; obtain ⟨kp0, kp1, kp2, kp3⟩ := (QB.out.ext Yp).k4; have rp0 := (RB.out.ext Yp).c 0 rfl; have rp1 := (RB.out.ext Yp).c 1 rfl; have fp0 := (RB.out.ext Yp).f 0 rfl; have fp1 := (RB.out.ext Yp).f 1 rfl; have lp := (RB.out.ext Yp).1; obtain ⟨u, hu, hk⟩ := hp; obtain ⟨au, lu, cu, hau⟩ := hk.isSlice; subst hau; subst hu; have HI : Hid (IsI wp (zG #[.bool (decide (D < 0)), .slice au lu cu]) D) := ⟨_, rfl, hk⟩; clear hk))
  all_goals
    have X3 : Hid (Ext w wp) := E0.trans Yp
    go_wp2_with fail
    exact bodyPost_ret (v := zG #[.bool (decide (D < 0)), .slice au lu cu]) (by simp [results, Tryz.results19, go_sem, rp0, rp1]) rfl ⟨⟨_, rfl, HI.out.set2 rp0 rp1⟩, (X3.out.set (p := ⟨w.heap.size + 1, 0, none⟩) (by dsimp only; omega) _).set (p := ⟨w.heap.size + 1, 1, none⟩) (by dsimp only; omega) _⟩
theorem fit70 {a : Int} (h : okW a = true) : Fit 46 a := by
  have := okW_bounds h
  have e : (2 : Nat) ^ 46 = 70368744177664 := by decide
  unfold Fit; omega
theorem rsquares_any (a b c d : Int) (w : World) (h : ok4 a b c d = true) :
    Calls zP 19 #[zG #[J zq a, J zq b, J zq c, J zq d]] w fun e w' => (∃ r, e = zR r ∧ IsI w' r (a * a + b * b + c * c + d * d)) ∧ Ext w w' := by
  have h' := h
  unfold ok4 at h'
  simp only [Bool.and_eq_true] at h'
  obtain ⟨ha, hb, hc, hd⟩ := h'
  have k3 : ok3 b c d = true := by unfold ok3; rw [hb, hc, hd]; rfl
  have fa := (fit70 ha).mul (fit70 ha)
  have fb := (fit70 hb).mul (fit70 hb)
  have fc := (fit70 hc).mul (fit70 hc)
  have fd := (fit70 hd).mul (fit70 hd)
  have f1 : Fit 100 (a * a) := fa.le (by omega)
  have f2 : Fit 100 (dot3 b c d b c d) := by unfold dot3; exact ((fb.add fc).add (fd.le (by omega))).le (by omega)
  have f3 : Fit 101 (a * a + dot3 b c d b c d) := f1.add f2
  have e : a * a + b * b + c * c + d * d = a * a + dot3 b c d b c d := by unfold dot3; omega
  rw [e]
  exact rsquares_raw a b c d (a * a) (dot3 b c d b c d) _ w (fun w' => prod_any a a w' (word64 ha).1 (word64 ha).2 (word64 ha).1 (word64 ha).2) (fun w' => rdot_any b c d b c d w' k3 k3) (fun r1 r2 w' i1 i2 => plus_isI _ _ r1 r2 w' i1 i2 (f1.small (by omega)) (f2.small (by omega)) (f3.small (by omega)))
set_option maxHeartbeats 8000000 in
theorem one_no (N : Int) (r : Value) (w : World) (hr : IsI w r N) (HZ : Hid (∀ r w', IsI w' r N → Calls zP 68 #[r] w' fun e w'' => e = zR (.bool false) ∧ Ext w' w'')) :
    Calls zP 101 #[r] w fun e w' => (∃ r', e = zR r' ∧ IsI w' r' N) ∧ Ext w w' := by
  obtain ⟨u, rfl, hk⟩ := hr
  obtain ⟨an, ln, cn, hau⟩ := hk.isSlice
  subst hau
  have IN : Hid (IsI w (zG #[.bool (decide (N < 0)), .slice an ln cn]) N) := ⟨_, rfl, hk⟩
  clear hk
  generalize decide (N < 0) = bn at *
  have E0 : Hid (Ext w ((w.alloc (.cells #[.bool bn, .slice an ln cn] 50)).alloc (.cells #[.bool false, .slice none 0 0] 50))) := ((Ext.refl _).alloc _).alloc _
  have QB : Hid (HV ((w.alloc (.cells #[.bool bn, .slice an ln cn] 50)).alloc (.cells #[.bool false, .slice none 0 0] 50)) w.heap.size [.bool bn, .slice an ln cn]) := HV.alloc (hv_at rfl) _
  have RB : Hid (HV ((w.alloc (.cells #[.bool bn, .slice an ln cn] 50)).alloc (.cells #[.bool false, .slice none 0 0] 50)) (w.heap.size + 1) [.bool false, .slice none 0 0]) := hv_at (by simp)
  have IN : Hid (IsI ((w.alloc (.cells #[.bool bn, .slice an ln cn] 50)).alloc (.cells #[.bool false, .slice none 0 0] 50)) (zG #[.bool bn, .slice an ln cn]) N) := IN.out.ext E0.out
  go_enter Tryz.func101, Tryz.ntmps101
  go_upto_region 1 with fail
  generalize ((w.alloc (.cells #[.bool bn, .slice an ln cn] 50)).alloc (.cells #[.bool false, .slice none 0 0] 50)) = wB at *
  have q0 := QB.out.c 0 rfl
  have q1 := QB.out.c 1 rfl
  go_upto_region 3 with (go_at_call 68; refine (HZ.out _ _ IN.out).mono ?_; rintro e w1 ⟨rfl, x1⟩)
  have IN : Hid (IsI w1 (zG #[.bool bn, .slice an ln cn]) N) := IN.out.ext x1
  have QB : Hid (HV w1 w.heap.size [.bool bn, .slice an ln cn]) := QB.out.ext x1
  have RB : Hid (HV w1 (w.heap.size + 1) [.bool false, .slice none 0 0]) := RB.out.ext x1
  have E0 := exx E0 x1
  clear x1 q0 q1 HZ
  have q0 := QB.out.c 0 rfl
  have q1 := QB.out.c 1 rfl
  have z0 := RB.out.c 0 rfl
  have z1 := RB.out.c 1 rfl
  have y0 := RB.out.f 0 rfl
  have y1 := RB.out.f 1 rfl
  have rl := RB.out.1
  go_wp2_with fail
  exact bodyPost_ret (v := zG #[.bool bn, .slice an ln cn]) (by simp [results, Tryz.results101, go_sem, z0, z1]) rfl ⟨⟨_, rfl, IN.out.put2 RB.out⟩, (E0.out.set (p := ⟨w.heap.size + 1, 0, none⟩) (Nat.le_succ _) _).set (p := ⟨w.heap.size + 1, 1, none⟩) (Nat.le_succ _) _⟩
set_option maxHeartbeats 8000000 in
theorem one_yes (N : Int) (r : Value) (w : World) (hr : IsI w r N) (HZ : Hid (∀ r w', IsI w' r N → Calls zP 68 #[r] w' fun e w'' => e = zR (.bool true) ∧ Ext w' w'')) (H1 : Hid (∀ w', Calls zP 24 #[J zq 1] w' fun e w'' => (∃ r, e = zR r ∧ IsI w'' r (1)) ∧ Ext w' w'')) :
    Calls zP 101 #[r] w fun e w' => (∃ r', e = zR r' ∧ IsI w' r' 1) ∧ Ext w w' := by
  obtain ⟨u, rfl, hk⟩ := hr
  obtain ⟨an, ln, cn, hau⟩ := hk.isSlice
  subst hau
  have IN : Hid (IsI w (zG #[.bool (decide (N < 0)), .slice an ln cn]) N) := ⟨_, rfl, hk⟩
  clear hk
  generalize decide (N < 0) = bn at *
  have E0 : Hid (Ext w ((w.alloc (.cells #[.bool bn, .slice an ln cn] 50)).alloc (.cells #[.bool false, .slice none 0 0] 50))) := ((Ext.refl _).alloc _).alloc _
  have QB : Hid (HV ((w.alloc (.cells #[.bool bn, .slice an ln cn] 50)).alloc (.cells #[.bool false, .slice none 0 0] 50)) w.heap.size [.bool bn, .slice an ln cn]) := HV.alloc (hv_at rfl) _
  have RB : Hid (HV ((w.alloc (.cells #[.bool bn, .slice an ln cn] 50)).alloc (.cells #[.bool false, .slice none 0 0] 50)) (w.heap.size + 1) [.bool false, .slice none 0 0]) := hv_at (by simp)
  have IN : Hid (IsI ((w.alloc (.cells #[.bool bn, .slice an ln cn] 50)).alloc (.cells #[.bool false, .slice none 0 0] 50)) (zG #[.bool bn, .slice an ln cn]) N) := IN.out.ext E0.out
  go_enter Tryz.func101, Tryz.ntmps101
  go_upto_region 1 with fail
  generalize ((w.alloc (.cells #[.bool bn, .slice an ln cn] 50)).alloc (.cells #[.bool false, .slice none 0 0] 50)) = wB at *
  have q0 := QB.out.c 0 rfl
  have q1 := QB.out.c 1 rfl
  go_upto_region 2 with (go_at_call 68; refine (HZ.out _ _ IN.out).mono ?_; rintro e w1 ⟨rfl, x1⟩)
  have RB : Hid (HV w1 (w.heap.size + 1) [.bool false, .slice none 0 0]) := RB.out.ext x1
  have E0 := exx E0 x1
  clear x1 q0 q1 HZ QB IN
  go_wp2_with fail
  refine (H1.out _).mono ?_
  rintro e w2 ⟨⟨r, rfl, hr⟩, x2⟩
  obtain ⟨u, hu, hk⟩ := hr
  obtain ⟨au, lu, cu, hau⟩ := hk.isSlice
  subst hau; subst hu
  have IM : Hid (IsI w2 (zG #[.bool (decide ((1 : Int) < 0)), .slice au lu cu]) 1) := ⟨_, rfl, hk⟩
  clear hk H1
  generalize decide ((1 : Int) < 0) = bm at *
  have RB : Hid (HV w2 (w.heap.size + 1) [.bool false, .slice none 0 0]) := RB.out.ext x2
  have E0 := exx E0 x2
  have z0 := RB.out.c 0 rfl
  have z1 := RB.out.c 1 rfl
  have y0 := RB.out.f 0 rfl
  have y1 := RB.out.f 1 rfl
  have rl := RB.out.1
  clear x2
  go_wp2_with fail
  exact bodyPost_ret (v := zG #[.bool bm, .slice au lu cu]) (by simp [results, Tryz.results101, go_sem, z0, z1]) rfl ⟨⟨_, rfl, IM.out.put2 RB.out⟩, (E0.out.set (p := ⟨w.heap.size + 1, 0, none⟩) (Nat.le_succ _) _).set (p := ⟨w.heap.size + 1, 1, none⟩) (Nat.le_succ _) _⟩
theorem one_raw (N : Int) (r : Value) (w : World) (hr : IsI w r N) (hs : SmallI N) : Calls zP 101 #[r] w fun e w' => (∃ r', e = zR r' ∧ IsI w' r' (if N = 0 then 1 else N)) ∧ Ext w w' := by
  by_cases h : N = 0
  · rw [if_pos h]
    exact one_yes N r w hr (fun r w' hr => by have H := zero_isI N r w' hr hs; rw [decide_eq_true h] at H; exact H) (fun w' => from_any 1 w' (by decide) (by decide))
  · rw [if_neg h]
    exact one_no N r w hr (fun r w' hr => by have H := zero_isI N r w' hr hs; rw [decide_eq_false h] at H; exact H)
set_option maxHeartbeats 8000000 in
theorem rnorm_raw (a b c N M t p er : Int) (w : World) (HD : Hid (∀ w', Calls zP 52 #[zG #[J zq a, J zq b, J zq c], zG #[J zq a, J zq b, J zq c]] w' fun e w'' => (∃ r, e = zR r ∧ IsI w'' r (N)) ∧ Ext w' w'')) (HO : Hid (∀ r w', IsI w' r N → Calls zP 101 #[r] w' fun e w'' => (∃ r, e = zR r ∧ IsI w'' r (M)) ∧ Ext w' w'')) (HR : Hid (∀ r1 r2 w', IsI w' r1 N → IsI w' r2 M → Calls zP 70 #[r1, r2] w' fun e w'' => (∃ r, e = zR r ∧ IsI w'' r (t)) ∧ Ext w' w'')) (HW : Hid (∀ r w', IsI w' r t → Calls zP 69 #[r] w' fun e w'' => e = zR (.tuple #[J zq p, J zq er]) ∧ Ext w' w'')) :
    Calls zP 67 #[zG #[J zq a, J zq b, J zq c]] w fun e' w' => e' = zR (.tuple #[J zq p, J zq er]) ∧ Ext w w' := by
  have QB : Hid (HV (w.alloc (.cells #[J zq a, J zq b, J zq c] 28)) w.heap.size [J zq a, J zq b, J zq c]) := hv_at rfl
  have E0 : Hid (Ext w (w.alloc (.cells #[J zq a, J zq b, J zq c] 28))) := (Ext.refl _).alloc _
  go_enter Tryz.func67, Tryz.ntmps67
  go_upto_region 1 with fail
  generalize (w.alloc (.cells #[J zq a, J zq b, J zq c] 28)) = wB at *
  have q0 := QB.out.c 0 rfl
  have q1 := QB.out.c 1 rfl
  have q2 := QB.out.c 2 rfl
  have ql := QB.out.1
  go_region_held3 (fun w' => w'.cell? ⟨w.heap.size, 0, none⟩ = some (J zq a) ∧ w'.cell? ⟨w.heap.size, 1, none⟩ = some (J zq b) ∧ w'.cell? ⟨w.heap.size, 2, none⟩ = some (J zq c)) (first | (go_keep; done) | skip) (first | (have hdd := hd; go_at_call 52; refine (HD.out _).mono ?_; rintro e wm ⟨⟨rm, rfl, hm⟩, xm⟩; have Ym : Ext wB wm := Ext.trans eX xm; have km0 := (QB.out.ext Ym).c 0 rfl; have km1 := (QB.out.ext Ym).c 1 rfl; have km2 := (QB.out.ext Ym).c 2 rfl; have lm := (QB.out.ext Ym).1) | (go_at_call 52; refine (HD.out _).mono ?_; rintro e wd ⟨⟨rd, rfl, hd⟩, xd⟩; have Yd : Ext wB wd := Ext.trans eX xd; have kd0 := (QB.out.ext Yd).c 0 rfl; have kd1 := (QB.out.ext Yd).c 1 rfl; have kd2 := (QB.out.ext Yd).c 2 rfl; have ld := (QB.out.ext Yd).1) | (go_at_call 101; refine (HO.out _ _ (hm.ext eX)).mono ?_; rintro e wn ⟨⟨rn, rfl, hn⟩, xn⟩; have Yn : Ext wB wn := Ext.trans eX xn; have kn0 := (QB.out.ext Yn).c 0 rfl; have kn1 := (QB.out.ext Yn).c 1 rfl; have kn2 := (QB.out.ext Yn).c 2 rfl; have ln := (QB.out.ext Yn).1) | (go_at_call 70; refine (HR.out _ _ _ (hdd.ext (Ext.trans xm eX)) (hn.ext eX)).mono ?_; rintro e wo ⟨⟨ro, rfl, ho⟩, xo⟩; have Yo : Ext wB wo := Ext.trans eX xo; have ko0 := (QB.out.ext Yo).c 0 rfl; have ko1 := (QB.out.ext Yo).c 1 rfl; have ko2 := (QB.out.ext Yo).c 2 rfl; have lo := (QB.out.ext Yo).1) | (go_at_call 69; refine (HW.out _ _ (ho.ext eX)).mono ?_; rintro e wz ⟨rfl, xz⟩; have Yz : Ext wB wz := Ext.trans eX xz; have kz0 := (QB.out.ext Yz).c 0 rfl; have kz1 := (QB.out.ext Yz).c 1 rfl; have kz2 := (QB.out.ext Yz).c 2 rfl; have lz := (QB.out.ext Yz).1))
  all_goals
    go_wp2_with fail
    go_ret2
    exact ⟨rfl, E0.out.trans Yz⟩
theorem rnorm_any (a b c : Int) (k : Nat) (w : World) (h : ok3 a b c = true) (hk : RootQ (sq3 a b c) 1 k) :
    Calls zP 67 #[zG #[J zq a, J zq b, J zq c]] w fun e w' => e = zR (.tuple #[J zq (fitR k).1, J zq (fitR k).2]) ∧ Ext w w' := by
  have e := sq3_dot a b c
  have fN := dot3_fit h
  have f1 : Fit 100 1 := by unfold Fit; decide
  have hl := sq3_lt h
  have hkl : k ≤ 70368744177664 := rootQ_le (B := 70368744177664) hk (by decide) (by omega)
  have fk : Fit 100 (k : Int) := by
    have p : (2 : Nat) ^ 100 = 1267650600228229401496703205376 := by decide
    unfold Fit; rw [Int.natAbs_natCast, p]; omega
  refine rnorm_raw a b c (dot3 a b c a b c) (if dot3 a b c a b c = 0 then 1 else dot3 a b c a b c) (k : Int) _ _ w (fun w' => rdot_any a b c a b c w' h h) (fun r w' hr => one_raw _ r w' hr (fN.small (by omega))) (fun r1 r2 w' i1 i2 => ?_) (fun r w' hr => word_any _ r w' hr (fk.small (by omega)))
  by_cases h0 : dot3 a b c a b c = 0
  · rw [if_pos h0] at i2
    rw [h0] at i1
    refine (overroot_any 0 1 100 r1 r2 w' i1 i2 (by decide) (by omega) (by omega) (by unfold Fit; decide) f1).mono ?_
    rintro e' w'' ⟨⟨r, s, he, hr, hs⟩, hx⟩
    have hq : sq3 a b c = 0 := by omega
    rw [hq] at hk
    obtain rfl : s = k := rootQ_unique (by decide) hs hk
    exact ⟨⟨r, he, hr⟩, hx⟩
  · rw [if_neg h0] at i2
    have hp : 0 < sq3 a b c := by omega
    rw [e] at i1 i2 fN
    refine (overroot_any _ (sq3 a b c) 100 r1 r2 w' i1 i2 (by omega) (by omega) (by omega) fN fN).mono ?_
    rintro e' w'' ⟨⟨r, s, he, hr, hs⟩, hx⟩
    have hm := rootQ_mul hp hk
    rw [Nat.mul_one] at hm
    rw [Int.natAbs_natCast] at hs
    obtain rfl : s = k := rootQ_unique hp hs hm
    rw [if_neg (by omega)] at hr
    exact ⟨⟨r, he, hr⟩, hx⟩
end Go.Proofs.YtoeecldhbabmbaaGreat
