/- gimbalref3: of, sum, Times, Exact over numbers that fit. -/
import Derived.Test.YtfmalpnlencmbaaGreatR3kmp
namespace Go.Proofs.YtfmalpnlencmbaaGreat
open Go.RowKit Go.Shelf
theorem fitW {a : Int} (h : okW a = true) : Fit 46 a := by
  have := okW_bounds h
  have e : (2 : Nat) ^ 46 = 70368744177664 := by decide
  unfold Fit; omega
theorem ok4_parts {a b c d : Int} (h : ok4 a b c d = true) : okW a = true ∧ okW b = true ∧ okW c = true ∧ okW d = true := by
  unfold ok4 at h
  simp only [Bool.and_eq_true] at h
  exact h
theorem fof_any (a b c d : Int) (w : World) (ha : okW a = true) (hb : okW b = true) (hc : okW c = true) (hd : okW d = true) : Calls Tryz.prog 84 #[.agg #[.int .i64 a, .int .i64 b, .int .i64 c, .int .i64 d]] w fun e w'' => (∃ r, e = .returned r ∧ IsFour w'' r a b c d) ∧ Ext w w'' :=
  of_raw a b c d w (fun w' => from_any a w' (word64 ha).1 (word64 ha).2) (fun w' => from_any b w' (word64 hb).1 (word64 hb).2) (fun w' => from_any c w' (word64 hc).1 (word64 hc).2) (fun w' => from_any d w' (word64 hd).1 (word64 hd).2)
theorem fit_sg {s : Int} (h : s = 1 ∨ s = -1) : Fit 1 s := by rcases h with rfl | rfl <;> (unfold Fit; decide)
theorem fsum_any (z0 z1 z2 z3 sb sc sd R : Int) (k : Nat) (r0 r1 r2 r3 : Value) (w : World) (i0 : IsI w r0 z0) (i1 : IsI w r1 z1) (i2 : IsI w r2 z2) (i3 : IsI w r3 z3)
    (hk : k ≤ 8000) (f0 : Fit k z0) (f1 : Fit k z1) (f2 : Fit k z2) (f3 : Fit k z3) (hb : sb = 1 ∨ sb = -1) (hc : sc = 1 ∨ sc = -1) (hd : sd = 1 ∨ sd = -1) (hR : z0 + z1 * sb + (z2 * sc + z3 * sd) = R) :
    Calls Tryz.prog 144 #[r0, r1, .int .i64 sb, r2, .int .i64 sc, r3, .int .i64 sd] w fun e w'' => (∃ r, e = .returned r ∧ IsI w'' r (R)) ∧ Ext w w'' := by
  subst hR
  obtain ⟨b0, a0, l0, k0, rfl⟩ := i0.form
  obtain ⟨b1, a1, l1, k1, rfl⟩ := i1.form
  obtain ⟨b2, a2, l2, k2, rfl⟩ := i2.form
  obtain ⟨b3, a3, l3, k3, rfl⟩ := i3.form
  have g1 := fit_sg hb
  have g2 := fit_sg hc
  have g3 := fit_sg hd
  have m1 := f1.mul g1
  have m2 := f2.mul g2
  have m3 := f3.mul g3
  have s1 := (f0.le (Nat.le_succ k)).add m1
  have s2 := m2.add m3
  have s3 := s1.add s2
  have b1' : -9223372036854775808 ≤ sb ∧ sb ≤ 9223372036854775807 := by omega
  have b2' : -9223372036854775808 ≤ sc ∧ sc ≤ 9223372036854775807 := by omega
  have b3' : -9223372036854775808 ≤ sd ∧ sd ≤ 9223372036854775807 := by omega
  exact fsum_raw b0 b1 b2 b3 a0 a1 a2 a3 l0 k0 l1 k1 l2 k2 l3 k3 z0 z1 z2 z3 sb sc sd _ _ _ _ _ _ w i0 i1 i2 i3
    (fun w' => from_any sb w' b1'.1 b1'.2) (fun r1 r2 w' j1 j2 => times_isI _ _ r1 r2 w' j1 j2 (f1.small (by omega)) (g1.small (by omega)) (m1.small (by omega)))
    (fun w' => from_any sc w' b2'.1 b2'.2) (fun r1 r2 w' j1 j2 => times_isI _ _ r1 r2 w' j1 j2 (f2.small (by omega)) (g2.small (by omega)) (m2.small (by omega)))
    (fun w' => from_any sd w' b3'.1 b3'.2) (fun r1 r2 w' j1 j2 => times_isI _ _ r1 r2 w' j1 j2 (f3.small (by omega)) (g3.small (by omega)) (m3.small (by omega)))
    (fun r1 r2 w' j1 j2 => plus_isI _ _ r1 r2 w' j1 j2 (f0.small (by omega)) (m1.small (by omega)) (s1.small (by omega)))
    (fun r1 r2 w' j1 j2 => plus_isI _ _ r1 r2 w' j1 j2 (m2.small (by omega)) (m3.small (by omega)) (s2.small (by omega)))
    (fun r1 r2 w' j1 j2 => plus_isI _ _ r1 r2 w' j1 j2 (s1.small (by omega)) (s2.small (by omega)) (s3.small (by omega)))
theorem ftimes_any (p0 p1 p2 p3 q0 q1 q2 q3 : Int) (k l : Nat) (v1 v2 : Value) (w : World) (h1 : IsFour w v1 p0 p1 p2 p3) (h2 : IsFour w v2 q0 q1 q2 q3) (hk : k + l ≤ 7000)
    (fp0 : Fit k p0) (fp1 : Fit k p1) (fp2 : Fit k p2) (fp3 : Fit k p3) (fq0 : Fit l q0) (fq1 : Fit l q1) (fq2 : Fit l q2) (fq3 : Fit l q3) :
    Calls Tryz.prog 83 #[v1, v2] w fun e w'' => (∃ r, e = .returned r ∧ IsFour w'' r (qw p0 p1 p2 p3 q0 q1 q2 q3) (qx p0 p1 p2 p3 q0 q1 q2 q3) (qy p0 p1 p2 p3 q0 q1 q2 q3) (qz p0 p1 p2 p3 q0 q1 q2 q3)) ∧ Ext w w'' := by
  obtain ⟨bp0, bp1, bp2, bp3, ap0, ap1, ap2, ap3, lp0, kp0, lp1, kp1, lp2, kp2, lp3, kp3, rfl, ip0, ip1, ip2, ip3⟩ := h1
  obtain ⟨bq0, bq1, bq2, bq3, aq0, aq1, aq2, aq3, lq0, kq0, lq1, kq1, lq2, kq2, lq3, kq3, rfl, iq0, iq1, iq2, iq3⟩ := h2
  have T : ∀ x y : Int, Fit k x → Fit l y → ∀ r1 r2 w', IsI w' r1 x → IsI w' r2 y → Calls Tryz.prog 124 #[r1, r2] w' fun e w'' => (∃ r, e = .returned r ∧ IsI w'' r (x * y)) ∧ Ext w' w'' := fun x y fx fy r1 r2 w' j1 j2 => times_isI _ _ r1 r2 w' j1 j2 (fx.small (by omega)) (fy.small (by omega)) ((fx.mul fy).small (by omega))
  have U : ∀ (z0 z1 z2 z3 sb sc sd R : Int), Fit (k + l) z0 → Fit (k + l) z1 → Fit (k + l) z2 → Fit (k + l) z3 → (sb = 1 ∨ sb = -1) → (sc = 1 ∨ sc = -1) → (sd = 1 ∨ sd = -1) → z0 + z1 * sb + (z2 * sc + z3 * sd) = R → ∀ r0 r1 r2 r3 w', IsI w' r0 z0 → IsI w' r1 z1 → IsI w' r2 z2 → IsI w' r3 z3 → Calls Tryz.prog 144 #[r0, r1, .int .i64 sb, r2, .int .i64 sc, r3, .int .i64 sd] w' fun e w'' => (∃ r, e = .returned r ∧ IsI w'' r R) ∧ Ext w' w'' := fun z0 z1 z2 z3 sb sc sd R g0 g1 g2 g3 hb hc hd hR r0 r1 r2 r3 w' j0 j1 j2 j3 => fsum_any z0 z1 z2 z3 sb sc sd R (k + l) r0 r1 r2 r3 w' j0 j1 j2 j3 (by omega) g0 g1 g2 g3 hb hc hd hR
  exact ftimes_raw bp0 bp1 bp2 bp3 bq0 bq1 bq2 bq3 ap0 ap1 ap2 ap3 aq0 aq1 aq2 aq3 lp0 kp0 lp1 kp1 lp2 kp2 lp3 kp3 lq0 kq0 lq1 kq1 lq2 kq2 lq3 kq3 p0 p1 p2 p3 q0 q1 q2 q3 _ _ _ _ _ _ _ _ _ _ _ _ _ _ _ _ _ _ _ _ w ip0 ip1 ip2 ip3 iq0 iq1 iq2 iq3
    (T p0 q0 fp0 fq0) (T p1 q1 fp1 fq1) (T p2 q2 fp2 fq2) (T p3 q3 fp3 fq3) (U _ _ _ _ (-1) (-1) (-1) (qw p0 p1 p2 p3 q0 q1 q2 q3) (fp0.mul fq0) (fp1.mul fq1) (fp2.mul fq2) (fp3.mul fq3) (.inr rfl) (.inr rfl) (.inr rfl) (by unfold qw; omega))
    (T p0 q1 fp0 fq1) (T p1 q0 fp1 fq0) (T p2 q3 fp2 fq3) (T p3 q2 fp3 fq2) (U _ _ _ _ (1) (1) (-1) (qx p0 p1 p2 p3 q0 q1 q2 q3) (fp0.mul fq1) (fp1.mul fq0) (fp2.mul fq3) (fp3.mul fq2) (.inl rfl) (.inl rfl) (.inr rfl) (by unfold qx; omega))
    (T p0 q2 fp0 fq2) (T p1 q3 fp1 fq3) (T p2 q0 fp2 fq0) (T p3 q1 fp3 fq1) (U _ _ _ _ (-1) (1) (1) (qy p0 p1 p2 p3 q0 q1 q2 q3) (fp0.mul fq2) (fp1.mul fq3) (fp2.mul fq0) (fp3.mul fq1) (.inr rfl) (.inl rfl) (.inl rfl) (by unfold qy; omega))
    (T p0 q3 fp0 fq3) (T p1 q2 fp1 fq2) (T p2 q1 fp2 fq1) (T p3 q0 fp3 fq0) (U _ _ _ _ (1) (-1) (1) (qz p0 p1 p2 p3 q0 q1 q2 q3) (fp0.mul fq3) (fp1.mul fq2) (fp2.mul fq1) (fp3.mul fq0) (.inl rfl) (.inr rfl) (.inl rfl) (by unfold qz; omega))
theorem qw_fit {p0 p1 p2 p3 q0 q1 q2 q3 : Int} {k l : Nat} (fp0 : Fit k p0) (fp1 : Fit k p1) (fp2 : Fit k p2) (fp3 : Fit k p3) (fq0 : Fit l q0) (fq1 : Fit l q1) (fq2 : Fit l q2) (fq3 : Fit l q3) : Fit (k + l + 3) (qw p0 p1 p2 p3 q0 q1 q2 q3) ∧ Fit (k + l + 3) (qx p0 p1 p2 p3 q0 q1 q2 q3) ∧ Fit (k + l + 3) (qy p0 p1 p2 p3 q0 q1 q2 q3) ∧ Fit (k + l + 3) (qz p0 p1 p2 p3 q0 q1 q2 q3) := by
  have S : ∀ u x y z : Int, Fit (k + l) u → Fit (k + l) x → Fit (k + l) y → Fit (k + l) z → ∀ s1 s2 s3 : Int, (s1 = 1 ∨ s1 = -1) → (s2 = 1 ∨ s2 = -1) → (s3 = 1 ∨ s3 = -1) → Fit (k + l + 3) (u + x * s1 + (y * s2 + z * s3)) := fun u x y z fu fx fy fz s1 s2 s3 h1 h2 h3 =>
    ((fu.le (Nat.le_succ _)).add (fx.mul (fit_sg h1))).add ((fy.mul (fit_sg h2)).add (fz.mul (fit_sg h3)))
  refine ⟨?_, ?_, ?_, ?_⟩
  · have h := S _ _ _ _ (fp0.mul fq0) (fp1.mul fq1) (fp2.mul fq2) (fp3.mul fq3) (-1) (-1) (-1) (.inr rfl) (.inr rfl) (.inr rfl)
    have e : qw p0 p1 p2 p3 q0 q1 q2 q3 = p0 * q0 + p1 * q1 * (-1) + (p2 * q2 * (-1) + p3 * q3 * (-1)) := by unfold qw; omega
    rw [e]; exact h
  · have h := S _ _ _ _ (fp0.mul fq1) (fp1.mul fq0) (fp2.mul fq3) (fp3.mul fq2) (1) (1) (-1) (.inl rfl) (.inl rfl) (.inr rfl)
    have e : qx p0 p1 p2 p3 q0 q1 q2 q3 = p0 * q1 + p1 * q0 * (1) + (p2 * q3 * (1) + p3 * q2 * (-1)) := by unfold qx; omega
    rw [e]; exact h
  · have h := S _ _ _ _ (fp0.mul fq2) (fp1.mul fq3) (fp2.mul fq0) (fp3.mul fq1) (-1) (1) (1) (.inr rfl) (.inl rfl) (.inl rfl)
    have e : qy p0 p1 p2 p3 q0 q1 q2 q3 = p0 * q2 + p1 * q3 * (-1) + (p2 * q0 * (1) + p3 * q1 * (1)) := by unfold qy; omega
    rw [e]; exact h
  · have h := S _ _ _ _ (fp0.mul fq3) (fp1.mul fq2) (fp2.mul fq1) (fp3.mul fq0) (1) (-1) (1) (.inl rfl) (.inr rfl) (.inl rfl)
    have e : qz p0 p1 p2 p3 q0 q1 q2 q3 = p0 * q3 + p1 * q2 * (1) + (p2 * q1 * (-1) + p3 * q0 * (1)) := by unfold qz; omega
    rw [e]; exact h
end Go.Proofs.YtfmalpnlencmbaaGreat
