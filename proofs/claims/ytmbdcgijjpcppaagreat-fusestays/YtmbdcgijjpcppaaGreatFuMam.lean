/- gimbalref15: May: an orientation, by the reference's own whole numbers. -/
import Derived.Test.YtmbdcgijjpcppaaGreatPrm
import Derived.Test.YtmbdcgijjpcppaaGreatMaym
import Derived.Test.YtmbdcgijjpcppaaGreatMg7
import Derived.Test.YtmbdcgijjpcppaaGreatMg33
import Derived.Deep.RegionHeld
import Derived.Deep.RegionHeld3
namespace Go.Proofs.YtmbdcgijjpcppaaGreat
open Go.RowKit Go.Shelf
set_option maxHeartbeats 8000000 in
theorem rdot_raw (a0 a1 a2 b0 b1 b2 p q s t D : Int) (w : World)
    (P0 : Hid (∀ w', Calls Tryz.prog 30 #[.int .i64 a0, .int .i64 b0] w' fun e w'' => (∃ r, e = .returned r ∧ IsI w'' r p) ∧ Ext w' w''))
    (P1 : Hid (∀ w', Calls Tryz.prog 30 #[.int .i64 a1, .int .i64 b1] w' fun e w'' => (∃ r, e = .returned r ∧ IsI w'' r q) ∧ Ext w' w''))
    (P2 : Hid (∀ w', Calls Tryz.prog 30 #[.int .i64 a2, .int .i64 b2] w' fun e w'' => (∃ r, e = .returned r ∧ IsI w'' r s) ∧ Ext w' w''))
    (L1 : Hid (∀ r1 r2 w', IsI w' r1 p → IsI w' r2 q → Calls Tryz.prog 65 #[r1, r2] w' fun e w'' => (∃ r, e = .returned r ∧ IsI w'' r t) ∧ Ext w' w''))
    (L2 : Hid (∀ r1 r2 w', IsI w' r1 t → IsI w' r2 s → Calls Tryz.prog 65 #[r1, r2] w' fun e w'' => (∃ r, e = .returned r ∧ IsI w'' r D) ∧ Ext w' w'')) :
    Calls Tryz.prog 66 #[.agg #[.int .i64 a0, .int .i64 a1, .int .i64 a2], .agg #[.int .i64 b0, .int .i64 b1, .int .i64 b2]] w fun e w' => (∃ r, e = .returned r ∧ IsI w' r D) ∧ Ext w w' := by
  have PB : Hid (H3 (((w.alloc (.cells #[.int .i64 a0, .int .i64 a1, .int .i64 a2] 28)).alloc (.cells #[.int .i64 b0, .int .i64 b1, .int .i64 b2] 28)).alloc (.cells #[.bool false, .slice none 0 0] 58)).drew w.heap.size (.int .i64 a0) (.int .i64 a1) (.int .i64 a2)) := H3.drew (H3.alloc (H3.alloc (h3_at rfl) _) _)
  have NB : Hid (H3 (((w.alloc (.cells #[.int .i64 a0, .int .i64 a1, .int .i64 a2] 28)).alloc (.cells #[.int .i64 b0, .int .i64 b1, .int .i64 b2] 28)).alloc (.cells #[.bool false, .slice none 0 0] 58)).drew (w.heap.size + 1) (.int .i64 b0) (.int .i64 b1) (.int .i64 b2)) := H3.drew (H3.alloc (h3_at (by simp)) _)
  have RB : Hid (Has (((w.alloc (.cells #[.int .i64 a0, .int .i64 a1, .int .i64 a2] 28)).alloc (.cells #[.int .i64 b0, .int .i64 b1, .int .i64 b2] 28)).alloc (.cells #[.bool false, .slice none 0 0] 58)).drew (w.heap.size + 1 + 1) (.bool false) (.slice none 0 0)) := by
    have h : Has (((w.alloc (.cells #[.int .i64 a0, .int .i64 a1, .int .i64 a2] 28)).alloc (.cells #[.int .i64 b0, .int .i64 b1, .int .i64 b2] 28)).alloc (.cells #[.bool false, .slice none 0 0] 58)) _ _ _ := ext_new1 (Ext.refl _)
    have h2 := h.ext (Ext.refl _).drew
    rw [World.size_alloc, World.size_alloc] at h2
    exact h2
  have E0 : Ext w (((w.alloc (.cells #[.int .i64 a0, .int .i64 a1, .int .i64 a2] 28)).alloc (.cells #[.int .i64 b0, .int .i64 b1, .int .i64 b2] 28)).alloc (.cells #[.bool false, .slice none 0 0] 58)).drew := ((((Ext.refl _).alloc _).alloc _).alloc _).drew
  have ne1 : w.heap.size ≠ w.heap.size + 1 + 1 := by omega
  have ne2 : w.heap.size + 1 ≠ w.heap.size + 1 + 1 := by omega
  go_enter Tryz.func66, Tryz.ntmps66
  go_wp2_with fail
  go_region_held (fun w' => w'.cell? ⟨w.heap.size, 0, none⟩ = some (.int .i64 a0) ∧ w'.cell? ⟨w.heap.size, 1, none⟩ = some (.int .i64 a1) ∧ w'.cell? ⟨w.heap.size, 2, none⟩ = some (.int .i64 a2) ∧ w'.cell? ⟨w.heap.size + 1, 0, none⟩ = some (.int .i64 b0) ∧ w'.cell? ⟨w.heap.size + 1, 1, none⟩ = some (.int .i64 b1) ∧ w'.cell? ⟨w.heap.size + 1, 2, none⟩ = some (.int .i64 b2)) (first | (go_keep; done) | (simp only [far2 _ _ _ _ _ ne1, far2 _ _ _ _ _ ne2]; exact ⟨by assumption, by assumption, by assumption, by assumption, by assumption, by assumption⟩)) (first | (go_at_call_of 30 (Value.int IntKind.i64 a0); refine (P0.out _).mono ?_; rintro e wA ⟨⟨rA, rfl, hA⟩, xA⟩; have yA : Ext (((w.alloc (.cells #[.int .i64 a0, .int .i64 a1, .int .i64 a2] 28)).alloc (.cells #[.int .i64 b0, .int .i64 b1, .int .i64 b2] 28)).alloc (.cells #[.bool false, .slice none 0 0] 58)).drew wA := Ext.trans (Ext.refl _) xA; obtain ⟨p0, p1, p2, p3, p4, p5, p6⟩ := PB.out.ext yA; obtain ⟨n0, n1, n2, n3, n4, n5, n6⟩ := NB.out.ext yA; obtain ⟨m0, m1, m2, m3⟩ := RB.out.ext yA) | (go_at_call_of 30 (Value.int IntKind.i64 a1); refine (P1.out _).mono ?_; rintro e wB ⟨⟨rB, rfl, hB⟩, xB⟩; have yB : Ext (((w.alloc (.cells #[.int .i64 a0, .int .i64 a1, .int .i64 a2] 28)).alloc (.cells #[.int .i64 b0, .int .i64 b1, .int .i64 b2] 28)).alloc (.cells #[.bool false, .slice none 0 0] 58)).drew wB := Ext.trans yA xB; obtain ⟨p0, p1, p2, p3, p4, p5, p6⟩ := PB.out.ext yB; obtain ⟨n0, n1, n2, n3, n4, n5, n6⟩ := NB.out.ext yB; obtain ⟨m0, m1, m2, m3⟩ := RB.out.ext yB) | (go_at_call_of 65 rA; refine (L1.out _ _ _ (hA.ext xB) hB).mono ?_; rintro e wC ⟨⟨rC, rfl, hC⟩, xC⟩; have yC : Ext (((w.alloc (.cells #[.int .i64 a0, .int .i64 a1, .int .i64 a2] 28)).alloc (.cells #[.int .i64 b0, .int .i64 b1, .int .i64 b2] 28)).alloc (.cells #[.bool false, .slice none 0 0] 58)).drew wC := Ext.trans yB xC; obtain ⟨p0, p1, p2, p3, p4, p5, p6⟩ := PB.out.ext yC; obtain ⟨n0, n1, n2, n3, n4, n5, n6⟩ := NB.out.ext yC; obtain ⟨m0, m1, m2, m3⟩ := RB.out.ext yC) | (go_at_call_of 30 (Value.int IntKind.i64 a2); refine (P2.out _).mono ?_; rintro e wD ⟨⟨rD, rfl, hD⟩, xD⟩; have yD : Ext (((w.alloc (.cells #[.int .i64 a0, .int .i64 a1, .int .i64 a2] 28)).alloc (.cells #[.int .i64 b0, .int .i64 b1, .int .i64 b2] 28)).alloc (.cells #[.bool false, .slice none 0 0] 58)).drew wD := Ext.trans yC xD; obtain ⟨p0, p1, p2, p3, p4, p5, p6⟩ := PB.out.ext yD; obtain ⟨n0, n1, n2, n3, n4, n5, n6⟩ := NB.out.ext yD; obtain ⟨m0, m1, m2, m3⟩ := RB.out.ext yD) | (go_at_call_of 65 rC; refine (L2.out _ _ _ (hC.ext xD) hD).mono ?_; rintro e wE ⟨⟨rE, rfl, hE⟩, xE⟩; have yE : Ext (((w.alloc (.cells #[.int .i64 a0, .int .i64 a1, .int .i64 a2] 28)).alloc (.cells #[.int .i64 b0, .int .i64 b1, .int .i64 b2] 28)).alloc (.cells #[.bool false, .slice none 0 0] 58)).drew wE := Ext.trans yD xE; obtain ⟨p0, p1, p2, p3, p4, p5, p6⟩ := PB.out.ext yE; obtain ⟨n0, n1, n2, n3, n4, n5, n6⟩ := NB.out.ext yE; obtain ⟨m0, m1, m2, m3⟩ := RB.out.ext yE; obtain ⟨u, hu, hk⟩ := hE; obtain ⟨au, lu, cu, hau⟩ := hk.isSlice; subst hau; subst hu; have HI : Hid (IsI wE (.agg #[.bool (decide (D < 0)), .slice au lu cu]) D) := ⟨_, rfl, hk⟩; clear hk))
  all_goals
    have X3 : Hid (Ext w wE) := E0.trans yE
    clear E0 yA yB yC yD yE xA xB xC xD xE hA hB hC hD
    go_wp2_with fail
    exact bodyPost_ret (v := .agg #[.bool (decide (D < 0)), .slice au lu cu]) (by simp [results, Tryz.results66, go_sem, m0, m1]) rfl ⟨⟨_, rfl, HI.out.set2 m0 m1⟩, by have SZ := X3.out.size; exact (X3.out.set (by dsimp only; omega) _).set (by dsimp only; omega) _⟩

theorem rdot_any (a0 a1 a2 b0 b1 b2 : Int) (w : World) (h1 : ok3 a0 a1 a2 = true) (h2 : ok3 b0 b1 b2 = true) :
    Calls Tryz.prog 66 #[.agg #[.int .i64 a0, .int .i64 a1, .int .i64 a2], .agg #[.int .i64 b0, .int .i64 b1, .int .i64 b2]] w fun e w' => (∃ r, e = .returned r ∧ IsI w' r (dot3 a0 a1 a2 b0 b1 b2)) ∧ Ext w w' := by
  obtain ⟨g0, g1, g2⟩ := ok3_parts h1
  obtain ⟨k0, k1, k2⟩ := ok3_parts h2
  have q0 := prod_abs g0 k0
  have q1 := prod_abs g1 k1
  have q2 := prod_abs g2 k2
  have e : (2 : Nat) ^ 200 = 1606938044258990275541962092341162602522202993782792835301376 := by decide
  have f0 : Fit 200 (a0 * b0) := by unfold Fit; omega
  have f1 : Fit 200 (a1 * b1) := by unfold Fit; omega
  have f2 : Fit 200 (a2 * b2) := by unfold Fit; omega
  have f3 : Fit 200 (a0 * b0 + a1 * b1) := by unfold Fit; omega
  have f4 : Fit 200 (a0 * b0 + a1 * b1 + a2 * b2) := by unfold Fit; omega
  exact rdot_raw a0 a1 a2 b0 b1 b2 _ _ _ _ _ w (fun w' => prod_any a0 b0 w' (word64 g0).1 (word64 g0).2 (word64 k0).1 (word64 k0).2) (fun w' => prod_any a1 b1 w' (word64 g1).1 (word64 g1).2 (word64 k1).1 (word64 k1).2) (fun w' => prod_any a2 b2 w' (word64 g2).1 (word64 g2).2 (word64 k2).1 (word64 k2).2) (fun r1 r2 w' i1 i2 => plus_isI _ _ r1 r2 w' i1 i2 (f0.small (by omega)) (f1.small (by omega)) (f3.small (by omega))) (fun r1 r2 w' i1 i2 => plus_isI _ _ r1 r2 w' i1 i2 (f3.small (by omega)) (f2.small (by omega)) (f4.small (by omega)))
set_option maxHeartbeats 4000000 in
theorem mayq_any (a b c d : Int) (w : World) :
    Calls Tryz.prog 27 #[.agg #[.int .i64 a, .int .i64 b, .int .i64 c, .int .i64 d]] w fun e w' => e = .returned (.bool (ok4 a b c d)) ∧ Ext w w' := by
  have HM : Hid (∀ v w', Calls Tryz.prog 31 #[.int .i64 v] w' fun e w'' => e = .returned (.bool (okW v)) ∧ w'' = w') := may_any
  unfold ok4
  cases h0 : okW a
  · go_enter Tryz.func27, Tryz.ntmps27
    go_wp2_with (go_at_call 31; refine (HM.out _ _).mono ?_; rintro e wx ⟨rfl, hwx⟩; have hwy := hwx.symm; clear hwx; subst hwy)
    go_ret
    exact ⟨rfl, (Ext.refl _).alloc _⟩
  · cases h1 : okW b
    · go_enter Tryz.func27, Tryz.ntmps27
      go_wp2_with (go_at_call 31; refine (HM.out _ _).mono ?_; rintro e wx ⟨rfl, hwx⟩; have hwy := hwx.symm; clear hwx; subst hwy)
      go_ret
      exact ⟨rfl, (Ext.refl _).alloc _⟩
    · cases h2 : okW c
      · go_enter Tryz.func27, Tryz.ntmps27
        go_wp2_with (go_at_call 31; refine (HM.out _ _).mono ?_; rintro e wx ⟨rfl, hwx⟩; have hwy := hwx.symm; clear hwx; subst hwy)
        go_ret
        exact ⟨rfl, (Ext.refl _).alloc _⟩
      · go_enter Tryz.func27, Tryz.ntmps27
        go_wp2_with (go_at_call 31; refine (HM.out _ _).mono ?_; rintro e wx ⟨rfl, hwx⟩; have hwy := hwx.symm; clear hwx; subst hwy)
        go_ret
        exact ⟨rfl, (Ext.refl _).alloc _⟩
set_option maxRecDepth 20000 in
set_option maxHeartbeats 8000000 in
theorem rsquares_raw (a b c d p s D : Int) (w : World)
    (P0 : Hid (∀ w', Calls Tryz.prog 30 #[.int .i64 a, .int .i64 a] w' fun e w'' => (∃ r, e = .returned r ∧ IsI w'' r (p)) ∧ Ext w' w''))
    (DD : Hid (∀ w', Calls Tryz.prog 66 #[.agg #[.int .i64 b, .int .i64 c, .int .i64 d], .agg #[.int .i64 b, .int .i64 c, .int .i64 d]] w' fun e w'' => (∃ r, e = .returned r ∧ IsI w'' r (s)) ∧ Ext w' w''))
    (PP : Hid (∀ r1 r2 w', IsI w' r1 p → IsI w' r2 s → Calls Tryz.prog 65 #[r1, r2] w' fun e w'' => (∃ r, e = .returned r ∧ IsI w'' r (D)) ∧ Ext w' w'')) :
    Calls Tryz.prog 28 #[.agg #[.int .i64 a, .int .i64 b, .int .i64 c, .int .i64 d]] w fun e w' => (∃ r, e = .returned r ∧ IsI w' r D) ∧ Ext w w' := by
  have QB : Hid (HV ((w.alloc (.cells #[.int .i64 a, .int .i64 b, .int .i64 c, .int .i64 d] 24)).alloc (.cells #[.bool false, .slice none 0 0] 58)) w.heap.size [.int .i64 a, .int .i64 b, .int .i64 c, .int .i64 d]) := HV.alloc (hv_at rfl) _
  have RB : Hid (HV ((w.alloc (.cells #[.int .i64 a, .int .i64 b, .int .i64 c, .int .i64 d] 24)).alloc (.cells #[.bool false, .slice none 0 0] 58)) (w.heap.size + 1) [.bool false, .slice none 0 0]) := hv_at (by simp)
  have E0 : Ext w ((w.alloc (.cells #[.int .i64 a, .int .i64 b, .int .i64 c, .int .i64 d] 24)).alloc (.cells #[.bool false, .slice none 0 0] 58)) := ((Ext.refl _).alloc _).alloc _
  have ne1 : w.heap.size ≠ w.heap.size + 1 := by omega
  have ne2 : w.heap.size + 1 ≠ w.heap.size := by omega
  go_enter Tryz.func28, Tryz.ntmps28
  go_upto_region 1 with fail
  generalize ((w.alloc (.cells #[.int .i64 a, .int .i64 b, .int .i64 c, .int .i64 d] 24)).alloc (.cells #[.bool false, .slice none 0 0] 58)) = wB at *
  obtain ⟨q0, q1, q2, q3⟩ := QB.out.k4
  have ql := QB.out.1
  go_region_held3 (fun w' => w'.cell? ⟨w.heap.size, 0, none⟩ = some (.int .i64 a) ∧ w'.cell? ⟨w.heap.size, 1, none⟩ = some (.int .i64 b) ∧ w'.cell? ⟨w.heap.size, 2, none⟩ = some (.int .i64 c) ∧ w'.cell? ⟨w.heap.size, 3, none⟩ = some (.int .i64 d)) (first | (go_keep; done) | skip) (first | (go_at_call 30; refine (P0.out _).mono ?_; rintro e wa ⟨⟨ra, rfl, ha⟩, xa⟩; have Ya : Ext wB wa := Ext.trans (by repeat (first | with_reducible assumption | with_reducible exact Ext.refl _ | with_reducible refine Ext.drew ?_ | with_reducible refine Ext.drewN ?_ _ | with_reducible refine Ext.alloc ?_ _ | with_reducible refine Ext.set ?_ (by first | exact Nat.le_refl _ | (dsimp only; omega) | (simp; done)) _)) xa; obtain ⟨ka0, ka1, ka2, ka3⟩ := (QB.out.ext Ya).k4; have ra0 := (RB.out.ext Ya).c 0 rfl; have ra1 := (RB.out.ext Ya).c 1 rfl; have fa0 := (RB.out.ext Ya).f 0 rfl; have fa1 := (RB.out.ext Ya).f 1 rfl; have la := (RB.out.ext Ya).1) | (go_at_call 66; refine (DD.out _).mono ?_; rintro e wd ⟨⟨rd, rfl, hd⟩, xd⟩; have Yd : Ext wB wd := Ext.trans (by repeat (first | with_reducible assumption | with_reducible exact Ext.refl _ | with_reducible refine Ext.drew ?_ | with_reducible refine Ext.drewN ?_ _ | with_reducible refine Ext.alloc ?_ _ | with_reducible refine Ext.set ?_ (by first | exact Nat.le_refl _ | (dsimp only; omega) | (simp; done)) _)) xd; obtain ⟨kd0, kd1, kd2, kd3⟩ := (QB.out.ext Yd).k4; have rd0 := (RB.out.ext Yd).c 0 rfl; have rd1 := (RB.out.ext Yd).c 1 rfl; have fd0 := (RB.out.ext Yd).f 0 rfl; have fd1 := (RB.out.ext Yd).f 1 rfl; have ld := (RB.out.ext Yd).1) | (go_at_call 65; refine (PP.out _ _ _ (by first | exact ha.ext xd | exact ha.ext (Ext.trans (by repeat (first | with_reducible assumption | with_reducible exact Ext.refl _ | with_reducible refine Ext.drew ?_ | with_reducible refine Ext.drewN ?_ _ | with_reducible refine Ext.alloc ?_ _ | with_reducible refine Ext.set ?_ (by first | exact Nat.le_refl _ | (dsimp only; omega) | (simp; done)) _)) xd)) hd).mono ?_; rintro e wp ⟨⟨rp, rfl, hp⟩, xp⟩; have Yp : Ext wB wp := Ext.trans (by repeat (first | with_reducible assumption | with_reducible exact Ext.refl _ | with_reducible refine Ext.drew ?_ | with_reducible refine Ext.drewN ?_ _ | with_reducible refine Ext.alloc ?_ _ | with_reducible refine Ext.set ?_ (by first | exact Nat.le_refl _ | (dsimp only; omega) | (simp; done)) _)) xp; obtain ⟨kp0, kp1, kp2, kp3⟩ := (QB.out.ext Yp).k4; have rp0 := (RB.out.ext Yp).c 0 rfl; have rp1 := (RB.out.ext Yp).c 1 rfl; have fp0 := (RB.out.ext Yp).f 0 rfl; have fp1 := (RB.out.ext Yp).f 1 rfl; have lp := (RB.out.ext Yp).1; obtain ⟨u, hu, hk⟩ := hp; obtain ⟨au, lu, cu, hau⟩ := hk.isSlice; subst hau; subst hu; have HI : Hid (IsI wp (.agg #[.bool (decide (D < 0)), .slice au lu cu]) D) := ⟨_, rfl, hk⟩; clear hk))
  all_goals
    have X3 : Hid (Ext w wp) := E0.trans Yp
    go_wp2_with fail
    exact bodyPost_ret (v := .agg #[.bool (decide (D < 0)), .slice au lu cu]) (by simp [results, Tryz.results28, go_sem, rp0, rp1]) rfl ⟨⟨_, rfl, HI.out.set2 rp0 rp1⟩, (X3.out.set (p := ⟨w.heap.size + 1, 0, none⟩) (by dsimp only; omega) _).set (p := ⟨w.heap.size + 1, 1, none⟩) (by dsimp only; omega) _⟩
theorem fit70 {a : Int} (h : okW a = true) : Fit 46 a := by
  have := okW_bounds h
  have e : (2 : Nat) ^ 46 = 70368744177664 := by decide
  unfold Fit; omega
theorem rsquares_any (a b c d : Int) (w : World) (h : ok4 a b c d = true) :
    Calls Tryz.prog 28 #[.agg #[.int .i64 a, .int .i64 b, .int .i64 c, .int .i64 d]] w fun e w' => (∃ r, e = .returned r ∧ IsI w' r (a * a + b * b + c * c + d * d)) ∧ Ext w w' := by
  have h' := h
  unfold ok4 at h'
  simp only [Bool.and_eq_true] at h'
  obtain ⟨ha, hb, hc, hd⟩ := h'
  have k3 : ok3 b c d = true := by unfold ok3; rw [hb, hc, hd]; rfl
  have fa := (fit70 ha).mul (fit70 ha)
  have fb := (fit70 hb).mul (fit70 hb)
  have fc := (fit70 hc).mul (fit70 hc)
  have fd := (fit70 hd).mul (fit70 hd)
  have f1 : Fit 100 (a * a) := fa.le (by omega)
  have f2 : Fit 100 (dot3 b c d b c d) := by unfold dot3; exact ((fb.add fc).add (fd.le (by omega))).le (by omega)
  have f3 : Fit 101 (a * a + dot3 b c d b c d) := f1.add f2
  have e : a * a + b * b + c * c + d * d = a * a + dot3 b c d b c d := by unfold dot3; omega
  rw [e]
  exact rsquares_raw a b c d (a * a) (dot3 b c d b c d) _ w (fun w' => prod_any a a w' (word64 ha).1 (word64 ha).2 (word64 ha).1 (word64 ha).2) (fun w' => rdot_any b c d b c d w' k3 k3) (fun r1 r2 w' i1 i2 => plus_isI _ _ r1 r2 w' i1 i2 (f1.small (by omega)) (f2.small (by omega)) (f3.small (by omega)))
set_option maxRecDepth 20000 in
set_option maxHeartbeats 8000000 in
theorem may15_no (a b c d : Int) (w : World) (HQ : Hid (∀ w', Calls Tryz.prog 27 #[.agg #[.int .i64 a, .int .i64 b, .int .i64 c, .int .i64 d]] w' fun e w'' => e = .returned (.bool false) ∧ Ext w' w'')) :
    Calls Tryz.prog 7 #[.agg #[.int .i64 a, .int .i64 b, .int .i64 c, .int .i64 d]] w fun e w' => e = .returned (.bool false) ∧ Ext w w' := by
  have FQ : Hid (HV (w.alloc (.cells #[.int .i64 a, .int .i64 b, .int .i64 c, .int .i64 d] 26)) w.heap.size [.int .i64 a, .int .i64 b, .int .i64 c, .int .i64 d]) := hv_at rfl
  have FX : Hid (Ext w (w.alloc (.cells #[.int .i64 a, .int .i64 b, .int .i64 c, .int .i64 d] 26))) := (Ext.refl w).alloc _
  go_enter Tryz.func7, Tryz.ntmps7
  go_upto_region 1 with fail
  generalize (w.alloc (.cells #[.int .i64 a, .int .i64 b, .int .i64 c, .int .i64 d] 26)) = w0 at *
  obtain ⟨q0, q1, q2, q3⟩ := FQ.out.k4
  go_wp2_with (go_at_call 27; refine (HQ.out _).mono ?_; rintro e w1 ⟨rfl, x1⟩; have E1 : Hid (Ext w w1) := FX.out.trans x1)
  go_ret
  exact ⟨rfl, E1.out⟩
set_option maxRecDepth 20000 in
set_option maxHeartbeats 8000000 in
theorem may15_yes (a b c d N L H s1 s2 : Int) (w : World) (HQ : Hid (∀ w', Calls Tryz.prog 27 #[.agg #[.int .i64 a, .int .i64 b, .int .i64 c, .int .i64 d]] w' fun e w'' => e = .returned (.bool true) ∧ Ext w' w'')) (HS : Hid (∀ w', Calls Tryz.prog 28 #[.agg #[.int .i64 a, .int .i64 b, .int .i64 c, .int .i64 d]] w' fun e w'' => (∃ r, e = .returned r ∧ IsI w'' r (N)) ∧ Ext w' w'')) (HL : Hid (∀ w', Calls Tryz.prog 30 #[.int .i64 1073741820, .int .i64 1073741820] w' fun e w'' => (∃ r, e = .returned r ∧ IsI w'' r (L)) ∧ Ext w' w'')) (HH : Hid (∀ w', Calls Tryz.prog 30 #[.int .i64 1073741828, .int .i64 1073741828] w' fun e w'' => (∃ r, e = .returned r ∧ IsI w'' r (H)) ∧ Ext w' w'')) (C1 : Hid (∀ r1 r2 w', IsI w' r1 N → IsI w' r2 L → Calls Tryz.prog 29 #[r1, r2] w' fun e w'' => e = .returned (.int .i64 s1) ∧ Ext w' w'')) (C2 : Hid (∀ r1 r2 w', IsI w' r1 N → IsI w' r2 H → Calls Tryz.prog 29 #[r1, r2] w' fun e w'' => e = .returned (.int .i64 s2) ∧ Ext w' w'')) (hs1 : s1 = 0 ∨ s1 = 1) (hs2 : s2 = -1 ∨ s2 = 0 ∨ s2 = 1) :
    Calls Tryz.prog 7 #[.agg #[.int .i64 a, .int .i64 b, .int .i64 c, .int .i64 d]] w fun e w' => e = .returned (.bool (decide (0 ≤ s1) && decide (s2 ≤ 0))) ∧ Ext w w' := by
  have FQ : Hid (HV (w.alloc (.cells #[.int .i64 a, .int .i64 b, .int .i64 c, .int .i64 d] 26)) w.heap.size [.int .i64 a, .int .i64 b, .int .i64 c, .int .i64 d]) := hv_at rfl
  have FX : Hid (Ext w (w.alloc (.cells #[.int .i64 a, .int .i64 b, .int .i64 c, .int .i64 d] 26))) := (Ext.refl w).alloc _
  go_enter Tryz.func7, Tryz.ntmps7
  go_upto_region 1 with fail
  generalize (w.alloc (.cells #[.int .i64 a, .int .i64 b, .int .i64 c, .int .i64 d] 26)) = w0 at *
  obtain ⟨q0, q1, q2, q3⟩ := FQ.out.k4
  go_upto_region 3 with (go_at_call 27; refine (HQ.out _).mono ?_; rintro e w1 ⟨rfl, x1⟩)
  have FQ : Hid (HV w1 w.heap.size [.int .i64 a, .int .i64 b, .int .i64 c, .int .i64 d]) := FQ.out.ext x1
  have FX : Hid (Ext w w1) := FX.out.trans x1
  clear x1 q0 q1 q2 q3 HQ
  obtain ⟨q0, q1, q2, q3⟩ := FQ.out.k4
  go_wp2_with fail
  refine (HS.out _).mono ?_
  rintro e w2 ⟨⟨r, rfl, hr⟩, x2⟩
  obtain ⟨u, hu, hk⟩ := hr
  obtain ⟨au, lu, cu, hau⟩ := hk.isSlice
  subst hau; subst hu
  have IN : Hid (IsI w2 (.agg #[.bool (decide (N < 0)), .slice au lu cu]) N) := ⟨_, rfl, hk⟩
  clear hk
  have FX : Hid (Ext w w2) := FX.out.trans x2
  clear x2 q0 q1 q2 q3 FQ HS
  generalize decide (N < 0) = bn at *
  go_upto_region 4 with fail
  have IN : Hid (IsI (w2.alloc (.cells #[.bool bn, .slice au lu cu] 58)) (.agg #[.bool bn, .slice au lu cu]) N) := IN.out.ext ((Ext.refl _).alloc _)
  have FN : Hid (HV (w2.alloc (.cells #[.bool bn, .slice au lu cu] 58)) w2.heap.size [.bool bn, .slice au lu cu]) := hv_at rfl
  have FX : Hid (Ext w (w2.alloc (.cells #[.bool bn, .slice au lu cu] 58))) := FX.out.alloc _
  generalize (w2.alloc (.cells #[.bool bn, .slice au lu cu] 58)) = w3 at *
  generalize w2.heap.size = nn at *
  have m0 := FN.out.c 0 rfl
  have m1 := FN.out.c 1 rfl
  have ml := FN.out.1
  rcases hs1 with rfl | rfl
  all_goals rcases hs2 with rfl | rfl | rfl
  all_goals
    go_region_held3 (fun w' => w'.cell? ⟨nn, 0, none⟩ = some (.bool bn) ∧ w'.cell? ⟨nn, 1, none⟩ = some (.slice au lu cu)) (first | (go_keep; done) | skip) (first | (go_at_call_of 30 (Value.int IntKind.i64 1073741820); refine (HL.out _).mono ?_; rintro e wl ⟨⟨rl, rfl, hl⟩, xl⟩; have Yl : Ext w3 wl := Ext.trans (by repeat (first | with_reducible assumption | with_reducible exact Ext.refl _ | with_reducible refine Ext.drew ?_ | with_reducible refine Ext.drewN ?_ _ | with_reducible refine Ext.alloc ?_ _ | with_reducible refine Ext.set ?_ (by first | exact Nat.le_refl _ | (dsimp only; omega) | (simp; done)) _)) xl; have nl0 := (FN.out.ext Yl).c 0 rfl; have nl1 := (FN.out.ext Yl).c 1 rfl; have ll := (FN.out.ext Yl).1) | (go_at_call_of 30 (Value.int IntKind.i64 1073741828); refine (HH.out _).mono ?_; rintro e wh ⟨⟨rh, rfl, hh⟩, xh⟩; have Yh : Ext w3 wh := Ext.trans (by repeat (first | with_reducible assumption | with_reducible exact Ext.refl _ | with_reducible refine Ext.drew ?_ | with_reducible refine Ext.drewN ?_ _ | with_reducible refine Ext.alloc ?_ _ | with_reducible refine Ext.set ?_ (by first | exact Nat.le_refl _ | (dsimp only; omega) | (simp; done)) _)) xh; have nh0 := (FN.out.ext Yh).c 0 rfl; have nh1 := (FN.out.ext Yh).c 1 rfl; have lh := (FN.out.ext Yh).1) | (go_at_call 29; refine (C1.out _ _ _ (IN.out.ext Yl) hl).mono ?_; rintro e wc ⟨rfl, xc⟩; have Yc : Ext w3 wc := Ext.trans (by repeat (first | with_reducible assumption | with_reducible exact Ext.refl _ | with_reducible refine Ext.drew ?_ | with_reducible refine Ext.drewN ?_ _ | with_reducible refine Ext.alloc ?_ _ | with_reducible refine Ext.set ?_ (by first | exact Nat.le_refl _ | (dsimp only; omega) | (simp; done)) _)) xc; have nc0 := (FN.out.ext Yc).c 0 rfl; have nc1 := (FN.out.ext Yc).c 1 rfl; have lc := (FN.out.ext Yc).1) | (go_at_call 29; refine (C2.out _ _ _ (IN.out.ext Yh) hh).mono ?_; rintro e wg ⟨rfl, xg⟩; have Yg : Ext w3 wg := Ext.trans (by repeat (first | with_reducible assumption | with_reducible exact Ext.refl _ | with_reducible refine Ext.drew ?_ | with_reducible refine Ext.drewN ?_ _ | with_reducible refine Ext.alloc ?_ _ | with_reducible refine Ext.set ?_ (by first | exact Nat.le_refl _ | (dsimp only; omega) | (simp; done)) _)) xg; have ng0 := (FN.out.ext Yg).c 0 rfl; have ng1 := (FN.out.ext Yg).c 1 rfl; have lg := (FN.out.ext Yg).1))
    all_goals
      go_wp2_with fail
      go_ret
      exact ⟨rfl, FX.out.trans Yg⟩
theorem sgn_ge {x y : Int} (h : y ≤ x) : sgn (x - y) = 0 ∨ sgn (x - y) = 1 := by unfold sgn; rw [if_neg (by omega)]; split <;> simp
theorem sgn_3 (z : Int) : sgn z = -1 ∨ sgn z = 0 ∨ sgn z = 1 := by unfold sgn; split; simp; split <;> simp
theorem may15_ge (a b c d : Int) (w : World) (hlo : ok4 a b c d = true → 1073741820 * 1073741820 ≤ a * a + b * b + c * c + d * d) :
    Calls Tryz.prog 7 #[.agg #[.int .i64 a, .int .i64 b, .int .i64 c, .int .i64 d]] w fun e w' => e = .returned (.bool (okO a b c d)) ∧ Ext w w' := by
  have Q := fun w' => mayq_any a b c d w'
  cases h : ok4 a b c d
  · rw [h] at Q
    have e : okO a b c d = false := Bool.eq_false_iff.2 (fun hc => by have := okO_ok4 hc; rw [h] at this; cases this)
    rw [e]
    exact may15_no a b c d w Q
  · rw [h] at Q
    have h' := h
    unfold ok4 at h'
    simp only [Bool.and_eq_true] at h'
    obtain ⟨ha, hb, hc, hd⟩ := h'
    have fa := (fit70 ha).mul (fit70 ha)
    have fb := (fit70 hb).mul (fit70 hb)
    have fc := (fit70 hc).mul (fit70 hc)
    have fd := (fit70 hd).mul (fit70 hd)
    have fN : Fit 95 (a * a + b * b + c * c + d * d) := ((fa.add fb).add (fc.le (by omega))).add (fd.le (by omega))
    have hlo := hlo h
    have fL : Fit 95 (1073741820 * 1073741820) := by unfold Fit; decide
    have fH : Fit 95 (1073741828 * 1073741828) := by unfold Fit; decide
    have R := may15_yes a b c d (a * a + b * b + c * c + d * d) (1073741820 * 1073741820) (1073741828 * 1073741828) (sgn (a * a + b * b + c * c + d * d - 1073741820 * 1073741820)) (sgn (a * a + b * b + c * c + d * d - 1073741828 * 1073741828)) w Q (fun w' => rsquares_any a b c d w' h) (fun w' => prod_any _ _ w' (by decide) (by decide) (by decide) (by decide)) (fun w' => prod_any _ _ w' (by decide) (by decide) (by decide) (by decide)) (fun r1 r2 w' i1 i2 => cmp_isI _ _ r1 r2 w' i1 i2 (fN.small (by omega)) (fL.small (by omega)) ((fN.sub fL).small (by omega))) (fun r1 r2 w' i1 i2 => cmp_isI _ _ r1 r2 w' i1 i2 (fN.small (by omega)) (fH.small (by omega)) ((fN.sub fH).small (by omega))) (sgn_ge hlo) (sgn_3 _)
    have e : okO a b c d = (decide (0 ≤ sgn (a * a + b * b + c * c + d * d - 1073741820 * 1073741820)) && decide (sgn (a * a + b * b + c * c + d * d - 1073741828 * 1073741828) ≤ 0)) := by
      have sa := sq_nonneg a; have sb := sq_nonneg b; have sc := sq_nonneg c; have sd := sq_nonneg d
      have la : a * a + b * b + c * c + d * d ≤ 1152921513196781584 → (-1073741828 ≤ a ∧ a ≤ 1073741828) ∧ (-1073741828 ≤ b ∧ b ≤ 1073741828) ∧ (-1073741828 ≤ c ∧ c ≤ 1073741828) ∧ (-1073741828 ≤ d ∧ d ≤ 1073741828) := fun hl => by
        have m : (1152921513196781584 : Int) = 1073741828 * 1073741828 := by decide
        exact ⟨abs_of_sq (by decide) (by omega), abs_of_sq (by decide) (by omega), abs_of_sq (by decide) (by omega), abs_of_sq (by decide) (by omega)⟩
      rw [Bool.eq_iff_iff, okO_iff]
      simp only [Bool.and_eq_true, decide_eq_true_eq]
      have s1 : ∀ z : Int, 0 ≤ sgn z ↔ 0 ≤ z := fun z => by unfold sgn; split; omega; split <;> omega
      have s2 : ∀ z : Int, sgn z ≤ 0 ↔ z ≤ 0 := fun z => by unfold sgn; split; omega; split <;> omega
      rw [s1, s2]
      constructor
      · rintro ⟨_, _, _, _, h1, h2⟩
        omega
      · rintro ⟨h1, h2⟩
        obtain ⟨l0, l1, l2, l3⟩ := la (by omega)
        exact ⟨l0, l1, l2, l3, by omega, by omega⟩
    rw [e]
    exact R
theorem may15_ok (a b c d : Int) (w : World) (h : okO a b c d = true) :
    Calls Tryz.prog 7 #[.agg #[.int .i64 a, .int .i64 b, .int .i64 c, .int .i64 d]] w fun e w' => e = .returned (.bool true) ∧ Ext w w' := by
  have H := may15_ge a b c d w (fun _ => by have := okO_iff.1 h; omega)
  rw [h] at H
  exact H
end Go.Proofs.YtmbdcgijjpcppaaGreat
