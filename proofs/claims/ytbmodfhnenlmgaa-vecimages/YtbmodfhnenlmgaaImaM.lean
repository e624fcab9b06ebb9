/- Images of any vectors by any nine words, and multiples, are the nearest words to the exact ones, or refused: for every list of entries VecImages tells true, and changes nothing that was there.
   Its conditions: none beyond the given statement's own. -/
import Derived.Test.YtbmodfhnenlmgaaRA
import Derived.Test.YtbmodfhnenlmgaaVB
import Derived.Deep.RegionHeld
import Derived.Test.YtbmodfhnenlmgaaLA
namespace Go.Proofs.Ytbmodfhnenlmgaa
open Go.RowKit Go.Shelf

set_option maxHeartbeats 8000000 in
theorem rdot_raw (a0 a1 a2 b0 b1 b2 p q s t D : Int) (w : World)
    (P0 : Hid (∀ w', Calls Try.prog 54 #[.int .i64 a0, .int .i64 b0] w' fun e w'' => (∃ r, e = .returned r ∧ IsI w'' r p) ∧ Ext w' w''))
    (P1 : Hid (∀ w', Calls Try.prog 54 #[.int .i64 a1, .int .i64 b1] w' fun e w'' => (∃ r, e = .returned r ∧ IsI w'' r q) ∧ Ext w' w''))
    (P2 : Hid (∀ w', Calls Try.prog 54 #[.int .i64 a2, .int .i64 b2] w' fun e w'' => (∃ r, e = .returned r ∧ IsI w'' r s) ∧ Ext w' w''))
    (L1 : Hid (∀ r1 r2 w', IsI w' r1 p → IsI w' r2 q → Calls Try.prog 43 #[r1, r2] w' fun e w'' => (∃ r, e = .returned r ∧ IsI w'' r t) ∧ Ext w' w''))
    (L2 : Hid (∀ r1 r2 w', IsI w' r1 t → IsI w' r2 s → Calls Try.prog 43 #[r1, r2] w' fun e w'' => (∃ r, e = .returned r ∧ IsI w'' r D) ∧ Ext w' w'')) :
    Calls Try.prog 33 #[.agg #[.int .i64 a0, .int .i64 a1, .int .i64 a2], .agg #[.int .i64 b0, .int .i64 b1, .int .i64 b2]] w fun e w' => (∃ r, e = .returned r ∧ IsI w' r D) ∧ Ext w w' := by
  have PB : Hid (H3 (((w.alloc (.cells #[.int .i64 a0, .int .i64 a1, .int .i64 a2] 24)).alloc (.cells #[.int .i64 b0, .int .i64 b1, .int .i64 b2] 24)).alloc (.cells #[.bool false, .slice none 0 0] 62)).drew w.heap.size (.int .i64 a0) (.int .i64 a1) (.int .i64 a2)) := H3.drew (H3.alloc (H3.alloc (h3_at rfl) _) _)
  have NB : Hid (H3 (((w.alloc (.cells #[.int .i64 a0, .int .i64 a1, .int .i64 a2] 24)).alloc (.cells #[.int .i64 b0, .int .i64 b1, .int .i64 b2] 24)).alloc (.cells #[.bool false, .slice none 0 0] 62)).drew (w.heap.size + 1) (.int .i64 b0) (.int .i64 b1) (.int .i64 b2)) := H3.drew (H3.alloc (h3_at (by simp)) _)
  have RB : Hid (Has (((w.alloc (.cells #[.int .i64 a0, .int .i64 a1, .int .i64 a2] 24)).alloc (.cells #[.int .i64 b0, .int .i64 b1, .int .i64 b2] 24)).alloc (.cells #[.bool false, .slice none 0 0] 62)).drew (w.heap.size + 1 + 1) (.bool false) (.slice none 0 0)) := by
    have h : Has (((w.alloc (.cells #[.int .i64 a0, .int .i64 a1, .int .i64 a2] 24)).alloc (.cells #[.int .i64 b0, .int .i64 b1, .int .i64 b2] 24)).alloc (.cells #[.bool false, .slice none 0 0] 62)) _ _ _ := ext_new1 (Ext.refl _)
    have h2 := h.ext (Ext.refl _).drew
    rw [World.size_alloc, World.size_alloc] at h2
    exact h2
  have E0 : Ext w (((w.alloc (.cells #[.int .i64 a0, .int .i64 a1, .int .i64 a2] 24)).alloc (.cells #[.int .i64 b0, .int .i64 b1, .int .i64 b2] 24)).alloc (.cells #[.bool false, .slice none 0 0] 62)).drew := ((((Ext.refl _).alloc _).alloc _).alloc _).drew
  have ne1 : w.heap.size ≠ w.heap.size + 1 + 1 := by omega
  have ne2 : w.heap.size + 1 ≠ w.heap.size + 1 + 1 := by omega
  go_enter Try.func33, Try.ntmps33
  go_wp2_with fail
  go_region_held (fun w' => w'.cell? ⟨w.heap.size, 0, none⟩ = some (.int .i64 a0) ∧ w'.cell? ⟨w.heap.size, 1, none⟩ = some (.int .i64 a1) ∧ w'.cell? ⟨w.heap.size, 2, none⟩ = some (.int .i64 a2) ∧ w'.cell? ⟨w.heap.size + 1, 0, none⟩ = some (.int .i64 b0) ∧ w'.cell? ⟨w.heap.size + 1, 1, none⟩ = some (.int .i64 b1) ∧ w'.cell? ⟨w.heap.size + 1, 2, none⟩ = some (.int .i64 b2)) (first | (go_keep; done) | (simp only [far2 _ _ _ _ _ ne1, far2 _ _ _ _ _ ne2]; exact ⟨by assumption, by assumption, by assumption, by assumption, by assumption, by assumption⟩)) (first | (go_at_call_of 54 (Value.int IntKind.i64 a0); refine (P0.out _).mono ?_; rintro e wA ⟨⟨rA, rfl, hA⟩, xA⟩; have yA : Ext (((w.alloc (.cells #[.int .i64 a0, .int .i64 a1, .int .i64 a2] 24)).alloc (.cells #[.int .i64 b0, .int .i64 b1, .int .i64 b2] 24)).alloc (.cells #[.bool false, .slice none 0 0] 62)).drew wA := Ext.trans (Ext.refl _) xA; obtain ⟨p0, p1, p2, p3, p4, p5, p6⟩ := PB.out.ext yA; obtain ⟨n0, n1, n2, n3, n4, n5, n6⟩ := NB.out.ext yA; obtain ⟨m0, m1, m2, m3⟩ := RB.out.ext yA) | (go_at_call_of 54 (Value.int IntKind.i64 a1); refine (P1.out _).mono ?_; rintro e wB ⟨⟨rB, rfl, hB⟩, xB⟩; have yB : Ext (((w.alloc (.cells #[.int .i64 a0, .int .i64 a1, .int .i64 a2] 24)).alloc (.cells #[.int .i64 b0, .int .i64 b1, .int .i64 b2] 24)).alloc (.cells #[.bool false, .slice none 0 0] 62)).drew wB := Ext.trans yA xB; obtain ⟨p0, p1, p2, p3, p4, p5, p6⟩ := PB.out.ext yB; obtain ⟨n0, n1, n2, n3, n4, n5, n6⟩ := NB.out.ext yB; obtain ⟨m0, m1, m2, m3⟩ := RB.out.ext yB) | (go_at_call_of 43 rA; refine (L1.out _ _ _ (hA.ext xB) hB).mono ?_; rintro e wC ⟨⟨rC, rfl, hC⟩, xC⟩; have yC : Ext (((w.alloc (.cells #[.int .i64 a0, .int .i64 a1, .int .i64 a2] 24)).alloc (.cells #[.int .i64 b0, .int .i64 b1, .int .i64 b2] 24)).alloc (.cells #[.bool false, .slice none 0 0] 62)).drew wC := Ext.trans yB xC; obtain ⟨p0, p1, p2, p3, p4, p5, p6⟩ := PB.out.ext yC; obtain ⟨n0, n1, n2, n3, n4, n5, n6⟩ := NB.out.ext yC; obtain ⟨m0, m1, m2, m3⟩ := RB.out.ext yC) | (go_at_call_of 54 (Value.int IntKind.i64 a2); refine (P2.out _).mono ?_; rintro e wD ⟨⟨rD, rfl, hD⟩, xD⟩; have yD : Ext (((w.alloc (.cells #[.int .i64 a0, .int .i64 a1, .int .i64 a2] 24)).alloc (.cells #[.int .i64 b0, .int .i64 b1, .int .i64 b2] 24)).alloc (.cells #[.bool false, .slice none 0 0] 62)).drew wD := Ext.trans yC xD; obtain ⟨p0, p1, p2, p3, p4, p5, p6⟩ := PB.out.ext yD; obtain ⟨n0, n1, n2, n3, n4, n5, n6⟩ := NB.out.ext yD; obtain ⟨m0, m1, m2, m3⟩ := RB.out.ext yD) | (go_at_call_of 43 rC; refine (L2.out _ _ _ (hC.ext xD) hD).mono ?_; rintro e wE ⟨⟨rE, rfl, hE⟩, xE⟩; have yE : Ext (((w.alloc (.cells #[.int .i64 a0, .int .i64 a1, .int .i64 a2] 24)).alloc (.cells #[.int .i64 b0, .int .i64 b1, .int .i64 b2] 24)).alloc (.cells #[.bool false, .slice none 0 0] 62)).drew wE := Ext.trans yD xE; obtain ⟨p0, p1, p2, p3, p4, p5, p6⟩ := PB.out.ext yE; obtain ⟨n0, n1, n2, n3, n4, n5, n6⟩ := NB.out.ext yE; obtain ⟨m0, m1, m2, m3⟩ := RB.out.ext yE; obtain ⟨u, hu, hk⟩ := hE; obtain ⟨au, lu, cu, hau⟩ := hk.isSlice; subst hau; subst hu; have HI : Hid (IsI wE (.agg #[.bool (decide (D < 0)), .slice au lu cu]) D) := ⟨_, rfl, hk⟩; clear hk))
  all_goals
    have X3 : Hid (Ext w wE) := E0.trans yE
    clear E0 yA yB yC yD yE xA xB xC xD xE hA hB hC hD
    go_wp2_with fail
    exact bodyPost_ret (v := .agg #[.bool (decide (D < 0)), .slice au lu cu]) (by simp [results, Try.results33, go_sem, m0, m1]) rfl ⟨⟨_, rfl, HI.out.set2 m0 m1⟩, by have SZ := X3.out.size; exact (X3.out.set (by dsimp only; omega) _).set (by dsimp only; omega) _⟩

theorem rdot_any (a0 a1 a2 b0 b1 b2 : Int) (w : World) (h1 : ok3 a0 a1 a2 = true) (h2 : ok3 b0 b1 b2 = true) :
    Calls Try.prog 33 #[.agg #[.int .i64 a0, .int .i64 a1, .int .i64 a2], .agg #[.int .i64 b0, .int .i64 b1, .int .i64 b2]] w fun e w' => (∃ r, e = .returned r ∧ IsI w' r (dot3 a0 a1 a2 b0 b1 b2)) ∧ Ext w w' := by
  obtain ⟨g0, g1, g2⟩ := ok3_parts h1
  obtain ⟨k0, k1, k2⟩ := ok3_parts h2
  have q0 := prod_abs g0 k0
  have q1 := prod_abs g1 k1
  have q2 := prod_abs g2 k2
  have e : (2 : Nat) ^ 200 = 1606938044258990275541962092341162602522202993782792835301376 := by decide
  have f0 : Fit 200 (a0 * b0) := by unfold Fit; omega
  have f1 : Fit 200 (a1 * b1) := by unfold Fit; omega
  have f2 : Fit 200 (a2 * b2) := by unfold Fit; omega
  have f3 : Fit 200 (a0 * b0 + a1 * b1) := by unfold Fit; omega
  have f4 : Fit 200 (a0 * b0 + a1 * b1 + a2 * b2) := by unfold Fit; omega
  exact rdot_raw a0 a1 a2 b0 b1 b2 _ _ _ _ _ w (fun w' => prod_any a0 b0 w' (word64 g0).1 (word64 g0).2 (word64 k0).1 (word64 k0).2) (fun w' => prod_any a1 b1 w' (word64 g1).1 (word64 g1).2 (word64 k1).1 (word64 k1).2) (fun w' => prod_any a2 b2 w' (word64 g2).1 (word64 g2).2 (word64 k2).1 (word64 k2).2) (fun r1 r2 w' i1 i2 => plus_isI _ _ r1 r2 w' i1 i2 (f0.small (by omega)) (f1.small (by omega)) (f3.small (by omega))) (fun r1 r2 w' i1 i2 => plus_isI _ _ r1 r2 w' i1 i2 (f3.small (by omega)) (f2.small (by omega)) (f4.small (by omega)))
theorem dot_fit {a0 a1 a2 b0 b1 b2 : Int} (h1 : ok3 a0 a1 a2 = true) (h2 : ok3 b0 b1 b2 = true) : Fit 200 (dot3 a0 a1 a2 b0 b1 b2) := by
  obtain ⟨g0, g1, g2⟩ := ok3_parts h1
  obtain ⟨k0, k1, k2⟩ := ok3_parts h2
  have q0 := prod_abs g0 k0
  have q1 := prod_abs g1 k1
  have q2 := prod_abs g2 k2
  have e : (2 : Nat) ^ 200 = 1606938044258990275541962092341162602522202993782792835301376 := by decide
  unfold Fit dot3; omega
set_option maxHeartbeats 8000000 in
theorem rapply_raw (m0 m1 m2 m3 m4 m5 m6 m7 m8 a0 a1 a2 d0 d1 d2 z0 z1 z2 : Int) (w : World)
    (L0 : Hid (∀ w', Calls Try.prog 33 #[.agg #[.int .i64 m0, .int .i64 m1, .int .i64 m2], .agg #[.int .i64 a0, .int .i64 a1, .int .i64 a2]] w' fun e w'' => (∃ r, e = .returned r ∧ IsI w'' r d0) ∧ Ext w' w''))
    (N0 : Hid (∀ r w', IsI w' r d0 → Calls Try.prog 31 #[r] w' fun e w'' => e = .returned (.tuple #[.int .i64 (fitR z0).1, .int .i64 (fitR z0).2]) ∧ Ext w' w''))
    (L1 : Hid (∀ w', Calls Try.prog 33 #[.agg #[.int .i64 m3, .int .i64 m4, .int .i64 m5], .agg #[.int .i64 a0, .int .i64 a1, .int .i64 a2]] w' fun e w'' => (∃ r, e = .returned r ∧ IsI w'' r d1) ∧ Ext w' w''))
    (N1 : Hid (∀ r w', IsI w' r d1 → Calls Try.prog 31 #[r] w' fun e w'' => e = .returned (.tuple #[.int .i64 (fitR z1).1, .int .i64 (fitR z1).2]) ∧ Ext w' w''))
    (L2 : Hid (∀ w', Calls Try.prog 33 #[.agg #[.int .i64 m6, .int .i64 m7, .int .i64 m8], .agg #[.int .i64 a0, .int .i64 a1, .int .i64 a2]] w' fun e w'' => (∃ r, e = .returned r ∧ IsI w'' r d2) ∧ Ext w' w''))
    (N2 : Hid (∀ r w', IsI w' r d2 → Calls Try.prog 31 #[r] w' fun e w'' => e = .returned (.tuple #[.int .i64 (fitR z2).1, .int .i64 (fitR z2).2]) ∧ Ext w' w'')) :
    Calls Try.prog 17 #[.agg #[.int .i64 m0, .int .i64 m1, .int .i64 m2, .int .i64 m3, .int .i64 m4, .int .i64 m5, .int .i64 m6, .int .i64 m7, .int .i64 m8], .agg #[.int .i64 a0, .int .i64 a1, .int .i64 a2]] w fun e w' => e = .returned (vres z0 z1 z2) ∧ Ext w w' := by
  have HT : Hid (∀ w', Calls Try.prog 25 #[.int .i64 (fitR z0).1, .int .i64 (fitR z0).2, .int .i64 (fitR z1).1, .int .i64 (fitR z1).2, .int .i64 (fitR z2).1, .int .i64 (fitR z2).2] w' fun e w'' => e = .returned (vres z0 z1 z2) ∧ Ext w' w'') := three_any z0 z1 z2
  obtain ⟨x, y, z, e, hr⟩ := vres_shape z0 z1 z2
  rw [hr] at HT ⊢
  clear hr
  generalize (fitR z0).1 = o0 at *
  generalize (fitR z0).2 = c0 at *
  generalize (fitR z1).1 = o1 at *
  generalize (fitR z1).2 = c1 at *
  generalize (fitR z2).1 = o2 at *
  generalize (fitR z2).2 = c2 at *
  go_enter Try.func17, Try.ntmps17
  go_wp2_with fail
  refine (L0.out _).mono ?_
  rintro e1 w1 ⟨⟨u1, rfl, hu1⟩, x1⟩
  have E1 : Ext w w1 := Ext.trans (Ext.alloc (Ext.alloc (Ext.alloc (Ext.refl _) _) _) _) x1
  have F0_1 : Hid (H3 w1 (w.heap.size + 1) (.int .i64 a0) (.int .i64 a1) (.int .i64 a2)) := (H3.alloc (h3_at (by simp)) _).ext x1
  obtain ⟨q00, q01, q02, q03, q04, q05, q06⟩ := F0_1.out
  have F1_1 : Hid (H3 w1 (w.heap.size + 1 + 1) (.int .i64 0) (.int .i64 0) (.int .i64 0)) := (h3_at (by simp)).ext x1
  obtain ⟨q10, q11, q12, q13, q14, q15, q16⟩ := F1_1.out
  have G_1 : Hid (H9 w1 w.heap.size (.int .i64 m0) (.int .i64 m1) (.int .i64 m2) (.int .i64 m3) (.int .i64 m4) (.int .i64 m5) (.int .i64 m6) (.int .i64 m7) (.int .i64 m8)) := (H9.alloc (H9.alloc (h9_at rfl) _) _).ext x1
  obtain ⟨t0, t1, t2, t3, t4, t5, t6, t7, t8⟩ := G_1.out
  go_wp2_with fail
  refine (N0.out _ _ hu1).mono ?_
  rintro e2 w2 ⟨rfl, x2⟩
  have E2 : Ext w w2 := Ext.trans (E1) x2
  have F0_2 : Hid (H3 w2 (w.heap.size + 1) (.int .i64 a0) (.int .i64 a1) (.int .i64 a2)) := (F0_1.out).ext x2
  obtain ⟨q00, q01, q02, q03, q04, q05, q06⟩ := F0_2.out
  have F1_2 : Hid (H3 w2 (w.heap.size + 1 + 1) (.int .i64 0) (.int .i64 0) (.int .i64 0)) := (F1_1.out).ext x2
  obtain ⟨q10, q11, q12, q13, q14, q15, q16⟩ := F1_2.out
  have G_2 : Hid (H9 w2 w.heap.size (.int .i64 m0) (.int .i64 m1) (.int .i64 m2) (.int .i64 m3) (.int .i64 m4) (.int .i64 m5) (.int .i64 m6) (.int .i64 m7) (.int .i64 m8)) := (G_1.out).ext x2
  obtain ⟨t0, t1, t2, t3, t4, t5, t6, t7, t8⟩ := G_2.out
  go_wp2_with fail
  refine (L1.out _).mono ?_
  rintro e3 w3 ⟨⟨u3, rfl, hu3⟩, x3⟩
  have E3 : Ext w w3 := Ext.trans (E2) x3
  have F0_3 : Hid (H3 w3 (w.heap.size + 1) (.int .i64 a0) (.int .i64 a1) (.int .i64 a2)) := (F0_2.out).ext x3
  obtain ⟨q00, q01, q02, q03, q04, q05, q06⟩ := F0_3.out
  have F1_3 : Hid (H3 w3 (w.heap.size + 1 + 1) (.int .i64 0) (.int .i64 0) (.int .i64 0)) := (F1_2.out).ext x3
  obtain ⟨q10, q11, q12, q13, q14, q15, q16⟩ := F1_3.out
  have G_3 : Hid (H9 w3 w.heap.size (.int .i64 m0) (.int .i64 m1) (.int .i64 m2) (.int .i64 m3) (.int .i64 m4) (.int .i64 m5) (.int .i64 m6) (.int .i64 m7) (.int .i64 m8)) := (G_2.out).ext x3
  obtain ⟨t0, t1, t2, t3, t4, t5, t6, t7, t8⟩ := G_3.out
  go_wp2_with fail
  refine (N1.out _ _ hu3).mono ?_
  rintro e4 w4 ⟨rfl, x4⟩
  have E4 : Ext w w4 := Ext.trans (E3) x4
  have F0_4 : Hid (H3 w4 (w.heap.size + 1) (.int .i64 a0) (.int .i64 a1) (.int .i64 a2)) := (F0_3.out).ext x4
  obtain ⟨q00, q01, q02, q03, q04, q05, q06⟩ := F0_4.out
  have F1_4 : Hid (H3 w4 (w.heap.size + 1 + 1) (.int .i64 0) (.int .i64 0) (.int .i64 0)) := (F1_3.out).ext x4
  obtain ⟨q10, q11, q12, q13, q14, q15, q16⟩ := F1_4.out
  have G_4 : Hid (H9 w4 w.heap.size (.int .i64 m0) (.int .i64 m1) (.int .i64 m2) (.int .i64 m3) (.int .i64 m4) (.int .i64 m5) (.int .i64 m6) (.int .i64 m7) (.int .i64 m8)) := (G_3.out).ext x4
  obtain ⟨t0, t1, t2, t3, t4, t5, t6, t7, t8⟩ := G_4.out
  go_wp2_with fail
  refine (L2.out _).mono ?_
  rintro e5 w5 ⟨⟨u5, rfl, hu5⟩, x5⟩
  have E5 : Ext w w5 := Ext.trans (E4) x5
  have F0_5 : Hid (H3 w5 (w.heap.size + 1) (.int .i64 a0) (.int .i64 a1) (.int .i64 a2)) := (F0_4.out).ext x5
  obtain ⟨q00, q01, q02, q03, q04, q05, q06⟩ := F0_5.out
  have F1_5 : Hid (H3 w5 (w.heap.size + 1 + 1) (.int .i64 0) (.int .i64 0) (.int .i64 0)) := (F1_4.out).ext x5
  obtain ⟨q10, q11, q12, q13, q14, q15, q16⟩ := F1_5.out
  have G_5 : Hid (H9 w5 w.heap.size (.int .i64 m0) (.int .i64 m1) (.int .i64 m2) (.int .i64 m3) (.int .i64 m4) (.int .i64 m5) (.int .i64 m6) (.int .i64 m7) (.int .i64 m8)) := (G_4.out).ext x5
  obtain ⟨t0, t1, t2, t3, t4, t5, t6, t7, t8⟩ := G_5.out
  go_wp2_with fail
  refine (N2.out _ _ hu5).mono ?_
  rintro e6 w6 ⟨rfl, x6⟩
  have E6 : Ext w w6 := Ext.trans (E5) x6
  have F0_6 : Hid (H3 w6 (w.heap.size + 1) (.int .i64 a0) (.int .i64 a1) (.int .i64 a2)) := (F0_5.out).ext x6
  obtain ⟨q00, q01, q02, q03, q04, q05, q06⟩ := F0_6.out
  have F1_6 : Hid (H3 w6 (w.heap.size + 1 + 1) (.int .i64 0) (.int .i64 0) (.int .i64 0)) := (F1_5.out).ext x6
  obtain ⟨q10, q11, q12, q13, q14, q15, q16⟩ := F1_6.out
  have G_6 : Hid (H9 w6 w.heap.size (.int .i64 m0) (.int .i64 m1) (.int .i64 m2) (.int .i64 m3) (.int .i64 m4) (.int .i64 m5) (.int .i64 m6) (.int .i64 m7) (.int .i64 m8)) := (G_5.out).ext x6
  obtain ⟨t0, t1, t2, t3, t4, t5, t6, t7, t8⟩ := G_6.out
  go_wp2_with fail
  refine (HT.out _).mono ?_
  rintro e7 w7 ⟨rfl, x7⟩
  have E7 : Ext w w7 := Ext.trans (E6) x7
  have F0_7 : Hid (H3 w7 (w.heap.size + 1) (.int .i64 a0) (.int .i64 a1) (.int .i64 a2)) := (F0_6.out).ext x7
  obtain ⟨q00, q01, q02, q03, q04, q05, q06⟩ := F0_7.out
  have F1_7 : Hid (H3 w7 (w.heap.size + 1 + 1) (.int .i64 0) (.int .i64 0) (.int .i64 0)) := (F1_6.out).ext x7
  obtain ⟨q10, q11, q12, q13, q14, q15, q16⟩ := F1_7.out
  have G_7 : Hid (H9 w7 w.heap.size (.int .i64 m0) (.int .i64 m1) (.int .i64 m2) (.int .i64 m3) (.int .i64 m4) (.int .i64 m5) (.int .i64 m6) (.int .i64 m7) (.int .i64 m8)) := (G_6.out).ext x7
  obtain ⟨t0, t1, t2, t3, t4, t5, t6, t7, t8⟩ := G_7.out
  go_wp2_with fail
  exact bodyPost_ret (v := .tuple #[.agg #[.int .i64 x, .int .i64 y, .int .i64 z], .int .i64 e]) (by simp [results, Try.results17, go_sem, q10, q11, q12]) rfl ⟨rfl, by repeat (first | with_reducible assumption | with_reducible exact Ext.refl _ | with_reducible refine Ext.drew ?_ | with_reducible refine Ext.drewN ?_ _ | with_reducible refine Ext.alloc ?_ _ | with_reducible refine Ext.set ?_ (by first | exact Nat.le_refl _ | (dsimp only; omega) | (simp; done)) _)⟩

theorem rapply_any (m0 m1 m2 m3 m4 m5 m6 m7 m8 a0 a1 a2 : Int) (w : World) (h1 : ok3 m0 m1 m2 = true) (h2 : ok3 m3 m4 m5 = true) (h3 : ok3 m6 m7 m8 = true) (h4 : ok3 a0 a1 a2 = true) :
    Calls Try.prog 17 #[.agg #[.int .i64 m0, .int .i64 m1, .int .i64 m2, .int .i64 m3, .int .i64 m4, .int .i64 m5, .int .i64 m6, .int .i64 m7, .int .i64 m8], .agg #[.int .i64 a0, .int .i64 a1, .int .i64 a2]] w fun e w' => e = .returned (vres (rowQ m0 m1 m2 a0 a1 a2) (rowQ m3 m4 m5 a0 a1 a2) (rowQ m6 m7 m8 a0 a1 a2)) ∧ Ext w w' :=
  rapply_raw m0 m1 m2 m3 m4 m5 m6 m7 m8 a0 a1 a2 _ _ _ _ _ _ w (fun w' => rdot_any m0 m1 m2 a0 a1 a2 w' h1 h4) (fun r w' hr => nearQ_word _ r w' hr (dot_fit h1 h4)) (fun w' => rdot_any m3 m4 m5 a0 a1 a2 w' h2 h4) (fun r w' hr => nearQ_word _ r w' hr (dot_fit h2 h4)) (fun w' => rdot_any m6 m7 m8 a0 a1 a2 w' h3 h4) (fun r w' hr => nearQ_word _ r w' hr (dot_fit h3 h4))
end Go.Proofs.Ytbmodfhnenlmgaa

namespace Go.Proofs.Ytbmodfhnenlmgaa
open Go.RowKit Go.Shelf

/-- sixteen cells, from o on -/
def H16 (w : World) (b o : Nat) (v0 v1 v2 v3 v4 v5 v6 v7 v8 v9 v10 v11 v12 v13 v14 v15 : Int) : Prop :=
  w.cell? ⟨b, o, none⟩ = some (.int .i64 v0) ∧ w.cell? ⟨b, o + 1, none⟩ = some (.int .i64 v1) ∧ w.cell? ⟨b, o + 2, none⟩ = some (.int .i64 v2) ∧ w.cell? ⟨b, o + 3, none⟩ = some (.int .i64 v3) ∧ w.cell? ⟨b, o + 4, none⟩ = some (.int .i64 v4) ∧ w.cell? ⟨b, o + 5, none⟩ = some (.int .i64 v5) ∧ w.cell? ⟨b, o + 6, none⟩ = some (.int .i64 v6) ∧ w.cell? ⟨b, o + 7, none⟩ = some (.int .i64 v7) ∧ w.cell? ⟨b, o + 8, none⟩ = some (.int .i64 v8) ∧ w.cell? ⟨b, o + 9, none⟩ = some (.int .i64 v9) ∧ w.cell? ⟨b, o + 10, none⟩ = some (.int .i64 v10) ∧ w.cell? ⟨b, o + 11, none⟩ = some (.int .i64 v11) ∧ w.cell? ⟨b, o + 12, none⟩ = some (.int .i64 v12) ∧ w.cell? ⟨b, o + 13, none⟩ = some (.int .i64 v13) ∧ w.cell? ⟨b, o + 14, none⟩ = some (.int .i64 v14) ∧ w.cell? ⟨b, o + 15, none⟩ = some (.int .i64 v15)
theorem H16.ext {w w' : World} {b o : Nat} {v0 v1 v2 v3 v4 v5 v6 v7 v8 v9 v10 v11 v12 v13 v14 v15 : Int} (h : H16 w b o v0 v1 v2 v3 v4 v5 v6 v7 v8 v9 v10 v11 v12 v13 v14 v15) (hx : Ext w w') : H16 w' b o v0 v1 v2 v3 v4 v5 v6 v7 v8 v9 v10 v11 v12 v13 v14 v15 := by
  obtain ⟨h0, h1, h2, h3, h4, h5, h6, h7, h8, h9, h10, h11, h12, h13, h14, h15⟩ := h
  exact ⟨hx.keepc h0, hx.keepc h1, hx.keepc h2, hx.keepc h3, hx.keepc h4, hx.keepc h5, hx.keepc h6, hx.keepc h7, hx.keepc h8, hx.keepc h9, hx.keepc h10, hx.keepc h11, hx.keepc h12, hx.keepc h13, hx.keepc h14, hx.keepc h15⟩
theorem H16.alloc {w : World} {b o : Nat} {v0 v1 v2 v3 v4 v5 v6 v7 v8 v9 v10 v11 v12 v13 v14 v15 : Int} (h : H16 w b o v0 v1 v2 v3 v4 v5 v6 v7 v8 v9 v10 v11 v12 v13 v14 v15) (x : Obj) : H16 (w.alloc x) b o v0 v1 v2 v3 v4 v5 v6 v7 v8 v9 v10 v11 v12 v13 v14 v15 := h.ext ((Ext.refl _).alloc x)
/-- a variable of sixteen cells -/
def P16 (w : World) (b : Nat) (v0 v1 v2 v3 v4 v5 v6 v7 v8 v9 v10 v11 v12 v13 v14 v15 : Int) : Prop :=
  w.cell? ⟨b, 0, none⟩ = some (.int .i64 v0) ∧ w.cell? ⟨b, 1, none⟩ = some (.int .i64 v1) ∧ w.cell? ⟨b, 2, none⟩ = some (.int .i64 v2) ∧ w.cell? ⟨b, 3, none⟩ = some (.int .i64 v3) ∧ w.cell? ⟨b, 4, none⟩ = some (.int .i64 v4) ∧ w.cell? ⟨b, 5, none⟩ = some (.int .i64 v5) ∧ w.cell? ⟨b, 6, none⟩ = some (.int .i64 v6) ∧ w.cell? ⟨b, 7, none⟩ = some (.int .i64 v7) ∧ w.cell? ⟨b, 8, none⟩ = some (.int .i64 v8) ∧ w.cell? ⟨b, 9, none⟩ = some (.int .i64 v9) ∧ w.cell? ⟨b, 10, none⟩ = some (.int .i64 v10) ∧ w.cell? ⟨b, 11, none⟩ = some (.int .i64 v11) ∧ w.cell? ⟨b, 12, none⟩ = some (.int .i64 v12) ∧ w.cell? ⟨b, 13, none⟩ = some (.int .i64 v13) ∧ w.cell? ⟨b, 14, none⟩ = some (.int .i64 v14) ∧ w.cell? ⟨b, 15, none⟩ = some (.int .i64 v15) ∧ b < w.heap.size
theorem P16.ext {w w' : World} {b : Nat} {v0 v1 v2 v3 v4 v5 v6 v7 v8 v9 v10 v11 v12 v13 v14 v15 : Int} (h : P16 w b v0 v1 v2 v3 v4 v5 v6 v7 v8 v9 v10 v11 v12 v13 v14 v15) (hx : Ext w w') : P16 w' b v0 v1 v2 v3 v4 v5 v6 v7 v8 v9 v10 v11 v12 v13 v14 v15 := by
  obtain ⟨h0, h1, h2, h3, h4, h5, h6, h7, h8, h9, h10, h11, h12, h13, h14, h15, hb⟩ := h
  exact ⟨hx.keepc h0, hx.keepc h1, hx.keepc h2, hx.keepc h3, hx.keepc h4, hx.keepc h5, hx.keepc h6, hx.keepc h7, hx.keepc h8, hx.keepc h9, hx.keepc h10, hx.keepc h11, hx.keepc h12, hx.keepc h13, hx.keepc h14, hx.keepc h15, Nat.lt_of_lt_of_le hb hx.size⟩
theorem P16.alloc {w : World} {b : Nat} {v0 v1 v2 v3 v4 v5 v6 v7 v8 v9 v10 v11 v12 v13 v14 v15 : Int} (h : P16 w b v0 v1 v2 v3 v4 v5 v6 v7 v8 v9 v10 v11 v12 v13 v14 v15) (x : Obj) : P16 (w.alloc x) b v0 v1 v2 v3 v4 v5 v6 v7 v8 v9 v10 v11 v12 v13 v14 v15 := h.ext ((Ext.refl _).alloc x)
theorem p16_at {w : World} {b : Nat} {v0 v1 v2 v3 v4 v5 v6 v7 v8 v9 v10 v11 v12 v13 v14 v15 : Int} {T : TypeId} (h : w.heap.size = b) : P16 (w.alloc (.cells #[.int .i64 v0, .int .i64 v1, .int .i64 v2, .int .i64 v3, .int .i64 v4, .int .i64 v5, .int .i64 v6, .int .i64 v7, .int .i64 v8, .int .i64 v9, .int .i64 v10, .int .i64 v11, .int .i64 v12, .int .i64 v13, .int .i64 v14, .int .i64 v15] T)) b v0 v1 v2 v3 v4 v5 v6 v7 v8 v9 v10 v11 v12 v13 v14 v15 := by
  subst h
  refine ⟨?_, ?_, ?_, ?_, ?_, ?_, ?_, ?_, ?_, ?_, ?_, ?_, ?_, ?_, ?_, ?_, ?_⟩ <;> simp [go_sem]
theorem P16.far3 {w : World} {b g : Nat} {v0 v1 v2 v3 v4 v5 v6 v7 v8 v9 v10 v11 v12 v13 v14 v15 : Int} {p q r : Value} (h : P16 w b v0 v1 v2 v3 v4 v5 v6 v7 v8 v9 v10 v11 v12 v13 v14 v15) (hb : b ≠ g) : P16 (((w.setCell ⟨g, 0, none⟩ p).setCell ⟨g, 1, none⟩ q).setCell ⟨g, 2, none⟩ r) b v0 v1 v2 v3 v4 v5 v6 v7 v8 v9 v10 v11 v12 v13 v14 v15 := by
  obtain ⟨h0, h1, h2, h3, h4, h5, h6, h7, h8, h9, h10, h11, h12, h13, h14, h15, hz⟩ := h
  have k : ∀ i, (((w.setCell ⟨g, 0, none⟩ p).setCell ⟨g, 1, none⟩ q).setCell ⟨g, 2, none⟩ r).cell? ⟨b, i, none⟩ = w.cell? ⟨b, i, none⟩ := fun i => by
    rw [World.cell?_setCell_other _ _ _ _ (by intro e; have := congrArg Addr.block e; dsimp only at this; omega), World.cell?_setCell_other _ _ _ _ (by intro e; have := congrArg Addr.block e; dsimp only at this; omega), World.cell?_setCell_other _ _ _ _ (by intro e; have := congrArg Addr.block e; dsimp only at this; omega)]
  exact ⟨(k 0).trans h0, (k 1).trans h1, (k 2).trans h2, (k 3).trans h3, (k 4).trans h4, (k 5).trans h5, (k 6).trans h6, (k 7).trans h7, (k 8).trans h8, (k 9).trans h9, (k 10).trans h10, (k 11).trans h11, (k 12).trans h12, (k 13).trans h13, (k 14).trans h14, (k 15).trans h15, by simpa [go_sem] using hz⟩
theorem Twos3.row16 {w : World} {b off len : Nat} {Z : Nat → Nat → Int} (h : Twos3 w b off len Z) {k : Nat} (hk : k < len) : H16 w b (off + k * 16) (Z k 0) (Z k 1) (Z k 2) (Z k 3) (Z k 4) (Z k 5) (Z k 6) (Z k 7) (Z k 8) (Z k 9) (Z k 10) (Z k 11) (Z k 12) (Z k 13) (Z k 14) (Z k 15) :=
  ⟨(h k hk 0 (by omega)).1, (h k hk 1 (by omega)).1, (h k hk 2 (by omega)).1, (h k hk 3 (by omega)).1, (h k hk 4 (by omega)).1, (h k hk 5 (by omega)).1, (h k hk 6 (by omega)).1, (h k hk 7 (by omega)).1, (h k hk 8 (by omega)).1, (h k hk 9 (by omega)).1, (h k hk 10 (by omega)).1, (h k hk 11 (by omega)).1, (h k hk 12 (by omega)).1, (h k hk 13 (by omega)).1, (h k hk 14 (by omega)).1, (h k hk 15 (by omega)).1⟩
/-- the first k of nine are words -/
def okN (m0 m1 m2 m3 m4 m5 m6 m7 m8 : Int) : Nat → Bool
  | 0 => true
  | k + 1 => okN m0 m1 m2 m3 m4 m5 m6 m7 m8 k && okW (nth9 m0 m1 m2 m3 m4 m5 m6 m7 m8 k)
  where nth9 (m0 m1 m2 m3 m4 m5 m6 m7 m8 : Int) (k : Nat) : Int := if k = 0 then m0 else if k = 1 then m1 else if k = 2 then m2 else if k = 3 then m3 else if k = 4 then m4 else if k = 5 then m5 else if k = 6 then m6 else if k = 7 then m7 else m8
theorem okN_nine (m0 m1 m2 m3 m4 m5 m6 m7 m8 : Int) : okN m0 m1 m2 m3 m4 m5 m6 m7 m8 9 = (ok3 m0 m1 m2 && (ok3 m3 m4 m5 && ok3 m6 m7 m8)) := by
  simp only [okN, okN.nth9, ok3]
  simp
  cases okW m0 <;> cases okW m1 <;> cases okW m2 <;> cases okW m3 <;> cases okW m4 <;> cases okW m5 <;> cases okW m6 <;> cases okW m7 <;> cases okW m8 <;> rfl
end Go.Proofs.Ytbmodfhnenlmgaa

namespace Go.Proofs.Ytbmodfhnenlmgaa
open Go.RowKit Go.Shelf

set_option maxHeartbeats 80000000 in
set_option maxRecDepth 20000 in
theorem images_any (b off len cap : Nat) (Z : Nat → Nat → Int) (w : World) (hl : len ≤ maxLen) (hc : Twos3 w b off len Z) :
    Calls Try.prog 5 #[.slice (some ⟨b, off, none⟩) len cap] w fun e w' => e = .returned (.bool true) ∧ Ext w w' := by
  have hl' : len ≤ 9223372036854775807 := by unfold maxLen at hl; omega
  clear hl
  go_enter Try.func5, Try.ntmps5
  go_wp2_with fail
  go_loopw [3] (fun i wr => ∃ k : Nat, k ≤ len ∧ i = .int .i64 k ∧ Ext w wr) (fun i _ => len - (intOf i).toNat)
  case atStart => exact ⟨0, Nat.zero_le _, rfl, Ext.refl _⟩
  case round =>
    obtain ⟨k, hk, rfl, hx⟩ := hrel
    by_cases hlt : k < len
    · by_cases h20 : k < 20
      · have RW := (hc.ext hx).row16 hlt
        have hlt' : (k : Int) < (len : Int) := by omega
        generalize Z k 0 = a0 at *
        generalize Z k 1 = a1 at *
        generalize Z k 2 = a2 at *
        generalize Z k 3 = b0 at *
        generalize Z k 4 = b1 at *
        generalize Z k 5 = b2 at *
        generalize Z k 6 = kk at *
        generalize Z k 7 = m0 at *
        generalize Z k 8 = m1 at *
        generalize Z k 9 = m2 at *
        generalize Z k 10 = m3 at *
        generalize Z k 11 = m4 at *
        generalize Z k 12 = m5 at *
        generalize Z k 13 = m6 at *
        generalize Z k 14 = m7 at *
        generalize Z k 15 = m8 at *
        obtain ⟨z0, z1, z2, z3, z4, z5, z6, z7, z8, z9, z10, z11, z12, z13, z14, z15⟩ := RW
        go_wp2_with fail
        clear z0 z1 z2 z3 z4 z5 z6 z7 z8 z9 z10 z11 z12 z13 z14 z15
        cases g1 : ok3 a0 a1 a2
        · have HMa : Hid (∀ w', Calls Try.prog 8 #[.agg #[.int .i64 a0, .int .i64 a1, .int .i64 a2]] w' fun e w'' => e = .returned (.bool false) ∧ Ext w' w'') := fun w' => by have h := mayv_any a0 a1 a2 w'; rw [g1] at h; exact h
          have HA : Hid (∀ w', Calls Try.prog 15 #[.agg #[.int .i64 m0, .int .i64 m1, .int .i64 m2, .int .i64 m3, .int .i64 m4, .int .i64 m5, .int .i64 m6, .int .i64 m7, .int .i64 m8], .agg #[.int .i64 a0, .int .i64 a1, .int .i64 a2]] w' fun e w'' => e = .returned (.tuple #[.agg #[.int .i64 0, .int .i64 0, .int .i64 0], .int .i64 1]) ∧ Ext w' w'') := fun w' => vApply_no m0 m1 m2 m3 m4 m5 m6 m7 m8 a0 a1 a2 w' (by rw [g1]; cases ok3 m0 m1 m2 <;> cases ok3 m3 m4 m5 <;> cases ok3 m6 m7 m8 <;> rfl)
          have HI1 : Hid (∀ w', Calls Try.prog 11 #[.agg #[.int .i64 0, .int .i64 0, .int .i64 0], .int .i64 1, .agg #[.int .i64 0, .int .i64 0, .int .i64 0], .int .i64 1] w' fun e w'' => e = .returned (.bool true) ∧ Ext w' w'') := fun w' => is3_any 0 0 0 1 w' (.inr ⟨rfl, rfl, rfl, by decide⟩)
          have HS : Hid (∀ w', Calls Try.prog 18 #[.agg #[.int .i64 a0, .int .i64 a1, .int .i64 a2], .int .i64 kk] w' fun e w'' => e = .returned (.tuple #[.agg #[.int .i64 0, .int .i64 0, .int .i64 0], .int .i64 1]) ∧ Ext w' w'') := fun w' => vScale_no a0 a1 a2 kk w' (by rw [g1]; rfl)
          have HI2 : Hid (∀ w', Calls Try.prog 11 #[.agg #[.int .i64 0, .int .i64 0, .int .i64 0], .int .i64 1, .agg #[.int .i64 0, .int .i64 0, .int .i64 0], .int .i64 1] w' fun e w'' => e = .returned (.bool true) ∧ Ext w' w'') := fun w' => is3_any 0 0 0 1 w' (.inr ⟨rfl, rfl, rfl, by decide⟩)
          clear g1
          go_wp2_with fail
          refine (HA.out _).mono ?_
          rintro e w1 ⟨rfl, xw1⟩
          have FP_1 : Hid (P16 w1 wr.heap.size a0 a1 a2 b0 b1 b2 kk m0 m1 m2 m3 m4 m5 m6 m7 m8) := (p16_at rfl).ext xw1
          have E1 : Ext w w1 := Ext.trans (Ext.alloc hx _) xw1
          clear xw1
          try clear SZ
          try clear LP
          have SZ : w.heap.size ≤ w1.heap.size := E1.size
          have LP : wr.heap.size < w1.heap.size := FP_1.out.2.2.2.2.2.2.2.2.2.2.2.2.2.2.2.2
          have dp0 := fun p0 p1 => (P16.alloc (P16.alloc (FP_1.out) p0) p1).1
          have dp1 := fun p0 p1 => (P16.alloc (P16.alloc (FP_1.out) p0) p1).2.1
          have dp2 := fun p0 p1 => (P16.alloc (P16.alloc (FP_1.out) p0) p1).2.2.1
          have dp3 := fun p0 p1 => (P16.alloc (P16.alloc (FP_1.out) p0) p1).2.2.2.1
          have dp4 := fun p0 p1 => (P16.alloc (P16.alloc (FP_1.out) p0) p1).2.2.2.2.1
          have dp5 := fun p0 p1 => (P16.alloc (P16.alloc (FP_1.out) p0) p1).2.2.2.2.2.1
          have dp6 := fun p0 p1 => (P16.alloc (P16.alloc (FP_1.out) p0) p1).2.2.2.2.2.2.1
          have dp7 := fun p0 p1 => (P16.alloc (P16.alloc (FP_1.out) p0) p1).2.2.2.2.2.2.2.1
          have dp8 := fun p0 p1 => (P16.alloc (P16.alloc (FP_1.out) p0) p1).2.2.2.2.2.2.2.2.1
          have dp9 := fun p0 p1 => (P16.alloc (P16.alloc (FP_1.out) p0) p1).2.2.2.2.2.2.2.2.2.1
          have dp10 := fun p0 p1 => (P16.alloc (P16.alloc (FP_1.out) p0) p1).2.2.2.2.2.2.2.2.2.2.1
          have dp11 := fun p0 p1 => (P16.alloc (P16.alloc (FP_1.out) p0) p1).2.2.2.2.2.2.2.2.2.2.2.1
          have dp12 := fun p0 p1 => (P16.alloc (P16.alloc (FP_1.out) p0) p1).2.2.2.2.2.2.2.2.2.2.2.2.1
          have dp13 := fun p0 p1 => (P16.alloc (P16.alloc (FP_1.out) p0) p1).2.2.2.2.2.2.2.2.2.2.2.2.2.1
          have dp14 := fun p0 p1 => (P16.alloc (P16.alloc (FP_1.out) p0) p1).2.2.2.2.2.2.2.2.2.2.2.2.2.2.1
          have dp15 := fun p0 p1 => (P16.alloc (P16.alloc (FP_1.out) p0) p1).2.2.2.2.2.2.2.2.2.2.2.2.2.2.2.1
          go_wp2_with fail
          refine (HMa.out _).mono ?_
          rintro e w2 ⟨rfl, xw2⟩
          have Fx_2 : Hid (H3 w2 (w1.heap.size) (.int .i64 0) (.int .i64 0) (.int .i64 0)) := (H3.alloc (h3_at rfl) _).ext xw2
          have Fs_2 : Hid (H3 w2 (w1.heap.size + 1) (.int .i64 0) (.int .i64 0) (.int .i64 0)) := (h3_at (by simp)).ext xw2
          have FP_2 : Hid (P16 w2 wr.heap.size a0 a1 a2 b0 b1 b2 kk m0 m1 m2 m3 m4 m5 m6 m7 m8) := (P16.alloc (P16.alloc (FP_1.out) _) _).ext xw2
          have E2 : Ext w w2 := Ext.trans (Ext.alloc (Ext.alloc (E1) _) _) xw2
          clear xw2 E1 FP_1 dp0 dp1 dp2 dp3 dp4 dp5 dp6 dp7 dp8 dp9 dp10 dp11 dp12 dp13 dp14 dp15
          obtain ⟨cp0, cp1, cp2, cp3, cp4, cp5, cp6, cp7, cp8, cp9, cp10, cp11, cp12, cp13, cp14, cp15, cp16⟩ := FP_2.out
          go_wp2_with fail
          go_loop [9, 10] (fun ok j => ∃ k : Nat, k ≤ 9 ∧ j = .int .i64 (k : Int) ∧ ok = .bool (false)) (fun _ j => 9 - (intOf j).toNat)
          case atStart => exact ⟨0, by omega, rfl, rfl⟩
          case round =>
            obtain ⟨j, hj, rfl, rfl⟩ := hrel
            by_cases hj9 : j < 9
            · have hj9' : (j : Int) < 9 := by omega
              go_wp2_with fail
              go_round
              case rel => exact ⟨j + 1, by omega, by go_num, rfl⟩
              case measure => simp [intOf]; omega
            · obtain rfl : j = 9 := by omega
              go_wp2_with fail
              refine (HS.out _).mono ?_
              rintro e w3 ⟨rfl, xw3⟩
              have Fx_3 : Hid (H3 w3 (w1.heap.size) (.int .i64 0) (.int .i64 0) (.int .i64 0)) := (Fx_2.out).ext xw3
              have Fs_3 : Hid (H3 w3 (w1.heap.size + 1) (.int .i64 0) (.int .i64 0) (.int .i64 0)) := (Fs_2.out).ext xw3
              have FP_3 : Hid (P16 w3 wr.heap.size a0 a1 a2 b0 b1 b2 kk m0 m1 m2 m3 m4 m5 m6 m7 m8) := (FP_2.out).ext xw3
              have E3 : Ext w w3 := Ext.trans (E2) xw3
              clear xw3 E2 FP_2 Fx_2 Fs_2 cp0 cp1 cp2 cp3 cp4 cp5 cp6 cp7 cp8 cp9 cp10 cp11 cp12 cp13 cp14 cp15 cp16
              try clear SZ
              try clear LP
              try clear Lx
              try clear Ls
              have SZ : w.heap.size ≤ w3.heap.size := E3.size
              have LP : wr.heap.size < w3.heap.size := FP_3.out.2.2.2.2.2.2.2.2.2.2.2.2.2.2.2.2
              have Lx : w1.heap.size < w3.heap.size := Fx_3.out.2.2.2.2.2.2
              have Ls : w1.heap.size + 1 < w3.heap.size := Fs_3.out.2.2.2.2.2.2
              have dp0 := fun p0 p1 => (P16.alloc (P16.alloc (FP_3.out) p0) p1).1
              have dp1 := fun p0 p1 => (P16.alloc (P16.alloc (FP_3.out) p0) p1).2.1
              have dp2 := fun p0 p1 => (P16.alloc (P16.alloc (FP_3.out) p0) p1).2.2.1
              have dp3 := fun p0 p1 => (P16.alloc (P16.alloc (FP_3.out) p0) p1).2.2.2.1
              have dp4 := fun p0 p1 => (P16.alloc (P16.alloc (FP_3.out) p0) p1).2.2.2.2.1
              have dp5 := fun p0 p1 => (P16.alloc (P16.alloc (FP_3.out) p0) p1).2.2.2.2.2.1
              have dp6 := fun p0 p1 => (P16.alloc (P16.alloc (FP_3.out) p0) p1).2.2.2.2.2.2.1
              have dp7 := fun p0 p1 => (P16.alloc (P16.alloc (FP_3.out) p0) p1).2.2.2.2.2.2.2.1
              have dp8 := fun p0 p1 => (P16.alloc (P16.alloc (FP_3.out) p0) p1).2.2.2.2.2.2.2.2.1
              have dp9 := fun p0 p1 => (P16.alloc (P16.alloc (FP_3.out) p0) p1).2.2.2.2.2.2.2.2.2.1
              have dp10 := fun p0 p1 => (P16.alloc (P16.alloc (FP_3.out) p0) p1).2.2.2.2.2.2.2.2.2.2.1
              have dp11 := fun p0 p1 => (P16.alloc (P16.alloc (FP_3.out) p0) p1).2.2.2.2.2.2.2.2.2.2.2.1
              have dp12 := fun p0 p1 => (P16.alloc (P16.alloc (FP_3.out) p0) p1).2.2.2.2.2.2.2.2.2.2.2.2.1
              have dp13 := fun p0 p1 => (P16.alloc (P16.alloc (FP_3.out) p0) p1).2.2.2.2.2.2.2.2.2.2.2.2.2.1
              have dp14 := fun p0 p1 => (P16.alloc (P16.alloc (FP_3.out) p0) p1).2.2.2.2.2.2.2.2.2.2.2.2.2.2.1
              have dp15 := fun p0 p1 => (P16.alloc (P16.alloc (FP_3.out) p0) p1).2.2.2.2.2.2.2.2.2.2.2.2.2.2.2.1
              go_wp2_with fail
              refine (HMa.out _).mono ?_
              rintro e w4 ⟨rfl, xw4⟩
              have Fx_4 : Hid (H3 w4 (w1.heap.size) (.int .i64 0) (.int .i64 0) (.int .i64 0)) := (H3.alloc (H3.alloc (Fx_3.out) _) _).ext xw4
              have Fs_4 : Hid (H3 w4 (w1.heap.size + 1) (.int .i64 0) (.int .i64 0) (.int .i64 0)) := (H3.alloc (H3.alloc (Fs_3.out) _) _).ext xw4
              have Fy_4 : Hid (H3 w4 (w3.heap.size) (.int .i64 0) (.int .i64 0) (.int .i64 0)) := (H3.alloc (h3_at rfl) _).ext xw4
              have Ft_4 : Hid (H3 w4 (w3.heap.size + 1) (.int .i64 0) (.int .i64 0) (.int .i64 0)) := (h3_at (by simp)).ext xw4
              have FP_4 : Hid (P16 w4 wr.heap.size a0 a1 a2 b0 b1 b2 kk m0 m1 m2 m3 m4 m5 m6 m7 m8) := (P16.alloc (P16.alloc (FP_3.out) _) _).ext xw4
              have E4 : Ext w w4 := Ext.trans (Ext.alloc (Ext.alloc (E3) _) _) xw4
              clear xw4 E3 FP_3 Fx_3 Fs_3 dp0 dp1 dp2 dp3 dp4 dp5 dp6 dp7 dp8 dp9 dp10 dp11 dp12 dp13 dp14 dp15
              obtain ⟨cx0, cx1, cx2, cx3, cx4, cx5, cx6⟩ := Fx_4.out
              obtain ⟨cs0, cs1, cs2, cs3, cs4, cs5, cs6⟩ := Fs_4.out
              go_wp2_with fail
              refine (HI1.out _).mono ?_
              rintro e w5 ⟨rfl, xw5⟩
              have Fx_5 : Hid (H3 w5 (w1.heap.size) (.int .i64 0) (.int .i64 0) (.int .i64 0)) := (Fx_4.out).ext xw5
              have Fs_5 : Hid (H3 w5 (w1.heap.size + 1) (.int .i64 0) (.int .i64 0) (.int .i64 0)) := (Fs_4.out).ext xw5
              have Fy_5 : Hid (H3 w5 (w3.heap.size) (.int .i64 0) (.int .i64 0) (.int .i64 0)) := (Fy_4.out).ext xw5
              have Ft_5 : Hid (H3 w5 (w3.heap.size + 1) (.int .i64 0) (.int .i64 0) (.int .i64 0)) := (Ft_4.out).ext xw5
              have FP_5 : Hid (P16 w5 wr.heap.size a0 a1 a2 b0 b1 b2 kk m0 m1 m2 m3 m4 m5 m6 m7 m8) := (FP_4.out).ext xw5
              have E5 : Ext w w5 := Ext.trans (E4) xw5
              clear xw5 E4 FP_4 Fx_4 Fs_4 Fy_4 Ft_4 cx0 cx1 cx2 cx3 cx4 cx5 cx6 cs0 cs1 cs2 cs3 cs4 cs5 cs6
              obtain ⟨cy0, cy1, cy2, cy3, cy4, cy5, cy6⟩ := Fy_5.out
              obtain ⟨ct0, ct1, ct2, ct3, ct4, ct5, ct6⟩ := Ft_5.out
              go_wp2_with fail
              refine (HI2.out _).mono ?_
              rintro e w6 ⟨rfl, xw6⟩
              have Fx_6 : Hid (H3 w6 (w1.heap.size) (.int .i64 0) (.int .i64 0) (.int .i64 0)) := (Fx_5.out).ext xw6
              have Fs_6 : Hid (H3 w6 (w1.heap.size + 1) (.int .i64 0) (.int .i64 0) (.int .i64 0)) := (Fs_5.out).ext xw6
              have Fy_6 : Hid (H3 w6 (w3.heap.size) (.int .i64 0) (.int .i64 0) (.int .i64 0)) := (Fy_5.out).ext xw6
              have Ft_6 : Hid (H3 w6 (w3.heap.size + 1) (.int .i64 0) (.int .i64 0) (.int .i64 0)) := (Ft_5.out).ext xw6
              have FP_6 : Hid (P16 w6 wr.heap.size a0 a1 a2 b0 b1 b2 kk m0 m1 m2 m3 m4 m5 m6 m7 m8) := (FP_5.out).ext xw6
              have E6 : Ext w w6 := Ext.trans (E5) xw6
              clear xw6 E5 FP_5 Fx_5 Fs_5 Fy_5 Ft_5 cy0 cy1 cy2 cy3 cy4 cy5 cy6 ct0 ct1 ct2 ct3 ct4 ct5 ct6
              go_wp2_with fail
              go_roundw
              case rel => exact ⟨k + 1, by omega, by go_num, E6⟩
              case measure => simp [intOf]; omega
        · have HMa : Hid (∀ w', Calls Try.prog 8 #[.agg #[.int .i64 a0, .int .i64 a1, .int .i64 a2]] w' fun e w'' => e = .returned (.bool true) ∧ Ext w' w'') := fun w' => by have h := mayv_any a0 a1 a2 w'; rw [g1] at h; exact h
          cases h9 : okN m0 m1 m2 m3 m4 m5 m6 m7 m8 9
          · cases gk : okW kk
            · skip
              have HA : Hid (∀ w', Calls Try.prog 15 #[.agg #[.int .i64 m0, .int .i64 m1, .int .i64 m2, .int .i64 m3, .int .i64 m4, .int .i64 m5, .int .i64 m6, .int .i64 m7, .int .i64 m8], .agg #[.int .i64 a0, .int .i64 a1, .int .i64 a2]] w' fun e w'' => e = .returned (.tuple #[.agg #[.int .i64 0, .int .i64 0, .int .i64 0], .int .i64 1]) ∧ Ext w' w'') := fun w' => vApply_no m0 m1 m2 m3 m4 m5 m6 m7 m8 a0 a1 a2 w' (by rw [g1]; revert h9; rw [okN_nine]; cases ok3 m0 m1 m2 <;> cases ok3 m3 m4 m5 <;> cases ok3 m6 m7 m8 <;> simp)
              have HI1 : Hid (∀ w', Calls Try.prog 11 #[.agg #[.int .i64 0, .int .i64 0, .int .i64 0], .int .i64 1, .agg #[.int .i64 0, .int .i64 0, .int .i64 0], .int .i64 1] w' fun e w'' => e = .returned (.bool true) ∧ Ext w' w'') := fun w' => is3_any 0 0 0 1 w' (.inr ⟨rfl, rfl, rfl, by decide⟩)
              have HS : Hid (∀ w', Calls Try.prog 18 #[.agg #[.int .i64 a0, .int .i64 a1, .int .i64 a2], .int .i64 kk] w' fun e w'' => e = .returned (.tuple #[.agg #[.int .i64 0, .int .i64 0, .int .i64 0], .int .i64 1]) ∧ Ext w' w'') := fun w' => vScale_no a0 a1 a2 kk w' (by rw [g1, gk]; rfl)
              have HI2 : Hid (∀ w', Calls Try.prog 11 #[.agg #[.int .i64 0, .int .i64 0, .int .i64 0], .int .i64 1, .agg #[.int .i64 0, .int .i64 0, .int .i64 0], .int .i64 1] w' fun e w'' => e = .returned (.bool true) ∧ Ext w' w'') := fun w' => is3_any 0 0 0 1 w' (.inr ⟨rfl, rfl, rfl, by decide⟩)
              clear g1
              go_wp2_with fail
              refine (HA.out _).mono ?_
              rintro e w1 ⟨rfl, xw1⟩
              have FP_1 : Hid (P16 w1 wr.heap.size a0 a1 a2 b0 b1 b2 kk m0 m1 m2 m3 m4 m5 m6 m7 m8) := (p16_at rfl).ext xw1
              have E1 : Ext w w1 := Ext.trans (Ext.alloc hx _) xw1
              clear xw1
              try clear SZ
              try clear LP
              have SZ : w.heap.size ≤ w1.heap.size := E1.size
              have LP : wr.heap.size < w1.heap.size := FP_1.out.2.2.2.2.2.2.2.2.2.2.2.2.2.2.2.2
              have dp0 := fun p0 p1 => (P16.alloc (P16.alloc (FP_1.out) p0) p1).1
              have dp1 := fun p0 p1 => (P16.alloc (P16.alloc (FP_1.out) p0) p1).2.1
              have dp2 := fun p0 p1 => (P16.alloc (P16.alloc (FP_1.out) p0) p1).2.2.1
              have dp3 := fun p0 p1 => (P16.alloc (P16.alloc (FP_1.out) p0) p1).2.2.2.1
              have dp4 := fun p0 p1 => (P16.alloc (P16.alloc (FP_1.out) p0) p1).2.2.2.2.1
              have dp5 := fun p0 p1 => (P16.alloc (P16.alloc (FP_1.out) p0) p1).2.2.2.2.2.1
              have dp6 := fun p0 p1 => (P16.alloc (P16.alloc (FP_1.out) p0) p1).2.2.2.2.2.2.1
              have dp7 := fun p0 p1 => (P16.alloc (P16.alloc (FP_1.out) p0) p1).2.2.2.2.2.2.2.1
              have dp8 := fun p0 p1 => (P16.alloc (P16.alloc (FP_1.out) p0) p1).2.2.2.2.2.2.2.2.1
              have dp9 := fun p0 p1 => (P16.alloc (P16.alloc (FP_1.out) p0) p1).2.2.2.2.2.2.2.2.2.1
              have dp10 := fun p0 p1 => (P16.alloc (P16.alloc (FP_1.out) p0) p1).2.2.2.2.2.2.2.2.2.2.1
              have dp11 := fun p0 p1 => (P16.alloc (P16.alloc (FP_1.out) p0) p1).2.2.2.2.2.2.2.2.2.2.2.1
              have dp12 := fun p0 p1 => (P16.alloc (P16.alloc (FP_1.out) p0) p1).2.2.2.2.2.2.2.2.2.2.2.2.1
              have dp13 := fun p0 p1 => (P16.alloc (P16.alloc (FP_1.out) p0) p1).2.2.2.2.2.2.2.2.2.2.2.2.2.1
              have dp14 := fun p0 p1 => (P16.alloc (P16.alloc (FP_1.out) p0) p1).2.2.2.2.2.2.2.2.2.2.2.2.2.2.1
              have dp15 := fun p0 p1 => (P16.alloc (P16.alloc (FP_1.out) p0) p1).2.2.2.2.2.2.2.2.2.2.2.2.2.2.2.1
              go_wp2_with fail
              refine (HMa.out _).mono ?_
              rintro e w2 ⟨rfl, xw2⟩
              have Fx_2 : Hid (H3 w2 (w1.heap.size) (.int .i64 0) (.int .i64 0) (.int .i64 0)) := (H3.alloc (h3_at rfl) _).ext xw2
              have Fs_2 : Hid (H3 w2 (w1.heap.size + 1) (.int .i64 0) (.int .i64 0) (.int .i64 0)) := (h3_at (by simp)).ext xw2
              have FP_2 : Hid (P16 w2 wr.heap.size a0 a1 a2 b0 b1 b2 kk m0 m1 m2 m3 m4 m5 m6 m7 m8) := (P16.alloc (P16.alloc (FP_1.out) _) _).ext xw2
              have E2 : Ext w w2 := Ext.trans (Ext.alloc (Ext.alloc (E1) _) _) xw2
              clear xw2 E1 FP_1 dp0 dp1 dp2 dp3 dp4 dp5 dp6 dp7 dp8 dp9 dp10 dp11 dp12 dp13 dp14 dp15
              obtain ⟨cp0, cp1, cp2, cp3, cp4, cp5, cp6, cp7, cp8, cp9, cp10, cp11, cp12, cp13, cp14, cp15, cp16⟩ := FP_2.out
              go_wp2_with fail
              have hM : ∀ k, k < 9 → w2.cell? ⟨wr.heap.size, 7 + k, none⟩ = some (.int .i64 (okN.nth9 m0 m1 m2 m3 m4 m5 m6 m7 m8 k)) := by
                intro k hk
                have hk' : k = 0 ∨ k = 1 ∨ k = 2 ∨ k = 3 ∨ k = 4 ∨ k = 5 ∨ k = 6 ∨ k = 7 ∨ k = 8 := by omega
                obtain ⟨h0, h1, h2, h3, h4, h5, h6, h7, h8, h9, h10, h11, h12, h13, h14, h15, h16⟩ := FP_2.out
                rcases hk' with rfl | rfl | rfl | rfl | rfl | rfl | rfl | rfl | rfl <;> assumption
              have HMM : Hid _ := hM
              clear hM
              go_loop [9, 10] (fun ok j => ∃ k : Nat, k ≤ 9 ∧ j = .int .i64 (k : Int) ∧ ok = .bool (okN m0 m1 m2 m3 m4 m5 m6 m7 m8 k)) (fun _ j => 9 - (intOf j).toNat)
              case atStart => exact ⟨0, by omega, rfl, rfl⟩
              case round =>
                obtain ⟨j, hj, rfl, rfl⟩ := hrel
                by_cases hj9 : j < 9
                · have hcell := HMM.out j hj9
                  have hj9' : (j : Int) < 9 := by omega
                  have hs : Hid (okN m0 m1 m2 m3 m4 m5 m6 m7 m8 (j + 1) = (okN m0 m1 m2 m3 m4 m5 m6 m7 m8 j && okW (okN.nth9 m0 m1 m2 m3 m4 m5 m6 m7 m8 j))) := rfl
                  cases hN : okN m0 m1 m2 m3 m4 m5 m6 m7 m8 j
                  · rw [hN] at hs
                    go_wp2_with (go_at_call 16; refine (may_any _ _).mono ?_; rintro e wx ⟨rfl, hwx⟩; have hwy := hwx.symm; clear hwx; subst hwy)
                    go_round
                    case rel => exact ⟨j + 1, by omega, by go_num, congrArg Value.bool hs.out.symm⟩
                    case measure => simp [intOf]; omega
                  · rw [hN] at hs
                    go_wp2_with (go_at_call 16; refine (may_any _ _).mono ?_; rintro e wx ⟨rfl, hwx⟩; have hwy := hwx.symm; clear hwx; subst hwy)
                    go_round
                    case rel => exact ⟨j + 1, by omega, by go_num, congrArg Value.bool hs.out.symm⟩
                    case measure => simp [intOf]; omega
                · obtain rfl : j = 9 := by omega
                  rw [h9]
                  clear HMM
                  go_wp2_with fail
                  refine (HS.out _).mono ?_
                  rintro e w3 ⟨rfl, xw3⟩
                  have Fx_3 : Hid (H3 w3 (w1.heap.size) (.int .i64 0) (.int .i64 0) (.int .i64 0)) := (Fx_2.out).ext xw3
                  have Fs_3 : Hid (H3 w3 (w1.heap.size + 1) (.int .i64 0) (.int .i64 0) (.int .i64 0)) := (Fs_2.out).ext xw3
                  have FP_3 : Hid (P16 w3 wr.heap.size a0 a1 a2 b0 b1 b2 kk m0 m1 m2 m3 m4 m5 m6 m7 m8) := (FP_2.out).ext xw3
                  have E3 : Ext w w3 := Ext.trans (E2) xw3
                  clear xw3 E2 FP_2 Fx_2 Fs_2 cp0 cp1 cp2 cp3 cp4 cp5 cp6 cp7 cp8 cp9 cp10 cp11 cp12 cp13 cp14 cp15 cp16
                  try clear SZ
                  try clear LP
                  try clear Lx
                  try clear Ls
                  have SZ : w.heap.size ≤ w3.heap.size := E3.size
                  have LP : wr.heap.size < w3.heap.size := FP_3.out.2.2.2.2.2.2.2.2.2.2.2.2.2.2.2.2
                  have Lx : w1.heap.size < w3.heap.size := Fx_3.out.2.2.2.2.2.2
                  have Ls : w1.heap.size + 1 < w3.heap.size := Fs_3.out.2.2.2.2.2.2
                  have dp0 := fun p0 p1 => (P16.alloc (P16.alloc (FP_3.out) p0) p1).1
                  have dp1 := fun p0 p1 => (P16.alloc (P16.alloc (FP_3.out) p0) p1).2.1
                  have dp2 := fun p0 p1 => (P16.alloc (P16.alloc (FP_3.out) p0) p1).2.2.1
                  have dp3 := fun p0 p1 => (P16.alloc (P16.alloc (FP_3.out) p0) p1).2.2.2.1
                  have dp4 := fun p0 p1 => (P16.alloc (P16.alloc (FP_3.out) p0) p1).2.2.2.2.1
                  have dp5 := fun p0 p1 => (P16.alloc (P16.alloc (FP_3.out) p0) p1).2.2.2.2.2.1
                  have dp6 := fun p0 p1 => (P16.alloc (P16.alloc (FP_3.out) p0) p1).2.2.2.2.2.2.1
                  have dp7 := fun p0 p1 => (P16.alloc (P16.alloc (FP_3.out) p0) p1).2.2.2.2.2.2.2.1
                  have dp8 := fun p0 p1 => (P16.alloc (P16.alloc (FP_3.out) p0) p1).2.2.2.2.2.2.2.2.1
                  have dp9 := fun p0 p1 => (P16.alloc (P16.alloc (FP_3.out) p0) p1).2.2.2.2.2.2.2.2.2.1
                  have dp10 := fun p0 p1 => (P16.alloc (P16.alloc (FP_3.out) p0) p1).2.2.2.2.2.2.2.2.2.2.1
                  have dp11 := fun p0 p1 => (P16.alloc (P16.alloc (FP_3.out) p0) p1).2.2.2.2.2.2.2.2.2.2.2.1
                  have dp12 := fun p0 p1 => (P16.alloc (P16.alloc (FP_3.out) p0) p1).2.2.2.2.2.2.2.2.2.2.2.2.1
                  have dp13 := fun p0 p1 => (P16.alloc (P16.alloc (FP_3.out) p0) p1).2.2.2.2.2.2.2.2.2.2.2.2.2.1
                  have dp14 := fun p0 p1 => (P16.alloc (P16.alloc (FP_3.out) p0) p1).2.2.2.2.2.2.2.2.2.2.2.2.2.2.1
                  have dp15 := fun p0 p1 => (P16.alloc (P16.alloc (FP_3.out) p0) p1).2.2.2.2.2.2.2.2.2.2.2.2.2.2.2.1
                  go_wp2_with fail
                  refine (HMa.out _).mono ?_
                  rintro e w4 ⟨rfl, xw4⟩
                  have Fx_4 : Hid (H3 w4 (w1.heap.size) (.int .i64 0) (.int .i64 0) (.int .i64 0)) := (H3.alloc (H3.alloc (Fx_3.out) _) _).ext xw4
                  have Fs_4 : Hid (H3 w4 (w1.heap.size + 1) (.int .i64 0) (.int .i64 0) (.int .i64 0)) := (H3.alloc (H3.alloc (Fs_3.out) _) _).ext xw4
                  have Fy_4 : Hid (H3 w4 (w3.heap.size) (.int .i64 0) (.int .i64 0) (.int .i64 0)) := (H3.alloc (h3_at rfl) _).ext xw4
                  have Ft_4 : Hid (H3 w4 (w3.heap.size + 1) (.int .i64 0) (.int .i64 0) (.int .i64 0)) := (h3_at (by simp)).ext xw4
                  have FP_4 : Hid (P16 w4 wr.heap.size a0 a1 a2 b0 b1 b2 kk m0 m1 m2 m3 m4 m5 m6 m7 m8) := (P16.alloc (P16.alloc (FP_3.out) _) _).ext xw4
                  have E4 : Ext w w4 := Ext.trans (Ext.alloc (Ext.alloc (E3) _) _) xw4
                  clear xw4 E3 FP_3 Fx_3 Fs_3 dp0 dp1 dp2 dp3 dp4 dp5 dp6 dp7 dp8 dp9 dp10 dp11 dp12 dp13 dp14 dp15
                  obtain ⟨cp0, cp1, cp2, cp3, cp4, cp5, cp6, cp7, cp8, cp9, cp10, cp11, cp12, cp13, cp14, cp15, cp16⟩ := FP_4.out
                  obtain ⟨cx0, cx1, cx2, cx3, cx4, cx5, cx6⟩ := Fx_4.out
                  obtain ⟨cs0, cs1, cs2, cs3, cs4, cs5, cs6⟩ := Fs_4.out
                  go_wp2_with (go_at_call 16; refine (may_any _ _).mono ?_; rintro e wx ⟨rfl, hwx⟩; have hwy := hwx.symm; clear hwx; subst hwy)
                  refine (HI1.out _).mono ?_
                  rintro e w5 ⟨rfl, xw5⟩
                  have Fx_5 : Hid (H3 w5 (w1.heap.size) (.int .i64 0) (.int .i64 0) (.int .i64 0)) := (Fx_4.out).ext xw5
                  have Fs_5 : Hid (H3 w5 (w1.heap.size + 1) (.int .i64 0) (.int .i64 0) (.int .i64 0)) := (Fs_4.out).ext xw5
                  have Fy_5 : Hid (H3 w5 (w3.heap.size) (.int .i64 0) (.int .i64 0) (.int .i64 0)) := (Fy_4.out).ext xw5
                  have Ft_5 : Hid (H3 w5 (w3.heap.size + 1) (.int .i64 0) (.int .i64 0) (.int .i64 0)) := (Ft_4.out).ext xw5
                  have FP_5 : Hid (P16 w5 wr.heap.size a0 a1 a2 b0 b1 b2 kk m0 m1 m2 m3 m4 m5 m6 m7 m8) := (FP_4.out).ext xw5
                  have E5 : Ext w w5 := Ext.trans (E4) xw5
                  clear xw5 E4 FP_4 Fx_4 Fs_4 Fy_4 Ft_4 cp0 cp1 cp2 cp3 cp4 cp5 cp6 cp7 cp8 cp9 cp10 cp11 cp12 cp13 cp14 cp15 cp16 cx0 cx1 cx2 cx3 cx4 cx5 cx6 cs0 cs1 cs2 cs3 cs4 cs5 cs6
                  obtain ⟨cy0, cy1, cy2, cy3, cy4, cy5, cy6⟩ := Fy_5.out
                  obtain ⟨ct0, ct1, ct2, ct3, ct4, ct5, ct6⟩ := Ft_5.out
                  go_wp2_with fail
                  refine (HI2.out _).mono ?_
                  rintro e w6 ⟨rfl, xw6⟩
                  have Fx_6 : Hid (H3 w6 (w1.heap.size) (.int .i64 0) (.int .i64 0) (.int .i64 0)) := (Fx_5.out).ext xw6
                  have Fs_6 : Hid (H3 w6 (w1.heap.size + 1) (.int .i64 0) (.int .i64 0) (.int .i64 0)) := (Fs_5.out).ext xw6
                  have Fy_6 : Hid (H3 w6 (w3.heap.size) (.int .i64 0) (.int .i64 0) (.int .i64 0)) := (Fy_5.out).ext xw6
                  have Ft_6 : Hid (H3 w6 (w3.heap.size + 1) (.int .i64 0) (.int .i64 0) (.int .i64 0)) := (Ft_5.out).ext xw6
                  have FP_6 : Hid (P16 w6 wr.heap.size a0 a1 a2 b0 b1 b2 kk m0 m1 m2 m3 m4 m5 m6 m7 m8) := (FP_5.out).ext xw6
                  have E6 : Ext w w6 := Ext.trans (E5) xw6
                  clear xw6 E5 FP_5 Fx_5 Fs_5 Fy_5 Ft_5 cy0 cy1 cy2 cy3 cy4 cy5 cy6 ct0 ct1 ct2 ct3 ct4 ct5 ct6
                  go_wp2_with fail
                  go_roundw
                  case rel => exact ⟨k + 1, by omega, by go_num, E6⟩
                  case measure => simp [intOf]; omega
            · skip
              have HA : Hid (∀ w', Calls Try.prog 15 #[.agg #[.int .i64 m0, .int .i64 m1, .int .i64 m2, .int .i64 m3, .int .i64 m4, .int .i64 m5, .int .i64 m6, .int .i64 m7, .int .i64 m8], .agg #[.int .i64 a0, .int .i64 a1, .int .i64 a2]] w' fun e w'' => e = .returned (.tuple #[.agg #[.int .i64 0, .int .i64 0, .int .i64 0], .int .i64 1]) ∧ Ext w' w'') := fun w' => vApply_no m0 m1 m2 m3 m4 m5 m6 m7 m8 a0 a1 a2 w' (by rw [g1]; revert h9; rw [okN_nine]; cases ok3 m0 m1 m2 <;> cases ok3 m3 m4 m5 <;> cases ok3 m6 m7 m8 <;> simp)
              have HI1 : Hid (∀ w', Calls Try.prog 11 #[.agg #[.int .i64 0, .int .i64 0, .int .i64 0], .int .i64 1, .agg #[.int .i64 0, .int .i64 0, .int .i64 0], .int .i64 1] w' fun e w'' => e = .returned (.bool true) ∧ Ext w' w'') := fun w' => is3_any 0 0 0 1 w' (.inr ⟨rfl, rfl, rfl, by decide⟩)
              obtain ⟨y0, y1, y2, ye, HS, HRS, HI2⟩ : ∃ x0 x1 x2 xe : Int, Hid (∀ w', Calls Try.prog 18 #[.agg #[.int .i64 a0, .int .i64 a1, .int .i64 a2], .int .i64 kk] w' fun e w'' => e = .returned (.tuple #[.agg #[.int .i64 x0, .int .i64 x1, .int .i64 x2], .int .i64 xe]) ∧ Ext w' w'') ∧ Hid (∀ w', Calls Try.prog 19 #[.agg #[.int .i64 a0, .int .i64 a1, .int .i64 a2], .int .i64 kk] w' fun e w'' => e = .returned (.tuple #[.agg #[.int .i64 x0, .int .i64 x1, .int .i64 x2], .int .i64 xe]) ∧ Ext w' w'') ∧ Hid (∀ w', Calls Try.prog 11 #[.agg #[.int .i64 x0, .int .i64 x1, .int .i64 x2], .int .i64 xe, .agg #[.int .i64 x0, .int .i64 x1, .int .i64 x2], .int .i64 xe] w' fun e w'' => e = .returned (.bool true) ∧ Ext w' w'') := by
                obtain ⟨x, y, z, e, hr, hq⟩ := vres_is (nearQ (a0 * kk)) (nearQ (a1 * kk)) (nearQ (a2 * kk))
                have h1 := fun w' => vScale_yes a0 a1 a2 kk w' g1 gk
                have h2 := fun w' => rscale_any a0 a1 a2 kk w' g1 gk
                rw [hr] at h1 h2
                exact ⟨x, y, z, e, h1, h2, fun w' => is3_any x y z e w' hq⟩
              clear g1
              go_wp2_with fail
              refine (HA.out _).mono ?_
              rintro e w1 ⟨rfl, xw1⟩
              have FP_1 : Hid (P16 w1 wr.heap.size a0 a1 a2 b0 b1 b2 kk m0 m1 m2 m3 m4 m5 m6 m7 m8) := (p16_at rfl).ext xw1
              have E1 : Ext w w1 := Ext.trans (Ext.alloc hx _) xw1
              clear xw1
              try clear SZ
              try clear LP
              have SZ : w.heap.size ≤ w1.heap.size := E1.size
              have LP : wr.heap.size < w1.heap.size := FP_1.out.2.2.2.2.2.2.2.2.2.2.2.2.2.2.2.2
              have dp0 := fun p0 p1 => (P16.alloc (P16.alloc (FP_1.out) p0) p1).1
              have dp1 := fun p0 p1 => (P16.alloc (P16.alloc (FP_1.out) p0) p1).2.1
              have dp2 := fun p0 p1 => (P16.alloc (P16.alloc (FP_1.out) p0) p1).2.2.1
              have dp3 := fun p0 p1 => (P16.alloc (P16.alloc (FP_1.out) p0) p1).2.2.2.1
              have dp4 := fun p0 p1 => (P16.alloc (P16.alloc (FP_1.out) p0) p1).2.2.2.2.1
              have dp5 := fun p0 p1 => (P16.alloc (P16.alloc (FP_1.out) p0) p1).2.2.2.2.2.1
              have dp6 := fun p0 p1 => (P16.alloc (P16.alloc (FP_1.out) p0) p1).2.2.2.2.2.2.1
              have dp7 := fun p0 p1 => (P16.alloc (P16.alloc (FP_1.out) p0) p1).2.2.2.2.2.2.2.1
              have dp8 := fun p0 p1 => (P16.alloc (P16.alloc (FP_1.out) p0) p1).2.2.2.2.2.2.2.2.1
              have dp9 := fun p0 p1 => (P16.alloc (P16.alloc (FP_1.out) p0) p1).2.2.2.2.2.2.2.2.2.1
              have dp10 := fun p0 p1 => (P16.alloc (P16.alloc (FP_1.out) p0) p1).2.2.2.2.2.2.2.2.2.2.1
              have dp11 := fun p0 p1 => (P16.alloc (P16.alloc (FP_1.out) p0) p1).2.2.2.2.2.2.2.2.2.2.2.1
              have dp12 := fun p0 p1 => (P16.alloc (P16.alloc (FP_1.out) p0) p1).2.2.2.2.2.2.2.2.2.2.2.2.1
              have dp13 := fun p0 p1 => (P16.alloc (P16.alloc (FP_1.out) p0) p1).2.2.2.2.2.2.2.2.2.2.2.2.2.1
              have dp14 := fun p0 p1 => (P16.alloc (P16.alloc (FP_1.out) p0) p1).2.2.2.2.2.2.2.2.2.2.2.2.2.2.1
              have dp15 := fun p0 p1 => (P16.alloc (P16.alloc (FP_1.out) p0) p1).2.2.2.2.2.2.2.2.2.2.2.2.2.2.2.1
              go_wp2_with fail
              refine (HMa.out _).mono ?_
              rintro e w2 ⟨rfl, xw2⟩
              have Fx_2 : Hid (H3 w2 (w1.heap.size) (.int .i64 0) (.int .i64 0) (.int .i64 0)) := (H3.alloc (h3_at rfl) _).ext xw2
              have Fs_2 : Hid (H3 w2 (w1.heap.size + 1) (.int .i64 0) (.int .i64 0) (.int .i64 0)) := (h3_at (by simp)).ext xw2
              have FP_2 : Hid (P16 w2 wr.heap.size a0 a1 a2 b0 b1 b2 kk m0 m1 m2 m3 m4 m5 m6 m7 m8) := (P16.alloc (P16.alloc (FP_1.out) _) _).ext xw2
              have E2 : Ext w w2 := Ext.trans (Ext.alloc (Ext.alloc (E1) _) _) xw2
              clear xw2 E1 FP_1 dp0 dp1 dp2 dp3 dp4 dp5 dp6 dp7 dp8 dp9 dp10 dp11 dp12 dp13 dp14 dp15
              obtain ⟨cp0, cp1, cp2, cp3, cp4, cp5, cp6, cp7, cp8, cp9, cp10, cp11, cp12, cp13, cp14, cp15, cp16⟩ := FP_2.out
              go_wp2_with fail
              have hM : ∀ k, k < 9 → w2.cell? ⟨wr.heap.size, 7 + k, none⟩ = some (.int .i64 (okN.nth9 m0 m1 m2 m3 m4 m5 m6 m7 m8 k)) := by
                intro k hk
                have hk' : k = 0 ∨ k = 1 ∨ k = 2 ∨ k = 3 ∨ k = 4 ∨ k = 5 ∨ k = 6 ∨ k = 7 ∨ k = 8 := by omega
                obtain ⟨h0, h1, h2, h3, h4, h5, h6, h7, h8, h9, h10, h11, h12, h13, h14, h15, h16⟩ := FP_2.out
                rcases hk' with rfl | rfl | rfl | rfl | rfl | rfl | rfl | rfl | rfl <;> assumption
              have HMM : Hid _ := hM
              clear hM
              go_loop [9, 10] (fun ok j => ∃ k : Nat, k ≤ 9 ∧ j = .int .i64 (k : Int) ∧ ok = .bool (okN m0 m1 m2 m3 m4 m5 m6 m7 m8 k)) (fun _ j => 9 - (intOf j).toNat)
              case atStart => exact ⟨0, by omega, rfl, rfl⟩
              case round =>
                obtain ⟨j, hj, rfl, rfl⟩ := hrel
                by_cases hj9 : j < 9
                · have hcell := HMM.out j hj9
                  have hj9' : (j : Int) < 9 := by omega
                  have hs : Hid (okN m0 m1 m2 m3 m4 m5 m6 m7 m8 (j + 1) = (okN m0 m1 m2 m3 m4 m5 m6 m7 m8 j && okW (okN.nth9 m0 m1 m2 m3 m4 m5 m6 m7 m8 j))) := rfl
                  cases hN : okN m0 m1 m2 m3 m4 m5 m6 m7 m8 j
                  · rw [hN] at hs
                    go_wp2_with (go_at_call 16; refine (may_any _ _).mono ?_; rintro e wx ⟨rfl, hwx⟩; have hwy := hwx.symm; clear hwx; subst hwy)
                    go_round
                    case rel => exact ⟨j + 1, by omega, by go_num, congrArg Value.bool hs.out.symm⟩
                    case measure => simp [intOf]; omega
                  · rw [hN] at hs
                    go_wp2_with (go_at_call 16; refine (may_any _ _).mono ?_; rintro e wx ⟨rfl, hwx⟩; have hwy := hwx.symm; clear hwx; subst hwy)
                    go_round
                    case rel => exact ⟨j + 1, by omega, by go_num, congrArg Value.bool hs.out.symm⟩
                    case measure => simp [intOf]; omega
                · obtain rfl : j = 9 := by omega
                  rw [h9]
                  clear HMM
                  go_wp2_with fail
                  refine (HS.out _).mono ?_
                  rintro e w3 ⟨rfl, xw3⟩
                  have Fx_3 : Hid (H3 w3 (w1.heap.size) (.int .i64 0) (.int .i64 0) (.int .i64 0)) := (Fx_2.out).ext xw3
                  have Fs_3 : Hid (H3 w3 (w1.heap.size + 1) (.int .i64 0) (.int .i64 0) (.int .i64 0)) := (Fs_2.out).ext xw3
                  have FP_3 : Hid (P16 w3 wr.heap.size a0 a1 a2 b0 b1 b2 kk m0 m1 m2 m3 m4 m5 m6 m7 m8) := (FP_2.out).ext xw3
                  have E3 : Ext w w3 := Ext.trans (E2) xw3
                  clear xw3 E2 FP_2 Fx_2 Fs_2 cp0 cp1 cp2 cp3 cp4 cp5 cp6 cp7 cp8 cp9 cp10 cp11 cp12 cp13 cp14 cp15 cp16
                  try clear SZ
                  try clear LP
                  try clear Lx
                  try clear Ls
                  have SZ : w.heap.size ≤ w3.heap.size := E3.size
                  have LP : wr.heap.size < w3.heap.size := FP_3.out.2.2.2.2.2.2.2.2.2.2.2.2.2.2.2.2
                  have Lx : w1.heap.size < w3.heap.size := Fx_3.out.2.2.2.2.2.2
                  have Ls : w1.heap.size + 1 < w3.heap.size := Fs_3.out.2.2.2.2.2.2
                  have dp0 := fun p0 p1 => (P16.alloc (P16.alloc (FP_3.out) p0) p1).1
                  have dp1 := fun p0 p1 => (P16.alloc (P16.alloc (FP_3.out) p0) p1).2.1
                  have dp2 := fun p0 p1 => (P16.alloc (P16.alloc (FP_3.out) p0) p1).2.2.1
                  have dp3 := fun p0 p1 => (P16.alloc (P16.alloc (FP_3.out) p0) p1).2.2.2.1
                  have dp4 := fun p0 p1 => (P16.alloc (P16.alloc (FP_3.out) p0) p1).2.2.2.2.1
                  have dp5 := fun p0 p1 => (P16.alloc (P16.alloc (FP_3.out) p0) p1).2.2.2.2.2.1
                  have dp6 := fun p0 p1 => (P16.alloc (P16.alloc (FP_3.out) p0) p1).2.2.2.2.2.2.1
                  have dp7 := fun p0 p1 => (P16.alloc (P16.alloc (FP_3.out) p0) p1).2.2.2.2.2.2.2.1
                  have dp8 := fun p0 p1 => (P16.alloc (P16.alloc (FP_3.out) p0) p1).2.2.2.2.2.2.2.2.1
                  have dp9 := fun p0 p1 => (P16.alloc (P16.alloc (FP_3.out) p0) p1).2.2.2.2.2.2.2.2.2.1
                  have dp10 := fun p0 p1 => (P16.alloc (P16.alloc (FP_3.out) p0) p1).2.2.2.2.2.2.2.2.2.2.1
                  have dp11 := fun p0 p1 => (P16.alloc (P16.alloc (FP_3.out) p0) p1).2.2.2.2.2.2.2.2.2.2.2.1
                  have dp12 := fun p0 p1 => (P16.alloc (P16.alloc (FP_3.out) p0) p1).2.2.2.2.2.2.2.2.2.2.2.2.1
                  have dp13 := fun p0 p1 => (P16.alloc (P16.alloc (FP_3.out) p0) p1).2.2.2.2.2.2.2.2.2.2.2.2.2.1
                  have dp14 := fun p0 p1 => (P16.alloc (P16.alloc (FP_3.out) p0) p1).2.2.2.2.2.2.2.2.2.2.2.2.2.2.1
                  have dp15 := fun p0 p1 => (P16.alloc (P16.alloc (FP_3.out) p0) p1).2.2.2.2.2.2.2.2.2.2.2.2.2.2.2.1
                  go_wp2_with fail
                  refine (HMa.out _).mono ?_
                  rintro e w4 ⟨rfl, xw4⟩
                  have Fx_4 : Hid (H3 w4 (w1.heap.size) (.int .i64 0) (.int .i64 0) (.int .i64 0)) := (H3.alloc (H3.alloc (Fx_3.out) _) _).ext xw4
                  have Fs_4 : Hid (H3 w4 (w1.heap.size + 1) (.int .i64 0) (.int .i64 0) (.int .i64 0)) := (H3.alloc (H3.alloc (Fs_3.out) _) _).ext xw4
                  have Fy_4 : Hid (H3 w4 (w3.heap.size) (.int .i64 y0) (.int .i64 y1) (.int .i64 y2)) := (H3.alloc (h3_at rfl) _).ext xw4
                  have Ft_4 : Hid (H3 w4 (w3.heap.size + 1) (.int .i64 0) (.int .i64 0) (.int .i64 0)) := (h3_at (by simp)).ext xw4
                  have FP_4 : Hid (P16 w4 wr.heap.size a0 a1 a2 b0 b1 b2 kk m0 m1 m2 m3 m4 m5 m6 m7 m8) := (P16.alloc (P16.alloc (FP_3.out) _) _).ext xw4
                  have E4 : Ext w w4 := Ext.trans (Ext.alloc (Ext.alloc (E3) _) _) xw4
                  clear xw4 E3 FP_3 Fx_3 Fs_3 dp0 dp1 dp2 dp3 dp4 dp5 dp6 dp7 dp8 dp9 dp10 dp11 dp12 dp13 dp14 dp15
                  obtain ⟨cp0, cp1, cp2, cp3, cp4, cp5, cp6, cp7, cp8, cp9, cp10, cp11, cp12, cp13, cp14, cp15, cp16⟩ := FP_4.out
                  obtain ⟨cx0, cx1, cx2, cx3, cx4, cx5, cx6⟩ := Fx_4.out
                  obtain ⟨cs0, cs1, cs2, cs3, cs4, cs5, cs6⟩ := Fs_4.out
                  go_wp2_with (go_at_call 16; refine (may_any _ _).mono ?_; rintro e wx ⟨rfl, hwx⟩; have hwy := hwx.symm; clear hwx; subst hwy)
                  refine (HRS.out _).mono ?_
                  rintro e w5 ⟨rfl, xw5⟩
                  have Fx_5 : Hid (H3 w5 (w1.heap.size) (.int .i64 0) (.int .i64 0) (.int .i64 0)) := (Fx_4.out).ext xw5
                  have Fs_5 : Hid (H3 w5 (w1.heap.size + 1) (.int .i64 0) (.int .i64 0) (.int .i64 0)) := (Fs_4.out).ext xw5
                  have Fy_5 : Hid (H3 w5 (w3.heap.size) (.int .i64 y0) (.int .i64 y1) (.int .i64 y2)) := (Fy_4.out).ext xw5
                  have Ft_5 : Hid (H3 w5 (w3.heap.size + 1) (.int .i64 0) (.int .i64 0) (.int .i64 0)) := (Ft_4.out).ext xw5
                  have FP_5 : Hid (P16 w5 wr.heap.size a0 a1 a2 b0 b1 b2 kk m0 m1 m2 m3 m4 m5 m6 m7 m8) := (FP_4.out).ext xw5
                  have E5 : Ext w w5 := Ext.trans (E4) xw5
                  clear xw5 E4 FP_4 Fx_4 Fs_4 Fy_4 Ft_4 cp0 cp1 cp2 cp3 cp4 cp5 cp6 cp7 cp8 cp9 cp10 cp11 cp12 cp13 cp14 cp15 cp16 cx0 cx1 cx2 cx3 cx4 cx5 cx6 cs0 cs1 cs2 cs3 cs4 cs5 cs6
                  have dx0 := fun p q r => (H3.far3 (p := p) (q := q) (r := r) (g := w3.heap.size + 1) Fx_5.out (by omega)).1
                  have dx1 := fun p q r => (H3.far3 (p := p) (q := q) (r := r) (g := w3.heap.size + 1) Fx_5.out (by omega)).2.1
                  have dx2 := fun p q r => (H3.far3 (p := p) (q := q) (r := r) (g := w3.heap.size + 1) Fx_5.out (by omega)).2.2.1
                  have ds0 := fun p q r => (H3.far3 (p := p) (q := q) (r := r) (g := w3.heap.size + 1) Fs_5.out (by omega)).1
                  have ds1 := fun p q r => (H3.far3 (p := p) (q := q) (r := r) (g := w3.heap.size + 1) Fs_5.out (by omega)).2.1
                  have ds2 := fun p q r => (H3.far3 (p := p) (q := q) (r := r) (g := w3.heap.size + 1) Fs_5.out (by omega)).2.2.1
                  obtain ⟨ct0, ct1, ct2, ct3, ct4, ct5, ct6⟩ := Ft_5.out
                  go_wp2_with fail
                  refine (HI1.out _).mono ?_
                  rintro e w6 ⟨rfl, xw6⟩
                  have Fx_6 : Hid (H3 w6 (w1.heap.size) (.int .i64 0) (.int .i64 0) (.int .i64 0)) := (H3.far3 Fx_5.out (by omega)).ext xw6
                  have Fs_6 : Hid (H3 w6 (w1.heap.size + 1) (.int .i64 0) (.int .i64 0) (.int .i64 0)) := (H3.far3 Fs_5.out (by omega)).ext xw6
                  have Fy_6 : Hid (H3 w6 (w3.heap.size) (.int .i64 y0) (.int .i64 y1) (.int .i64 y2)) := (H3.far3 Fy_5.out (by omega)).ext xw6
                  have Ft_6 : Hid (H3 w6 (w3.heap.size + 1) (.int .i64 y0) (.int .i64 y1) (.int .i64 y2)) := (H3.set3 Ft_5.out _ _ _).ext xw6
                  have FP_6 : Hid (P16 w6 wr.heap.size a0 a1 a2 b0 b1 b2 kk m0 m1 m2 m3 m4 m5 m6 m7 m8) := (P16.far3 FP_5.out (by omega)).ext xw6
                  have E6 : Ext w w6 := Ext.trans (by repeat (first | with_reducible assumption | with_reducible exact Ext.refl _ | with_reducible refine Ext.drew ?_ | with_reducible refine Ext.drewN ?_ _ | with_reducible refine Ext.alloc ?_ _ | with_reducible refine Ext.set ?_ (by first | exact Nat.le_refl _ | (dsimp only; omega) | (simp; done)) _)) xw6
                  clear xw6 E5 FP_5 Fx_5 Fs_5 Fy_5 Ft_5 dx0 dx1 dx2 ds0 ds1 ds2 ct0 ct1 ct2 ct3 ct4 ct5 ct6
                  obtain ⟨cy0, cy1, cy2, cy3, cy4, cy5, cy6⟩ := Fy_6.out
                  obtain ⟨ct0, ct1, ct2, ct3, ct4, ct5, ct6⟩ := Ft_6.out
                  go_wp2_with fail
                  refine (HI2.out _).mono ?_
                  rintro e w7 ⟨rfl, xw7⟩
                  have Fx_7 : Hid (H3 w7 (w1.heap.size) (.int .i64 0) (.int .i64 0) (.int .i64 0)) := (Fx_6.out).ext xw7
                  have Fs_7 : Hid (H3 w7 (w1.heap.size + 1) (.int .i64 0) (.int .i64 0) (.int .i64 0)) := (Fs_6.out).ext xw7
                  have Fy_7 : Hid (H3 w7 (w3.heap.size) (.int .i64 y0) (.int .i64 y1) (.int .i64 y2)) := (Fy_6.out).ext xw7
                  have Ft_7 : Hid (H3 w7 (w3.heap.size + 1) (.int .i64 y0) (.int .i64 y1) (.int .i64 y2)) := (Ft_6.out).ext xw7
                  have FP_7 : Hid (P16 w7 wr.heap.size a0 a1 a2 b0 b1 b2 kk m0 m1 m2 m3 m4 m5 m6 m7 m8) := (FP_6.out).ext xw7
                  have E7 : Ext w w7 := Ext.trans (E6) xw7
                  clear xw7 E6 FP_6 Fx_6 Fs_6 Fy_6 Ft_6 cy0 cy1 cy2 cy3 cy4 cy5 cy6 ct0 ct1 ct2 ct3 ct4 ct5 ct6
                  go_wp2_with fail
                  go_roundw
                  case rel => exact ⟨k + 1, by omega, by go_num, E7⟩
                  case measure => simp [intOf]; omega
          · cases gk : okW kk
            · skip
              obtain ⟨x0, x1, x2, xe, HA, HRA, HI1⟩ : ∃ x0 x1 x2 xe : Int, Hid (∀ w', Calls Try.prog 15 #[.agg #[.int .i64 m0, .int .i64 m1, .int .i64 m2, .int .i64 m3, .int .i64 m4, .int .i64 m5, .int .i64 m6, .int .i64 m7, .int .i64 m8], .agg #[.int .i64 a0, .int .i64 a1, .int .i64 a2]] w' fun e w'' => e = .returned (.tuple #[.agg #[.int .i64 x0, .int .i64 x1, .int .i64 x2], .int .i64 xe]) ∧ Ext w' w'') ∧ Hid (∀ w', Calls Try.prog 17 #[.agg #[.int .i64 m0, .int .i64 m1, .int .i64 m2, .int .i64 m3, .int .i64 m4, .int .i64 m5, .int .i64 m6, .int .i64 m7, .int .i64 m8], .agg #[.int .i64 a0, .int .i64 a1, .int .i64 a2]] w' fun e w'' => e = .returned (.tuple #[.agg #[.int .i64 x0, .int .i64 x1, .int .i64 x2], .int .i64 xe]) ∧ Ext w' w'') ∧ Hid (∀ w', Calls Try.prog 11 #[.agg #[.int .i64 x0, .int .i64 x1, .int .i64 x2], .int .i64 xe, .agg #[.int .i64 x0, .int .i64 x1, .int .i64 x2], .int .i64 xe] w' fun e w'' => e = .returned (.bool true) ∧ Ext w' w'') := by
                obtain ⟨x, y, z, e, hr, hq⟩ := vres_is (rowQ m0 m1 m2 a0 a1 a2) (rowQ m3 m4 m5 a0 a1 a2) (rowQ m6 m7 m8 a0 a1 a2)
                have h9' := h9
                rw [okN_nine] at h9'
                simp only [Bool.and_eq_true] at h9'
                have h1 := fun w' => vApply_yes m0 m1 m2 m3 m4 m5 m6 m7 m8 a0 a1 a2 w' h9'.1 h9'.2.1 h9'.2.2 g1
                have h2 := fun w' => rapply_any m0 m1 m2 m3 m4 m5 m6 m7 m8 a0 a1 a2 w' h9'.1 h9'.2.1 h9'.2.2 g1
                rw [hr] at h1 h2
                exact ⟨x, y, z, e, h1, h2, fun w' => is3_any x y z e w' hq⟩
              have HS : Hid (∀ w', Calls Try.prog 18 #[.agg #[.int .i64 a0, .int .i64 a1, .int .i64 a2], .int .i64 kk] w' fun e w'' => e = .returned (.tuple #[.agg #[.int .i64 0, .int .i64 0, .int .i64 0], .int .i64 1]) ∧ Ext w' w'') := fun w' => vScale_no a0 a1 a2 kk w' (by rw [g1, gk]; rfl)
              have HI2 : Hid (∀ w', Calls Try.prog 11 #[.agg #[.int .i64 0, .int .i64 0, .int .i64 0], .int .i64 1, .agg #[.int .i64 0, .int .i64 0, .int .i64 0], .int .i64 1] w' fun e w'' => e = .returned (.bool true) ∧ Ext w' w'') := fun w' => is3_any 0 0 0 1 w' (.inr ⟨rfl, rfl, rfl, by decide⟩)
              clear g1
              go_wp2_with fail
              refine (HA.out _).mono ?_
              rintro e w1 ⟨rfl, xw1⟩
              have FP_1 : Hid (P16 w1 wr.heap.size a0 a1 a2 b0 b1 b2 kk m0 m1 m2 m3 m4 m5 m6 m7 m8) := (p16_at rfl).ext xw1
              have E1 : Ext w w1 := Ext.trans (Ext.alloc hx _) xw1
              clear xw1
              try clear SZ
              try clear LP
              have SZ : w.heap.size ≤ w1.heap.size := E1.size
              have LP : wr.heap.size < w1.heap.size := FP_1.out.2.2.2.2.2.2.2.2.2.2.2.2.2.2.2.2
              have dp0 := fun p0 p1 => (P16.alloc (P16.alloc (FP_1.out) p0) p1).1
              have dp1 := fun p0 p1 => (P16.alloc (P16.alloc (FP_1.out) p0) p1).2.1
              have dp2 := fun p0 p1 => (P16.alloc (P16.alloc (FP_1.out) p0) p1).2.2.1
              have dp3 := fun p0 p1 => (P16.alloc (P16.alloc (FP_1.out) p0) p1).2.2.2.1
              have dp4 := fun p0 p1 => (P16.alloc (P16.alloc (FP_1.out) p0) p1).2.2.2.2.1
              have dp5 := fun p0 p1 => (P16.alloc (P16.alloc (FP_1.out) p0) p1).2.2.2.2.2.1
              have dp6 := fun p0 p1 => (P16.alloc (P16.alloc (FP_1.out) p0) p1).2.2.2.2.2.2.1
              have dp7 := fun p0 p1 => (P16.alloc (P16.alloc (FP_1.out) p0) p1).2.2.2.2.2.2.2.1
              have dp8 := fun p0 p1 => (P16.alloc (P16.alloc (FP_1.out) p0) p1).2.2.2.2.2.2.2.2.1
              have dp9 := fun p0 p1 => (P16.alloc (P16.alloc (FP_1.out) p0) p1).2.2.2.2.2.2.2.2.2.1
              have dp10 := fun p0 p1 => (P16.alloc (P16.alloc (FP_1.out) p0) p1).2.2.2.2.2.2.2.2.2.2.1
              have dp11 := fun p0 p1 => (P16.alloc (P16.alloc (FP_1.out) p0) p1).2.2.2.2.2.2.2.2.2.2.2.1
              have dp12 := fun p0 p1 => (P16.alloc (P16.alloc (FP_1.out) p0) p1).2.2.2.2.2.2.2.2.2.2.2.2.1
              have dp13 := fun p0 p1 => (P16.alloc (P16.alloc (FP_1.out) p0) p1).2.2.2.2.2.2.2.2.2.2.2.2.2.1
              have dp14 := fun p0 p1 => (P16.alloc (P16.alloc (FP_1.out) p0) p1).2.2.2.2.2.2.2.2.2.2.2.2.2.2.1
              have dp15 := fun p0 p1 => (P16.alloc (P16.alloc (FP_1.out) p0) p1).2.2.2.2.2.2.2.2.2.2.2.2.2.2.2.1
              go_wp2_with fail
              refine (HMa.out _).mono ?_
              rintro e w2 ⟨rfl, xw2⟩
              have Fx_2 : Hid (H3 w2 (w1.heap.size) (.int .i64 x0) (.int .i64 x1) (.int .i64 x2)) := (H3.alloc (h3_at rfl) _).ext xw2
              have Fs_2 : Hid (H3 w2 (w1.heap.size + 1) (.int .i64 0) (.int .i64 0) (.int .i64 0)) := (h3_at (by simp)).ext xw2
              have FP_2 : Hid (P16 w2 wr.heap.size a0 a1 a2 b0 b1 b2 kk m0 m1 m2 m3 m4 m5 m6 m7 m8) := (P16.alloc (P16.alloc (FP_1.out) _) _).ext xw2
              have E2 : Ext w w2 := Ext.trans (Ext.alloc (Ext.alloc (E1) _) _) xw2
              clear xw2 E1 FP_1 dp0 dp1 dp2 dp3 dp4 dp5 dp6 dp7 dp8 dp9 dp10 dp11 dp12 dp13 dp14 dp15
              obtain ⟨cp0, cp1, cp2, cp3, cp4, cp5, cp6, cp7, cp8, cp9, cp10, cp11, cp12, cp13, cp14, cp15, cp16⟩ := FP_2.out
              go_wp2_with fail
              have hM : ∀ k, k < 9 → w2.cell? ⟨wr.heap.size, 7 + k, none⟩ = some (.int .i64 (okN.nth9 m0 m1 m2 m3 m4 m5 m6 m7 m8 k)) := by
                intro k hk
                have hk' : k = 0 ∨ k = 1 ∨ k = 2 ∨ k = 3 ∨ k = 4 ∨ k = 5 ∨ k = 6 ∨ k = 7 ∨ k = 8 := by omega
                obtain ⟨h0, h1, h2, h3, h4, h5, h6, h7, h8, h9, h10, h11, h12, h13, h14, h15, h16⟩ := FP_2.out
                rcases hk' with rfl | rfl | rfl | rfl | rfl | rfl | rfl | rfl | rfl <;> assumption
              have HMM : Hid _ := hM
              clear hM
              go_loop [9, 10] (fun ok j => ∃ k : Nat, k ≤ 9 ∧ j = .int .i64 (k : Int) ∧ ok = .bool (okN m0 m1 m2 m3 m4 m5 m6 m7 m8 k)) (fun _ j => 9 - (intOf j).toNat)
              case atStart => exact ⟨0, by omega, rfl, rfl⟩
              case round =>
                obtain ⟨j, hj, rfl, rfl⟩ := hrel
                by_cases hj9 : j < 9
                · have hcell := HMM.out j hj9
                  have hj9' : (j : Int) < 9 := by omega
                  have hs : Hid (okN m0 m1 m2 m3 m4 m5 m6 m7 m8 (j + 1) = (okN m0 m1 m2 m3 m4 m5 m6 m7 m8 j && okW (okN.nth9 m0 m1 m2 m3 m4 m5 m6 m7 m8 j))) := rfl
                  cases hN : okN m0 m1 m2 m3 m4 m5 m6 m7 m8 j
                  · rw [hN] at hs
                    go_wp2_with (go_at_call 16; refine (may_any _ _).mono ?_; rintro e wx ⟨rfl, hwx⟩; have hwy := hwx.symm; clear hwx; subst hwy)
                    go_round
                    case rel => exact ⟨j + 1, by omega, by go_num, congrArg Value.bool hs.out.symm⟩
                    case measure => simp [intOf]; omega
                  · rw [hN] at hs
                    go_wp2_with (go_at_call 16; refine (may_any _ _).mono ?_; rintro e wx ⟨rfl, hwx⟩; have hwy := hwx.symm; clear hwx; subst hwy)
                    go_round
                    case rel => exact ⟨j + 1, by omega, by go_num, congrArg Value.bool hs.out.symm⟩
                    case measure => simp [intOf]; omega
                · obtain rfl : j = 9 := by omega
                  rw [h9]
                  clear HMM
                  go_wp2_with fail
                  refine (HRA.out _).mono ?_
                  rintro e w3 ⟨rfl, xw3⟩
                  have Fx_3 : Hid (H3 w3 (w1.heap.size) (.int .i64 x0) (.int .i64 x1) (.int .i64 x2)) := (Fx_2.out).ext xw3
                  have Fs_3 : Hid (H3 w3 (w1.heap.size + 1) (.int .i64 0) (.int .i64 0) (.int .i64 0)) := (Fs_2.out).ext xw3
                  have FP_3 : Hid (P16 w3 wr.heap.size a0 a1 a2 b0 b1 b2 kk m0 m1 m2 m3 m4 m5 m6 m7 m8) := (FP_2.out).ext xw3
                  have E3 : Ext w w3 := Ext.trans (E2) xw3
                  clear xw3 E2 FP_2 Fx_2 Fs_2 cp0 cp1 cp2 cp3 cp4 cp5 cp6 cp7 cp8 cp9 cp10 cp11 cp12 cp13 cp14 cp15 cp16
                  have dp0 := fun p q r => (P16.far3 (p := p) (q := q) (r := r) (g := w1.heap.size + 1) FP_3.out (by omega)).1
                  have dp1 := fun p q r => (P16.far3 (p := p) (q := q) (r := r) (g := w1.heap.size + 1) FP_3.out (by omega)).2.1
                  have dp2 := fun p q r => (P16.far3 (p := p) (q := q) (r := r) (g := w1.heap.size + 1) FP_3.out (by omega)).2.2.1
                  have dp3 := fun p q r => (P16.far3 (p := p) (q := q) (r := r) (g := w1.heap.size + 1) FP_3.out (by omega)).2.2.2.1
                  have dp4 := fun p q r => (P16.far3 (p := p) (q := q) (r := r) (g := w1.heap.size + 1) FP_3.out (by omega)).2.2.2.2.1
                  have dp5 := fun p q r => (P16.far3 (p := p) (q := q) (r := r) (g := w1.heap.size + 1) FP_3.out (by omega)).2.2.2.2.2.1
                  have dp6 := fun p q r => (P16.far3 (p := p) (q := q) (r := r) (g := w1.heap.size + 1) FP_3.out (by omega)).2.2.2.2.2.2.1
                  have dp7 := fun p q r => (P16.far3 (p := p) (q := q) (r := r) (g := w1.heap.size + 1) FP_3.out (by omega)).2.2.2.2.2.2.2.1
                  have dp8 := fun p q r => (P16.far3 (p := p) (q := q) (r := r) (g := w1.heap.size + 1) FP_3.out (by omega)).2.2.2.2.2.2.2.2.1
                  have dp9 := fun p q r => (P16.far3 (p := p) (q := q) (r := r) (g := w1.heap.size + 1) FP_3.out (by omega)).2.2.2.2.2.2.2.2.2.1
                  have dp10 := fun p q r => (P16.far3 (p := p) (q := q) (r := r) (g := w1.heap.size + 1) FP_3.out (by omega)).2.2.2.2.2.2.2.2.2.2.1
                  have dp11 := fun p q r => (P16.far3 (p := p) (q := q) (r := r) (g := w1.heap.size + 1) FP_3.out (by omega)).2.2.2.2.2.2.2.2.2.2.2.1
                  have dp12 := fun p q r => (P16.far3 (p := p) (q := q) (r := r) (g := w1.heap.size + 1) FP_3.out (by omega)).2.2.2.2.2.2.2.2.2.2.2.2.1
                  have dp13 := fun p q r => (P16.far3 (p := p) (q := q) (r := r) (g := w1.heap.size + 1) FP_3.out (by omega)).2.2.2.2.2.2.2.2.2.2.2.2.2.1
                  have dp14 := fun p q r => (P16.far3 (p := p) (q := q) (r := r) (g := w1.heap.size + 1) FP_3.out (by omega)).2.2.2.2.2.2.2.2.2.2.2.2.2.2.1
                  have dp15 := fun p q r => (P16.far3 (p := p) (q := q) (r := r) (g := w1.heap.size + 1) FP_3.out (by omega)).2.2.2.2.2.2.2.2.2.2.2.2.2.2.2.1
                  have dx0 := fun p q r => (H3.far3 (p := p) (q := q) (r := r) (g := w1.heap.size + 1) Fx_3.out (by omega)).1
                  have dx1 := fun p q r => (H3.far3 (p := p) (q := q) (r := r) (g := w1.heap.size + 1) Fx_3.out (by omega)).2.1
                  have dx2 := fun p q r => (H3.far3 (p := p) (q := q) (r := r) (g := w1.heap.size + 1) Fx_3.out (by omega)).2.2.1
                  obtain ⟨cs0, cs1, cs2, cs3, cs4, cs5, cs6⟩ := Fs_3.out
                  go_wp2_with fail
                  refine (HS.out _).mono ?_
                  rintro e w4 ⟨rfl, xw4⟩
                  have Fx_4 : Hid (H3 w4 (w1.heap.size) (.int .i64 x0) (.int .i64 x1) (.int .i64 x2)) := (H3.far3 Fx_3.out (by omega)).ext xw4
                  have Fs_4 : Hid (H3 w4 (w1.heap.size + 1) (.int .i64 x0) (.int .i64 x1) (.int .i64 x2)) := (H3.set3 Fs_3.out _ _ _).ext xw4
                  have FP_4 : Hid (P16 w4 wr.heap.size a0 a1 a2 b0 b1 b2 kk m0 m1 m2 m3 m4 m5 m6 m7 m8) := (P16.far3 FP_3.out (by omega)).ext xw4
                  have E4 : Ext w w4 := Ext.trans (by repeat (first | with_reducible assumption | with_reducible exact Ext.refl _ | with_reducible refine Ext.drew ?_ | with_reducible refine Ext.drewN ?_ _ | with_reducible refine Ext.alloc ?_ _ | with_reducible refine Ext.set ?_ (by first | exact Nat.le_refl _ | (dsimp only; omega) | (simp; done)) _)) xw4
                  clear xw4 E3 FP_3 Fx_3 Fs_3 dp0 dp1 dp2 dp3 dp4 dp5 dp6 dp7 dp8 dp9 dp10 dp11 dp12 dp13 dp14 dp15 dx0 dx1 dx2 cs0 cs1 cs2 cs3 cs4 cs5 cs6
                  try clear SZ
                  try clear LP
                  try clear Lx
                  try clear Ls
                  have SZ : w.heap.size ≤ w4.heap.size := E4.size
                  have LP : wr.heap.size < w4.heap.size := FP_4.out.2.2.2.2.2.2.2.2.2.2.2.2.2.2.2.2
                  have Lx : w1.heap.size < w4.heap.size := Fx_4.out.2.2.2.2.2.2
                  have Ls : w1.heap.size + 1 < w4.heap.size := Fs_4.out.2.2.2.2.2.2
                  have dp0 := fun p0 p1 => (P16.alloc (P16.alloc (FP_4.out) p0) p1).1
                  have dp1 := fun p0 p1 => (P16.alloc (P16.alloc (FP_4.out) p0) p1).2.1
                  have dp2 := fun p0 p1 => (P16.alloc (P16.alloc (FP_4.out) p0) p1).2.2.1
                  have dp3 := fun p0 p1 => (P16.alloc (P16.alloc (FP_4.out) p0) p1).2.2.2.1
                  have dp4 := fun p0 p1 => (P16.alloc (P16.alloc (FP_4.out) p0) p1).2.2.2.2.1
                  have dp5 := fun p0 p1 => (P16.alloc (P16.alloc (FP_4.out) p0) p1).2.2.2.2.2.1
                  have dp6 := fun p0 p1 => (P16.alloc (P16.alloc (FP_4.out) p0) p1).2.2.2.2.2.2.1
                  have dp7 := fun p0 p1 => (P16.alloc (P16.alloc (FP_4.out) p0) p1).2.2.2.2.2.2.2.1
                  have dp8 := fun p0 p1 => (P16.alloc (P16.alloc (FP_4.out) p0) p1).2.2.2.2.2.2.2.2.1
                  have dp9 := fun p0 p1 => (P16.alloc (P16.alloc (FP_4.out) p0) p1).2.2.2.2.2.2.2.2.2.1
                  have dp10 := fun p0 p1 => (P16.alloc (P16.alloc (FP_4.out) p0) p1).2.2.2.2.2.2.2.2.2.2.1
                  have dp11 := fun p0 p1 => (P16.alloc (P16.alloc (FP_4.out) p0) p1).2.2.2.2.2.2.2.2.2.2.2.1
                  have dp12 := fun p0 p1 => (P16.alloc (P16.alloc (FP_4.out) p0) p1).2.2.2.2.2.2.2.2.2.2.2.2.1
                  have dp13 := fun p0 p1 => (P16.alloc (P16.alloc (FP_4.out) p0) p1).2.2.2.2.2.2.2.2.2.2.2.2.2.1
                  have dp14 := fun p0 p1 => (P16.alloc (P16.alloc (FP_4.out) p0) p1).2.2.2.2.2.2.2.2.2.2.2.2.2.2.1
                  have dp15 := fun p0 p1 => (P16.alloc (P16.alloc (FP_4.out) p0) p1).2.2.2.2.2.2.2.2.2.2.2.2.2.2.2.1
                  go_wp2_with fail
                  refine (HMa.out _).mono ?_
                  rintro e w5 ⟨rfl, xw5⟩
                  have Fx_5 : Hid (H3 w5 (w1.heap.size) (.int .i64 x0) (.int .i64 x1) (.int .i64 x2)) := (H3.alloc (H3.alloc (Fx_4.out) _) _).ext xw5
                  have Fs_5 : Hid (H3 w5 (w1.heap.size + 1) (.int .i64 x0) (.int .i64 x1) (.int .i64 x2)) := (H3.alloc (H3.alloc (Fs_4.out) _) _).ext xw5
                  have Fy_5 : Hid (H3 w5 (w4.heap.size) (.int .i64 0) (.int .i64 0) (.int .i64 0)) := (H3.alloc (h3_at rfl) _).ext xw5
                  have Ft_5 : Hid (H3 w5 (w4.heap.size + 1) (.int .i64 0) (.int .i64 0) (.int .i64 0)) := (h3_at (by simp)).ext xw5
                  have FP_5 : Hid (P16 w5 wr.heap.size a0 a1 a2 b0 b1 b2 kk m0 m1 m2 m3 m4 m5 m6 m7 m8) := (P16.alloc (P16.alloc (FP_4.out) _) _).ext xw5
                  have E5 : Ext w w5 := Ext.trans (Ext.alloc (Ext.alloc (E4) _) _) xw5
                  clear xw5 E4 FP_4 Fx_4 Fs_4 dp0 dp1 dp2 dp3 dp4 dp5 dp6 dp7 dp8 dp9 dp10 dp11 dp12 dp13 dp14 dp15
                  obtain ⟨cp0, cp1, cp2, cp3, cp4, cp5, cp6, cp7, cp8, cp9, cp10, cp11, cp12, cp13, cp14, cp15, cp16⟩ := FP_5.out
                  obtain ⟨cx0, cx1, cx2, cx3, cx4, cx5, cx6⟩ := Fx_5.out
                  obtain ⟨cs0, cs1, cs2, cs3, cs4, cs5, cs6⟩ := Fs_5.out
                  go_wp2_with (go_at_call 16; refine (may_any _ _).mono ?_; rintro e wx ⟨rfl, hwx⟩; have hwy := hwx.symm; clear hwx; subst hwy)
                  refine (HI1.out _).mono ?_
                  rintro e w6 ⟨rfl, xw6⟩
                  have Fx_6 : Hid (H3 w6 (w1.heap.size) (.int .i64 x0) (.int .i64 x1) (.int .i64 x2)) := (Fx_5.out).ext xw6
                  have Fs_6 : Hid (H3 w6 (w1.heap.size + 1) (.int .i64 x0) (.int .i64 x1) (.int .i64 x2)) := (Fs_5.out).ext xw6
                  have Fy_6 : Hid (H3 w6 (w4.heap.size) (.int .i64 0) (.int .i64 0) (.int .i64 0)) := (Fy_5.out).ext xw6
                  have Ft_6 : Hid (H3 w6 (w4.heap.size + 1) (.int .i64 0) (.int .i64 0) (.int .i64 0)) := (Ft_5.out).ext xw6
                  have FP_6 : Hid (P16 w6 wr.heap.size a0 a1 a2 b0 b1 b2 kk m0 m1 m2 m3 m4 m5 m6 m7 m8) := (FP_5.out).ext xw6
                  have E6 : Ext w w6 := Ext.trans (E5) xw6
                  clear xw6 E5 FP_5 Fx_5 Fs_5 Fy_5 Ft_5 cp0 cp1 cp2 cp3 cp4 cp5 cp6 cp7 cp8 cp9 cp10 cp11 cp12 cp13 cp14 cp15 cp16 cx0 cx1 cx2 cx3 cx4 cx5 cx6 cs0 cs1 cs2 cs3 cs4 cs5 cs6
                  obtain ⟨cy0, cy1, cy2, cy3, cy4, cy5, cy6⟩ := Fy_6.out
                  obtain ⟨ct0, ct1, ct2, ct3, ct4, ct5, ct6⟩ := Ft_6.out
                  go_wp2_with fail
                  refine (HI2.out _).mono ?_
                  rintro e w7 ⟨rfl, xw7⟩
                  have Fx_7 : Hid (H3 w7 (w1.heap.size) (.int .i64 x0) (.int .i64 x1) (.int .i64 x2)) := (Fx_6.out).ext xw7
                  have Fs_7 : Hid (H3 w7 (w1.heap.size + 1) (.int .i64 x0) (.int .i64 x1) (.int .i64 x2)) := (Fs_6.out).ext xw7
                  have Fy_7 : Hid (H3 w7 (w4.heap.size) (.int .i64 0) (.int .i64 0) (.int .i64 0)) := (Fy_6.out).ext xw7
                  have Ft_7 : Hid (H3 w7 (w4.heap.size + 1) (.int .i64 0) (.int .i64 0) (.int .i64 0)) := (Ft_6.out).ext xw7
                  have FP_7 : Hid (P16 w7 wr.heap.size a0 a1 a2 b0 b1 b2 kk m0 m1 m2 m3 m4 m5 m6 m7 m8) := (FP_6.out).ext xw7
                  have E7 : Ext w w7 := Ext.trans (E6) xw7
                  clear xw7 E6 FP_6 Fx_6 Fs_6 Fy_6 Ft_6 cy0 cy1 cy2 cy3 cy4 cy5 cy6 ct0 ct1 ct2 ct3 ct4 ct5 ct6
                  go_wp2_with fail
                  go_roundw
                  case rel => exact ⟨k + 1, by omega, by go_num, E7⟩
                  case measure => simp [intOf]; omega
            · skip
              obtain ⟨x0, x1, x2, xe, HA, HRA, HI1⟩ : ∃ x0 x1 x2 xe : Int, Hid (∀ w', Calls Try.prog 15 #[.agg #[.int .i64 m0, .int .i64 m1, .int .i64 m2, .int .i64 m3, .int .i64 m4, .int .i64 m5, .int .i64 m6, .int .i64 m7, .int .i64 m8], .agg #[.int .i64 a0, .int .i64 a1, .int .i64 a2]] w' fun e w'' => e = .returned (.tuple #[.agg #[.int .i64 x0, .int .i64 x1, .int .i64 x2], .int .i64 xe]) ∧ Ext w' w'') ∧ Hid (∀ w', Calls Try.prog 17 #[.agg #[.int .i64 m0, .int .i64 m1, .int .i64 m2, .int .i64 m3, .int .i64 m4, .int .i64 m5, .int .i64 m6, .int .i64 m7, .int .i64 m8], .agg #[.int .i64 a0, .int .i64 a1, .int .i64 a2]] w' fun e w'' => e = .returned (.tuple #[.agg #[.int .i64 x0, .int .i64 x1, .int .i64 x2], .int .i64 xe]) ∧ Ext w' w'') ∧ Hid (∀ w', Calls Try.prog 11 #[.agg #[.int .i64 x0, .int .i64 x1, .int .i64 x2], .int .i64 xe, .agg #[.int .i64 x0, .int .i64 x1, .int .i64 x2], .int .i64 xe] w' fun e w'' => e = .returned (.bool true) ∧ Ext w' w'') := by
                obtain ⟨x, y, z, e, hr, hq⟩ := vres_is (rowQ m0 m1 m2 a0 a1 a2) (rowQ m3 m4 m5 a0 a1 a2) (rowQ m6 m7 m8 a0 a1 a2)
                have h9' := h9
                rw [okN_nine] at h9'
                simp only [Bool.and_eq_true] at h9'
                have h1 := fun w' => vApply_yes m0 m1 m2 m3 m4 m5 m6 m7 m8 a0 a1 a2 w' h9'.1 h9'.2.1 h9'.2.2 g1
                have h2 := fun w' => rapply_any m0 m1 m2 m3 m4 m5 m6 m7 m8 a0 a1 a2 w' h9'.1 h9'.2.1 h9'.2.2 g1
                rw [hr] at h1 h2
                exact ⟨x, y, z, e, h1, h2, fun w' => is3_any x y z e w' hq⟩
              obtain ⟨y0, y1, y2, ye, HS, HRS, HI2⟩ : ∃ x0 x1 x2 xe : Int, Hid (∀ w', Calls Try.prog 18 #[.agg #[.int .i64 a0, .int .i64 a1, .int .i64 a2], .int .i64 kk] w' fun e w'' => e = .returned (.tuple #[.agg #[.int .i64 x0, .int .i64 x1, .int .i64 x2], .int .i64 xe]) ∧ Ext w' w'') ∧ Hid (∀ w', Calls Try.prog 19 #[.agg #[.int .i64 a0, .int .i64 a1, .int .i64 a2], .int .i64 kk] w' fun e w'' => e = .returned (.tuple #[.agg #[.int .i64 x0, .int .i64 x1, .int .i64 x2], .int .i64 xe]) ∧ Ext w' w'') ∧ Hid (∀ w', Calls Try.prog 11 #[.agg #[.int .i64 x0, .int .i64 x1, .int .i64 x2], .int .i64 xe, .agg #[.int .i64 x0, .int .i64 x1, .int .i64 x2], .int .i64 xe] w' fun e w'' => e = .returned (.bool true) ∧ Ext w' w'') := by
                obtain ⟨x, y, z, e, hr, hq⟩ := vres_is (nearQ (a0 * kk)) (nearQ (a1 * kk)) (nearQ (a2 * kk))
                have h1 := fun w' => vScale_yes a0 a1 a2 kk w' g1 gk
                have h2 := fun w' => rscale_any a0 a1 a2 kk w' g1 gk
                rw [hr] at h1 h2
                exact ⟨x, y, z, e, h1, h2, fun w' => is3_any x y z e w' hq⟩
              clear g1
              go_wp2_with fail
              refine (HA.out _).mono ?_
              rintro e w1 ⟨rfl, xw1⟩
              have FP_1 : Hid (P16 w1 wr.heap.size a0 a1 a2 b0 b1 b2 kk m0 m1 m2 m3 m4 m5 m6 m7 m8) := (p16_at rfl).ext xw1
              have E1 : Ext w w1 := Ext.trans (Ext.alloc hx _) xw1
              clear xw1
              try clear SZ
              try clear LP
              have SZ : w.heap.size ≤ w1.heap.size := E1.size
              have LP : wr.heap.size < w1.heap.size := FP_1.out.2.2.2.2.2.2.2.2.2.2.2.2.2.2.2.2
              have dp0 := fun p0 p1 => (P16.alloc (P16.alloc (FP_1.out) p0) p1).1
              have dp1 := fun p0 p1 => (P16.alloc (P16.alloc (FP_1.out) p0) p1).2.1
              have dp2 := fun p0 p1 => (P16.alloc (P16.alloc (FP_1.out) p0) p1).2.2.1
              have dp3 := fun p0 p1 => (P16.alloc (P16.alloc (FP_1.out) p0) p1).2.2.2.1
              have dp4 := fun p0 p1 => (P16.alloc (P16.alloc (FP_1.out) p0) p1).2.2.2.2.1
              have dp5 := fun p0 p1 => (P16.alloc (P16.alloc (FP_1.out) p0) p1).2.2.2.2.2.1
              have dp6 := fun p0 p1 => (P16.alloc (P16.alloc (FP_1.out) p0) p1).2.2.2.2.2.2.1
              have dp7 := fun p0 p1 => (P16.alloc (P16.alloc (FP_1.out) p0) p1).2.2.2.2.2.2.2.1
              have dp8 := fun p0 p1 => (P16.alloc (P16.alloc (FP_1.out) p0) p1).2.2.2.2.2.2.2.2.1
              have dp9 := fun p0 p1 => (P16.alloc (P16.alloc (FP_1.out) p0) p1).2.2.2.2.2.2.2.2.2.1
              have dp10 := fun p0 p1 => (P16.alloc (P16.alloc (FP_1.out) p0) p1).2.2.2.2.2.2.2.2.2.2.1
              have dp11 := fun p0 p1 => (P16.alloc (P16.alloc (FP_1.out) p0) p1).2.2.2.2.2.2.2.2.2.2.2.1
              have dp12 := fun p0 p1 => (P16.alloc (P16.alloc (FP_1.out) p0) p1).2.2.2.2.2.2.2.2.2.2.2.2.1
              have dp13 := fun p0 p1 => (P16.alloc (P16.alloc (FP_1.out) p0) p1).2.2.2.2.2.2.2.2.2.2.2.2.2.1
              have dp14 := fun p0 p1 => (P16.alloc (P16.alloc (FP_1.out) p0) p1).2.2.2.2.2.2.2.2.2.2.2.2.2.2.1
              have dp15 := fun p0 p1 => (P16.alloc (P16.alloc (FP_1.out) p0) p1).2.2.2.2.2.2.2.2.2.2.2.2.2.2.2.1
              go_wp2_with fail
              refine (HMa.out _).mono ?_
              rintro e w2 ⟨rfl, xw2⟩
              have Fx_2 : Hid (H3 w2 (w1.heap.size) (.int .i64 x0) (.int .i64 x1) (.int .i64 x2)) := (H3.alloc (h3_at rfl) _).ext xw2
              have Fs_2 : Hid (H3 w2 (w1.heap.size + 1) (.int .i64 0) (.int .i64 0) (.int .i64 0)) := (h3_at (by simp)).ext xw2
              have FP_2 : Hid (P16 w2 wr.heap.size a0 a1 a2 b0 b1 b2 kk m0 m1 m2 m3 m4 m5 m6 m7 m8) := (P16.alloc (P16.alloc (FP_1.out) _) _).ext xw2
              have E2 : Ext w w2 := Ext.trans (Ext.alloc (Ext.alloc (E1) _) _) xw2
              clear xw2 E1 FP_1 dp0 dp1 dp2 dp3 dp4 dp5 dp6 dp7 dp8 dp9 dp10 dp11 dp12 dp13 dp14 dp15
              obtain ⟨cp0, cp1, cp2, cp3, cp4, cp5, cp6, cp7, cp8, cp9, cp10, cp11, cp12, cp13, cp14, cp15, cp16⟩ := FP_2.out
              go_wp2_with fail
              have hM : ∀ k, k < 9 → w2.cell? ⟨wr.heap.size, 7 + k, none⟩ = some (.int .i64 (okN.nth9 m0 m1 m2 m3 m4 m5 m6 m7 m8 k)) := by
                intro k hk
                have hk' : k = 0 ∨ k = 1 ∨ k = 2 ∨ k = 3 ∨ k = 4 ∨ k = 5 ∨ k = 6 ∨ k = 7 ∨ k = 8 := by omega
                obtain ⟨h0, h1, h2, h3, h4, h5, h6, h7, h8, h9, h10, h11, h12, h13, h14, h15, h16⟩ := FP_2.out
                rcases hk' with rfl | rfl | rfl | rfl | rfl | rfl | rfl | rfl | rfl <;> assumption
              have HMM : Hid _ := hM
              clear hM
              go_loop [9, 10] (fun ok j => ∃ k : Nat, k ≤ 9 ∧ j = .int .i64 (k : Int) ∧ ok = .bool (okN m0 m1 m2 m3 m4 m5 m6 m7 m8 k)) (fun _ j => 9 - (intOf j).toNat)
              case atStart => exact ⟨0, by omega, rfl, rfl⟩
              case round =>
                obtain ⟨j, hj, rfl, rfl⟩ := hrel
                by_cases hj9 : j < 9
                · have hcell := HMM.out j hj9
                  have hj9' : (j : Int) < 9 := by omega
                  have hs : Hid (okN m0 m1 m2 m3 m4 m5 m6 m7 m8 (j + 1) = (okN m0 m1 m2 m3 m4 m5 m6 m7 m8 j && okW (okN.nth9 m0 m1 m2 m3 m4 m5 m6 m7 m8 j))) := rfl
                  cases hN : okN m0 m1 m2 m3 m4 m5 m6 m7 m8 j
                  · rw [hN] at hs
                    go_wp2_with (go_at_call 16; refine (may_any _ _).mono ?_; rintro e wx ⟨rfl, hwx⟩; have hwy := hwx.symm; clear hwx; subst hwy)
                    go_round
                    case rel => exact ⟨j + 1, by omega, by go_num, congrArg Value.bool hs.out.symm⟩
                    case measure => simp [intOf]; omega
                  · rw [hN] at hs
                    go_wp2_with (go_at_call 16; refine (may_any _ _).mono ?_; rintro e wx ⟨rfl, hwx⟩; have hwy := hwx.symm; clear hwx; subst hwy)
                    go_round
                    case rel => exact ⟨j + 1, by omega, by go_num, congrArg Value.bool hs.out.symm⟩
                    case measure => simp [intOf]; omega
                · obtain rfl : j = 9 := by omega
                  rw [h9]
                  clear HMM
                  go_wp2_with fail
                  refine (HRA.out _).mono ?_
                  rintro e w3 ⟨rfl, xw3⟩
                  have Fx_3 : Hid (H3 w3 (w1.heap.size) (.int .i64 x0) (.int .i64 x1) (.int .i64 x2)) := (Fx_2.out).ext xw3
                  have Fs_3 : Hid (H3 w3 (w1.heap.size + 1) (.int .i64 0) (.int .i64 0) (.int .i64 0)) := (Fs_2.out).ext xw3
                  have FP_3 : Hid (P16 w3 wr.heap.size a0 a1 a2 b0 b1 b2 kk m0 m1 m2 m3 m4 m5 m6 m7 m8) := (FP_2.out).ext xw3
                  have E3 : Ext w w3 := Ext.trans (E2) xw3
                  clear xw3 E2 FP_2 Fx_2 Fs_2 cp0 cp1 cp2 cp3 cp4 cp5 cp6 cp7 cp8 cp9 cp10 cp11 cp12 cp13 cp14 cp15 cp16
                  have dp0 := fun p q r => (P16.far3 (p := p) (q := q) (r := r) (g := w1.heap.size + 1) FP_3.out (by omega)).1
                  have dp1 := fun p q r => (P16.far3 (p := p) (q := q) (r := r) (g := w1.heap.size + 1) FP_3.out (by omega)).2.1
                  have dp2 := fun p q r => (P16.far3 (p := p) (q := q) (r := r) (g := w1.heap.size + 1) FP_3.out (by omega)).2.2.1
                  have dp3 := fun p q r => (P16.far3 (p := p) (q := q) (r := r) (g := w1.heap.size + 1) FP_3.out (by omega)).2.2.2.1
                  have dp4 := fun p q r => (P16.far3 (p := p) (q := q) (r := r) (g := w1.heap.size + 1) FP_3.out (by omega)).2.2.2.2.1
                  have dp5 := fun p q r => (P16.far3 (p := p) (q := q) (r := r) (g := w1.heap.size + 1) FP_3.out (by omega)).2.2.2.2.2.1
                  have dp6 := fun p q r => (P16.far3 (p := p) (q := q) (r := r) (g := w1.heap.size + 1) FP_3.out (by omega)).2.2.2.2.2.2.1
                  have dp7 := fun p q r => (P16.far3 (p := p) (q := q) (r := r) (g := w1.heap.size + 1) FP_3.out (by omega)).2.2.2.2.2.2.2.1
                  have dp8 := fun p q r => (P16.far3 (p := p) (q := q) (r := r) (g := w1.heap.size + 1) FP_3.out (by omega)).2.2.2.2.2.2.2.2.1
                  have dp9 := fun p q r => (P16.far3 (p := p) (q := q) (r := r) (g := w1.heap.size + 1) FP_3.out (by omega)).2.2.2.2.2.2.2.2.2.1
                  have dp10 := fun p q r => (P16.far3 (p := p) (q := q) (r := r) (g := w1.heap.size + 1) FP_3.out (by omega)).2.2.2.2.2.2.2.2.2.2.1
                  have dp11 := fun p q r => (P16.far3 (p := p) (q := q) (r := r) (g := w1.heap.size + 1) FP_3.out (by omega)).2.2.2.2.2.2.2.2.2.2.2.1
                  have dp12 := fun p q r => (P16.far3 (p := p) (q := q) (r := r) (g := w1.heap.size + 1) FP_3.out (by omega)).2.2.2.2.2.2.2.2.2.2.2.2.1
                  have dp13 := fun p q r => (P16.far3 (p := p) (q := q) (r := r) (g := w1.heap.size + 1) FP_3.out (by omega)).2.2.2.2.2.2.2.2.2.2.2.2.2.1
                  have dp14 := fun p q r => (P16.far3 (p := p) (q := q) (r := r) (g := w1.heap.size + 1) FP_3.out (by omega)).2.2.2.2.2.2.2.2.2.2.2.2.2.2.1
                  have dp15 := fun p q r => (P16.far3 (p := p) (q := q) (r := r) (g := w1.heap.size + 1) FP_3.out (by omega)).2.2.2.2.2.2.2.2.2.2.2.2.2.2.2.1
                  have dx0 := fun p q r => (H3.far3 (p := p) (q := q) (r := r) (g := w1.heap.size + 1) Fx_3.out (by omega)).1
                  have dx1 := fun p q r => (H3.far3 (p := p) (q := q) (r := r) (g := w1.heap.size + 1) Fx_3.out (by omega)).2.1
                  have dx2 := fun p q r => (H3.far3 (p := p) (q := q) (r := r) (g := w1.heap.size + 1) Fx_3.out (by omega)).2.2.1
                  obtain ⟨cs0, cs1, cs2, cs3, cs4, cs5, cs6⟩ := Fs_3.out
                  go_wp2_with fail
                  refine (HS.out _).mono ?_
                  rintro e w4 ⟨rfl, xw4⟩
                  have Fx_4 : Hid (H3 w4 (w1.heap.size) (.int .i64 x0) (.int .i64 x1) (.int .i64 x2)) := (H3.far3 Fx_3.out (by omega)).ext xw4
                  have Fs_4 : Hid (H3 w4 (w1.heap.size + 1) (.int .i64 x0) (.int .i64 x1) (.int .i64 x2)) := (H3.set3 Fs_3.out _ _ _).ext xw4
                  have FP_4 : Hid (P16 w4 wr.heap.size a0 a1 a2 b0 b1 b2 kk m0 m1 m2 m3 m4 m5 m6 m7 m8) := (P16.far3 FP_3.out (by omega)).ext xw4
                  have E4 : Ext w w4 := Ext.trans (by repeat (first | with_reducible assumption | with_reducible exact Ext.refl _ | with_reducible refine Ext.drew ?_ | with_reducible refine Ext.drewN ?_ _ | with_reducible refine Ext.alloc ?_ _ | with_reducible refine Ext.set ?_ (by first | exact Nat.le_refl _ | (dsimp only; omega) | (simp; done)) _)) xw4
                  clear xw4 E3 FP_3 Fx_3 Fs_3 dp0 dp1 dp2 dp3 dp4 dp5 dp6 dp7 dp8 dp9 dp10 dp11 dp12 dp13 dp14 dp15 dx0 dx1 dx2 cs0 cs1 cs2 cs3 cs4 cs5 cs6
                  try clear SZ
                  try clear LP
                  try clear Lx
                  try clear Ls
                  have SZ : w.heap.size ≤ w4.heap.size := E4.size
                  have LP : wr.heap.size < w4.heap.size := FP_4.out.2.2.2.2.2.2.2.2.2.2.2.2.2.2.2.2
                  have Lx : w1.heap.size < w4.heap.size := Fx_4.out.2.2.2.2.2.2
                  have Ls : w1.heap.size + 1 < w4.heap.size := Fs_4.out.2.2.2.2.2.2
                  have dp0 := fun p0 p1 => (P16.alloc (P16.alloc (FP_4.out) p0) p1).1
                  have dp1 := fun p0 p1 => (P16.alloc (P16.alloc (FP_4.out) p0) p1).2.1
                  have dp2 := fun p0 p1 => (P16.alloc (P16.alloc (FP_4.out) p0) p1).2.2.1
                  have dp3 := fun p0 p1 => (P16.alloc (P16.alloc (FP_4.out) p0) p1).2.2.2.1
                  have dp4 := fun p0 p1 => (P16.alloc (P16.alloc (FP_4.out) p0) p1).2.2.2.2.1
                  have dp5 := fun p0 p1 => (P16.alloc (P16.alloc (FP_4.out) p0) p1).2.2.2.2.2.1
                  have dp6 := fun p0 p1 => (P16.alloc (P16.alloc (FP_4.out) p0) p1).2.2.2.2.2.2.1
                  have dp7 := fun p0 p1 => (P16.alloc (P16.alloc (FP_4.out) p0) p1).2.2.2.2.2.2.2.1
                  have dp8 := fun p0 p1 => (P16.alloc (P16.alloc (FP_4.out) p0) p1).2.2.2.2.2.2.2.2.1
                  have dp9 := fun p0 p1 => (P16.alloc (P16.alloc (FP_4.out) p0) p1).2.2.2.2.2.2.2.2.2.1
                  have dp10 := fun p0 p1 => (P16.alloc (P16.alloc (FP_4.out) p0) p1).2.2.2.2.2.2.2.2.2.2.1
                  have dp11 := fun p0 p1 => (P16.alloc (P16.alloc (FP_4.out) p0) p1).2.2.2.2.2.2.2.2.2.2.2.1
                  have dp12 := fun p0 p1 => (P16.alloc (P16.alloc (FP_4.out) p0) p1).2.2.2.2.2.2.2.2.2.2.2.2.1
                  have dp13 := fun p0 p1 => (P16.alloc (P16.alloc (FP_4.out) p0) p1).2.2.2.2.2.2.2.2.2.2.2.2.2.1
                  have dp14 := fun p0 p1 => (P16.alloc (P16.alloc (FP_4.out) p0) p1).2.2.2.2.2.2.2.2.2.2.2.2.2.2.1
                  have dp15 := fun p0 p1 => (P16.alloc (P16.alloc (FP_4.out) p0) p1).2.2.2.2.2.2.2.2.2.2.2.2.2.2.2.1
                  go_wp2_with fail
                  refine (HMa.out _).mono ?_
                  rintro e w5 ⟨rfl, xw5⟩
                  have Fx_5 : Hid (H3 w5 (w1.heap.size) (.int .i64 x0) (.int .i64 x1) (.int .i64 x2)) := (H3.alloc (H3.alloc (Fx_4.out) _) _).ext xw5
                  have Fs_5 : Hid (H3 w5 (w1.heap.size + 1) (.int .i64 x0) (.int .i64 x1) (.int .i64 x2)) := (H3.alloc (H3.alloc (Fs_4.out) _) _).ext xw5
                  have Fy_5 : Hid (H3 w5 (w4.heap.size) (.int .i64 y0) (.int .i64 y1) (.int .i64 y2)) := (H3.alloc (h3_at rfl) _).ext xw5
                  have Ft_5 : Hid (H3 w5 (w4.heap.size + 1) (.int .i64 0) (.int .i64 0) (.int .i64 0)) := (h3_at (by simp)).ext xw5
                  have FP_5 : Hid (P16 w5 wr.heap.size a0 a1 a2 b0 b1 b2 kk m0 m1 m2 m3 m4 m5 m6 m7 m8) := (P16.alloc (P16.alloc (FP_4.out) _) _).ext xw5
                  have E5 : Ext w w5 := Ext.trans (Ext.alloc (Ext.alloc (E4) _) _) xw5
                  clear xw5 E4 FP_4 Fx_4 Fs_4 dp0 dp1 dp2 dp3 dp4 dp5 dp6 dp7 dp8 dp9 dp10 dp11 dp12 dp13 dp14 dp15
                  obtain ⟨cp0, cp1, cp2, cp3, cp4, cp5, cp6, cp7, cp8, cp9, cp10, cp11, cp12, cp13, cp14, cp15, cp16⟩ := FP_5.out
                  obtain ⟨cx0, cx1, cx2, cx3, cx4, cx5, cx6⟩ := Fx_5.out
                  obtain ⟨cs0, cs1, cs2, cs3, cs4, cs5, cs6⟩ := Fs_5.out
                  go_wp2_with (go_at_call 16; refine (may_any _ _).mono ?_; rintro e wx ⟨rfl, hwx⟩; have hwy := hwx.symm; clear hwx; subst hwy)
                  refine (HRS.out _).mono ?_
                  rintro e w6 ⟨rfl, xw6⟩
                  have Fx_6 : Hid (H3 w6 (w1.heap.size) (.int .i64 x0) (.int .i64 x1) (.int .i64 x2)) := (Fx_5.out).ext xw6
                  have Fs_6 : Hid (H3 w6 (w1.heap.size + 1) (.int .i64 x0) (.int .i64 x1) (.int .i64 x2)) := (Fs_5.out).ext xw6
                  have Fy_6 : Hid (H3 w6 (w4.heap.size) (.int .i64 y0) (.int .i64 y1) (.int .i64 y2)) := (Fy_5.out).ext xw6
                  have Ft_6 : Hid (H3 w6 (w4.heap.size + 1) (.int .i64 0) (.int .i64 0) (.int .i64 0)) := (Ft_5.out).ext xw6
                  have FP_6 : Hid (P16 w6 wr.heap.size a0 a1 a2 b0 b1 b2 kk m0 m1 m2 m3 m4 m5 m6 m7 m8) := (FP_5.out).ext xw6
                  have E6 : Ext w w6 := Ext.trans (E5) xw6
                  clear xw6 E5 FP_5 Fx_5 Fs_5 Fy_5 Ft_5 cp0 cp1 cp2 cp3 cp4 cp5 cp6 cp7 cp8 cp9 cp10 cp11 cp12 cp13 cp14 cp15 cp16 cx0 cx1 cx2 cx3 cx4 cx5 cx6 cs0 cs1 cs2 cs3 cs4 cs5 cs6
                  have dx0 := fun p q r => (H3.far3 (p := p) (q := q) (r := r) (g := w4.heap.size + 1) Fx_6.out (by omega)).1
                  have dx1 := fun p q r => (H3.far3 (p := p) (q := q) (r := r) (g := w4.heap.size + 1) Fx_6.out (by omega)).2.1
                  have dx2 := fun p q r => (H3.far3 (p := p) (q := q) (r := r) (g := w4.heap.size + 1) Fx_6.out (by omega)).2.2.1
                  have ds0 := fun p q r => (H3.far3 (p := p) (q := q) (r := r) (g := w4.heap.size + 1) Fs_6.out (by omega)).1
                  have ds1 := fun p q r => (H3.far3 (p := p) (q := q) (r := r) (g := w4.heap.size + 1) Fs_6.out (by omega)).2.1
                  have ds2 := fun p q r => (H3.far3 (p := p) (q := q) (r := r) (g := w4.heap.size + 1) Fs_6.out (by omega)).2.2.1
                  obtain ⟨ct0, ct1, ct2, ct3, ct4, ct5, ct6⟩ := Ft_6.out
                  go_wp2_with fail
                  refine (HI1.out _).mono ?_
                  rintro e w7 ⟨rfl, xw7⟩
                  have Fx_7 : Hid (H3 w7 (w1.heap.size) (.int .i64 x0) (.int .i64 x1) (.int .i64 x2)) := (H3.far3 Fx_6.out (by omega)).ext xw7
                  have Fs_7 : Hid (H3 w7 (w1.heap.size + 1) (.int .i64 x0) (.int .i64 x1) (.int .i64 x2)) := (H3.far3 Fs_6.out (by omega)).ext xw7
                  have Fy_7 : Hid (H3 w7 (w4.heap.size) (.int .i64 y0) (.int .i64 y1) (.int .i64 y2)) := (H3.far3 Fy_6.out (by omega)).ext xw7
                  have Ft_7 : Hid (H3 w7 (w4.heap.size + 1) (.int .i64 y0) (.int .i64 y1) (.int .i64 y2)) := (H3.set3 Ft_6.out _ _ _).ext xw7
                  have FP_7 : Hid (P16 w7 wr.heap.size a0 a1 a2 b0 b1 b2 kk m0 m1 m2 m3 m4 m5 m6 m7 m8) := (P16.far3 FP_6.out (by omega)).ext xw7
                  have E7 : Ext w w7 := Ext.trans (by repeat (first | with_reducible assumption | with_reducible exact Ext.refl _ | with_reducible refine Ext.drew ?_ | with_reducible refine Ext.drewN ?_ _ | with_reducible refine Ext.alloc ?_ _ | with_reducible refine Ext.set ?_ (by first | exact Nat.le_refl _ | (dsimp only; omega) | (simp; done)) _)) xw7
                  clear xw7 E6 FP_6 Fx_6 Fs_6 Fy_6 Ft_6 dx0 dx1 dx2 ds0 ds1 ds2 ct0 ct1 ct2 ct3 ct4 ct5 ct6
                  obtain ⟨cy0, cy1, cy2, cy3, cy4, cy5, cy6⟩ := Fy_7.out
                  obtain ⟨ct0, ct1, ct2, ct3, ct4, ct5, ct6⟩ := Ft_7.out
                  go_wp2_with fail
                  refine (HI2.out _).mono ?_
                  rintro e w8 ⟨rfl, xw8⟩
                  have Fx_8 : Hid (H3 w8 (w1.heap.size) (.int .i64 x0) (.int .i64 x1) (.int .i64 x2)) := (Fx_7.out).ext xw8
                  have Fs_8 : Hid (H3 w8 (w1.heap.size + 1) (.int .i64 x0) (.int .i64 x1) (.int .i64 x2)) := (Fs_7.out).ext xw8
                  have Fy_8 : Hid (H3 w8 (w4.heap.size) (.int .i64 y0) (.int .i64 y1) (.int .i64 y2)) := (Fy_7.out).ext xw8
                  have Ft_8 : Hid (H3 w8 (w4.heap.size + 1) (.int .i64 y0) (.int .i64 y1) (.int .i64 y2)) := (Ft_7.out).ext xw8
                  have FP_8 : Hid (P16 w8 wr.heap.size a0 a1 a2 b0 b1 b2 kk m0 m1 m2 m3 m4 m5 m6 m7 m8) := (FP_7.out).ext xw8
                  have E8 : Ext w w8 := Ext.trans (E7) xw8
                  clear xw8 E7 FP_7 Fx_7 Fs_7 Fy_7 Ft_7 cy0 cy1 cy2 cy3 cy4 cy5 cy6 ct0 ct1 ct2 ct3 ct4 ct5 ct6
                  go_wp2_with fail
                  go_roundw
                  case rel => exact ⟨k + 1, by omega, by go_num, E8⟩
                  case measure => simp [intOf]; omega
      · go_wp2_with fail
        refine (wakes3_any _).mono ?_
        rintro e w1 ⟨rfl, x1⟩
        go_wp2_with fail
        go_ret
        exact ⟨rfl, hx.trans x1⟩
    · go_wp2_with fail
      refine (wakes3_any _).mono ?_
      rintro e w1 ⟨rfl, x1⟩
      go_wp2_with fail
      go_ret
      exact ⟨rfl, hx.trans x1⟩

set_option maxHeartbeats 1000000 in
set_option maxRecDepth 20000 in
theorem images_none (a : Option Addr) (cap : Nat) (w : World) :
    Calls Try.prog 5 #[.slice a 0 cap] w fun e w' => e = .returned (.bool true) ∧ Ext w w' := by
  go_enter Try.func5, Try.ntmps5
  go_wp2_with fail
  refine wp_loop_rounds 1 ?_
  rw [rounds_succ]
  go_wp2_with fail
  refine (wakes3_any _).mono ?_
  rintro e w1 ⟨rfl, x1⟩
  go_wp2_with fail
  go_ret
  exact ⟨rfl, x1⟩
end Go.Proofs.Ytbmodfhnenlmgaa

namespace Go.Proofs.Ytbmodfhnenlmgaa
open Go.ChangeShapes Go.WideShapes Go.ChangeAt Go.RowKit Go.Deep

set_option maxRecDepth 100000 in
theorem vecImages_lifted (os : Os) (started : os.Started) (H : Type) (enc : TypeId × Value → H) :
    ReturnsInHanded {} Try.checked os 5 .any (Rows.vecImagesSpec.pre6 enc Try.prog Try.f5 Rows.vecImagesRow.domain false) (Rows.vecImagesSpec.post enc Try.prog Try.f5 false true false false) := by
  refine returnsInHanded_of_change (C := Try.checked) Try.own started (by kernel_rfl) Try.func5
    (ChangeSpec.witness6 (enc := enc) (C := Try.checked) false ⟨#[], #[.slice none 0 0], []⟩ 8 (by kernel_rfl) (by kernel_rfl) (by kernel_rfl) (by kernel_rfl)) ?_
  intro W base args ds gs before hval0 hW hcnd _
  have hval : ∀ (j : Nat) t v, Try.f5.params[j]? = some t → args[j]? = some v → Value.okWide Try.prog W .any base t v := hval0
  have hW' := hW
  obtain ⟨p, q, hA0, hV, rfl, hfz, hnd⟩ := hW
  have hA : DataW.TrodAll enc Try.prog W 0 (fun _ => true) true Try.f5.params.toList args.toList ds p := hA0
  rw [Try.params5] at hA hval
  obtain ⟨v0, d0, rfl, rfl, h0⟩ := trodAll_one hA
  obtain ⟨rfl, rfl⟩ := trodVars_none hV
  obtain ⟨a0, len0, cap0, rfl⟩ := okWide_slice Try.underlying22 (hval 0 22 v0 rfl rfl)
  have lt0 : ∀ x ∈ p, x.block < W.heap.size := by obtain ⟨m, hm⟩ := h0; exact DataW.trod_lt m _ _ _ hm
  clear hA0 hval0
  have walk : Calls Try.prog 5 #[.slice a0 len0 cap0] W fun e w' => e = .returned (.bool true) ∧ Ext W w' := by
    rcases open_twos h0 with rfl | ⟨b, off, Z, rfl, hl, hz⟩
    · exact images_none a0 cap0 W
    · exact images_any b off len0 cap0 Z W hl hz
  refine walk.mono fun e W' ⟨he, bel0⟩ => ?_
  have bel : Below W.heap.size W W' := bel0
  subst he
  exact ⟨_, rfl, _, _, _, [], _, [], hW', trodAll_mk1 (shut_bool Try.underlying4 _), trodAll_mk1 (Below.trod Try.laidOut (by kernel_rfl) (of_decide_eq_true (by kernel_rfl)) h0 bel lt0), rfl, bel.frame _, fun h => by cases h⟩

/-- Images of any vectors by any nine words, and multiples, are the nearest words to the exact ones, or refused: for every list of entries VecImages tells true, and changes nothing that was there. -/
theorem vecImages_holds : Rows.VecImagesSaid :=
  OpenClaim.holds_of_wide 5 Try.f5 rfl rfl rfl rfl rfl rfl rfl ⟨rfl, rfl, rfl, rfl, rfl⟩ rfl rfl rfl rfl rfl (by kernel_rfl) Try.func5 (by kernel_rfl)
    (of_decide_eq_true (by kernel_rfl)) (by unfold Func.isWrapper; first | (rw [if_pos (by decide +kernel)]; kernel_rfl) | (rw [if_neg (by decide +kernel)]; exact ⟨rfl, rfl⟩))
    (fun os started H enc _ => vecImages_lifted os started H enc)
#print axioms vecImages_holds
end Go.Proofs.Ytbmodfhnenlmgaa
