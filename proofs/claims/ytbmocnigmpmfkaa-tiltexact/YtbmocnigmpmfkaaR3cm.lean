/- The reference of layer 3: dot, Dot, Apply. -/
import Derived.Test.YtbmocnigmpmfkaaMg48
import Derived.Test.YtbmocnigmpmfkaaV9m
import Derived.Deep.RegionHeld
namespace Go.Proofs.Ytbmocnigmpmfkaa
open Go.RowKit Go.Shelf

set_option maxHeartbeats 8000000 in
theorem rdot_raw (a0 a1 a2 b0 b1 b2 p q s t D : Int) (w : World)
    (P0 : Hid (∀ w', Calls Try.prog 39 #[.int .i64 a0, .int .i64 b0] w' fun e w'' => (∃ r, e = .returned r ∧ IsI w'' r p) ∧ Ext w' w''))
    (P1 : Hid (∀ w', Calls Try.prog 39 #[.int .i64 a1, .int .i64 b1] w' fun e w'' => (∃ r, e = .returned r ∧ IsI w'' r q) ∧ Ext w' w''))
    (P2 : Hid (∀ w', Calls Try.prog 39 #[.int .i64 a2, .int .i64 b2] w' fun e w'' => (∃ r, e = .returned r ∧ IsI w'' r s) ∧ Ext w' w''))
    (L1 : Hid (∀ r1 r2 w', IsI w' r1 p → IsI w' r2 q → Calls Try.prog 38 #[r1, r2] w' fun e w'' => (∃ r, e = .returned r ∧ IsI w'' r t) ∧ Ext w' w''))
    (L2 : Hid (∀ r1 r2 w', IsI w' r1 t → IsI w' r2 s → Calls Try.prog 38 #[r1, r2] w' fun e w'' => (∃ r, e = .returned r ∧ IsI w'' r D) ∧ Ext w' w'')) :
    Calls Try.prog 29 #[.agg #[.int .i64 a0, .int .i64 a1, .int .i64 a2], .agg #[.int .i64 b0, .int .i64 b1, .int .i64 b2]] w fun e w' => (∃ r, e = .returned r ∧ IsI w' r D) ∧ Ext w w' := by
  have PB : Hid (H3 (((w.alloc (.cells #[.int .i64 a0, .int .i64 a1, .int .i64 a2] 24)).alloc (.cells #[.int .i64 b0, .int .i64 b1, .int .i64 b2] 24)).alloc (.cells #[.bool false, .slice none 0 0] 63)).drew w.heap.size (.int .i64 a0) (.int .i64 a1) (.int .i64 a2)) := H3.drew (H3.alloc (H3.alloc (h3_at rfl) _) _)
  have NB : Hid (H3 (((w.alloc (.cells #[.int .i64 a0, .int .i64 a1, .int .i64 a2] 24)).alloc (.cells #[.int .i64 b0, .int .i64 b1, .int .i64 b2] 24)).alloc (.cells #[.bool false, .slice none 0 0] 63)).drew (w.heap.size + 1) (.int .i64 b0) (.int .i64 b1) (.int .i64 b2)) := H3.drew (H3.alloc (h3_at (by simp)) _)
  have RB : Hid (Has (((w.alloc (.cells #[.int .i64 a0, .int .i64 a1, .int .i64 a2] 24)).alloc (.cells #[.int .i64 b0, .int .i64 b1, .int .i64 b2] 24)).alloc (.cells #[.bool false, .slice none 0 0] 63)).drew (w.heap.size + 1 + 1) (.bool false) (.slice none 0 0)) := by
    have h : Has (((w.alloc (.cells #[.int .i64 a0, .int .i64 a1, .int .i64 a2] 24)).alloc (.cells #[.int .i64 b0, .int .i64 b1, .int .i64 b2] 24)).alloc (.cells #[.bool false, .slice none 0 0] 63)) _ _ _ := ext_new1 (Ext.refl _)
    have h2 := h.ext (Ext.refl _).drew
    rw [World.size_alloc, World.size_alloc] at h2
    exact h2
  have E0 : Ext w (((w.alloc (.cells #[.int .i64 a0, .int .i64 a1, .int .i64 a2] 24)).alloc (.cells #[.int .i64 b0, .int .i64 b1, .int .i64 b2] 24)).alloc (.cells #[.bool false, .slice none 0 0] 63)).drew := ((((Ext.refl _).alloc _).alloc _).alloc _).drew
  have ne1 : w.heap.size ≠ w.heap.size + 1 + 1 := by omega
  have ne2 : w.heap.size + 1 ≠ w.heap.size + 1 + 1 := by omega
  go_enter Try.func29, Try.ntmps29
  go_wp2_with fail
  go_region_held (fun w' => w'.cell? ⟨w.heap.size, 0, none⟩ = some (.int .i64 a0) ∧ w'.cell? ⟨w.heap.size, 1, none⟩ = some (.int .i64 a1) ∧ w'.cell? ⟨w.heap.size, 2, none⟩ = some (.int .i64 a2) ∧ w'.cell? ⟨w.heap.size + 1, 0, none⟩ = some (.int .i64 b0) ∧ w'.cell? ⟨w.heap.size + 1, 1, none⟩ = some (.int .i64 b1) ∧ w'.cell? ⟨w.heap.size + 1, 2, none⟩ = some (.int .i64 b2)) (first | (go_keep; done) | (simp only [far2 _ _ _ _ _ ne1, far2 _ _ _ _ _ ne2]; exact ⟨by assumption, by assumption, by assumption, by assumption, by assumption, by assumption⟩)) (first | (go_at_call_of 39 (Value.int IntKind.i64 a0); refine (P0.out _).mono ?_; rintro e wA ⟨⟨rA, rfl, hA⟩, xA⟩; have yA : Ext (((w.alloc (.cells #[.int .i64 a0, .int .i64 a1, .int .i64 a2] 24)).alloc (.cells #[.int .i64 b0, .int .i64 b1, .int .i64 b2] 24)).alloc (.cells #[.bool false, .slice none 0 0] 63)).drew wA := Ext.trans (Ext.refl _) xA; obtain ⟨p0, p1, p2, p3, p4, p5, p6⟩ := PB.out.ext yA; obtain ⟨n0, n1, n2, n3, n4, n5, n6⟩ := NB.out.ext yA; obtain ⟨m0, m1, m2, m3⟩ := RB.out.ext yA) | (go_at_call_of 39 (Value.int IntKind.i64 a1); refine (P1.out _).mono ?_; rintro e wB ⟨⟨rB, rfl, hB⟩, xB⟩; have yB : Ext (((w.alloc (.cells #[.int .i64 a0, .int .i64 a1, .int .i64 a2] 24)).alloc (.cells #[.int .i64 b0, .int .i64 b1, .int .i64 b2] 24)).alloc (.cells #[.bool false, .slice none 0 0] 63)).drew wB := Ext.trans yA xB; obtain ⟨p0, p1, p2, p3, p4, p5, p6⟩ := PB.out.ext yB; obtain ⟨n0, n1, n2, n3, n4, n5, n6⟩ := NB.out.ext yB; obtain ⟨m0, m1, m2, m3⟩ := RB.out.ext yB) | (go_at_call_of 38 rA; refine (L1.out _ _ _ (hA.ext xB) hB).mono ?_; rintro e wC ⟨⟨rC, rfl, hC⟩, xC⟩; have yC : Ext (((w.alloc (.cells #[.int .i64 a0, .int .i64 a1, .int .i64 a2] 24)).alloc (.cells #[.int .i64 b0, .int .i64 b1, .int .i64 b2] 24)).alloc (.cells #[.bool false, .slice none 0 0] 63)).drew wC := Ext.trans yB xC; obtain ⟨p0, p1, p2, p3, p4, p5, p6⟩ := PB.out.ext yC; obtain ⟨n0, n1, n2, n3, n4, n5, n6⟩ := NB.out.ext yC; obtain ⟨m0, m1, m2, m3⟩ := RB.out.ext yC) | (go_at_call_of 39 (Value.int IntKind.i64 a2); refine (P2.out _).mono ?_; rintro e wD ⟨⟨rD, rfl, hD⟩, xD⟩; have yD : Ext (((w.alloc (.cells #[.int .i64 a0, .int .i64 a1, .int .i64 a2] 24)).alloc (.cells #[.int .i64 b0, .int .i64 b1, .int .i64 b2] 24)).alloc (.cells #[.bool false, .slice none 0 0] 63)).drew wD := Ext.trans yC xD; obtain ⟨p0, p1, p2, p3, p4, p5, p6⟩ := PB.out.ext yD; obtain ⟨n0, n1, n2, n3, n4, n5, n6⟩ := NB.out.ext yD; obtain ⟨m0, m1, m2, m3⟩ := RB.out.ext yD) | (go_at_call_of 38 rC; refine (L2.out _ _ _ (hC.ext xD) hD).mono ?_; rintro e wE ⟨⟨rE, rfl, hE⟩, xE⟩; have yE : Ext (((w.alloc (.cells #[.int .i64 a0, .int .i64 a1, .int .i64 a2] 24)).alloc (.cells #[.int .i64 b0, .int .i64 b1, .int .i64 b2] 24)).alloc (.cells #[.bool false, .slice none 0 0] 63)).drew wE := Ext.trans yD xE; obtain ⟨p0, p1, p2, p3, p4, p5, p6⟩ := PB.out.ext yE; obtain ⟨n0, n1, n2, n3, n4, n5, n6⟩ := NB.out.ext yE; obtain ⟨m0, m1, m2, m3⟩ := RB.out.ext yE; obtain ⟨u, hu, hk⟩ := hE; obtain ⟨au, lu, cu, hau⟩ := hk.isSlice; subst hau; subst hu; have HI : Hid (IsI wE (.agg #[.bool (decide (D < 0)), .slice au lu cu]) D) := ⟨_, rfl, hk⟩; clear hk))
  all_goals
    have X3 : Hid (Ext w wE) := E0.trans yE
    clear E0 yA yB yC yD yE xA xB xC xD xE hA hB hC hD
    go_wp2_with fail
    exact bodyPost_ret (v := .agg #[.bool (decide (D < 0)), .slice au lu cu]) (by simp [results, Try.results29, go_sem, m0, m1]) rfl ⟨⟨_, rfl, HI.out.set2 m0 m1⟩, by have SZ := X3.out.size; exact (X3.out.set (by dsimp only; omega) _).set (by dsimp only; omega) _⟩

theorem rdot_any (a0 a1 a2 b0 b1 b2 : Int) (w : World) (h1 : ok3 a0 a1 a2 = true) (h2 : ok3 b0 b1 b2 = true) :
    Calls Try.prog 29 #[.agg #[.int .i64 a0, .int .i64 a1, .int .i64 a2], .agg #[.int .i64 b0, .int .i64 b1, .int .i64 b2]] w fun e w' => (∃ r, e = .returned r ∧ IsI w' r (dot3 a0 a1 a2 b0 b1 b2)) ∧ Ext w w' := by
  obtain ⟨g0, g1, g2⟩ := ok3_parts h1
  obtain ⟨k0, k1, k2⟩ := ok3_parts h2
  have q0 := prod_abs g0 k0
  have q1 := prod_abs g1 k1
  have q2 := prod_abs g2 k2
  have e : (2 : Nat) ^ 200 = 1606938044258990275541962092341162602522202993782792835301376 := by decide
  have f0 : Fit 200 (a0 * b0) := by unfold Fit; omega
  have f1 : Fit 200 (a1 * b1) := by unfold Fit; omega
  have f2 : Fit 200 (a2 * b2) := by unfold Fit; omega
  have f3 : Fit 200 (a0 * b0 + a1 * b1) := by unfold Fit; omega
  have f4 : Fit 200 (a0 * b0 + a1 * b1 + a2 * b2) := by unfold Fit; omega
  exact rdot_raw a0 a1 a2 b0 b1 b2 _ _ _ _ _ w (fun w' => prod_any a0 b0 w' (word64 g0).1 (word64 g0).2 (word64 k0).1 (word64 k0).2) (fun w' => prod_any a1 b1 w' (word64 g1).1 (word64 g1).2 (word64 k1).1 (word64 k1).2) (fun w' => prod_any a2 b2 w' (word64 g2).1 (word64 g2).2 (word64 k2).1 (word64 k2).2) (fun r1 r2 w' i1 i2 => plus_isI _ _ r1 r2 w' i1 i2 (f0.small (by omega)) (f1.small (by omega)) (f3.small (by omega))) (fun r1 r2 w' i1 i2 => plus_isI _ _ r1 r2 w' i1 i2 (f3.small (by omega)) (f2.small (by omega)) (f4.small (by omega)))
theorem dot_fit {a0 a1 a2 b0 b1 b2 : Int} (h1 : ok3 a0 a1 a2 = true) (h2 : ok3 b0 b1 b2 = true) : Fit 200 (dot3 a0 a1 a2 b0 b1 b2) := by
  obtain ⟨g0, g1, g2⟩ := ok3_parts h1
  obtain ⟨k0, k1, k2⟩ := ok3_parts h2
  have q0 := prod_abs g0 k0
  have q1 := prod_abs g1 k1
  have q2 := prod_abs g2 k2
  have e : (2 : Nat) ^ 200 = 1606938044258990275541962092341162602522202993782792835301376 := by decide
  unfold Fit dot3; omega
set_option maxHeartbeats 2000000 in
theorem rDot_any (a0 a1 a2 b0 b1 b2 : Int) (w : World) (h1 : ok3 a0 a1 a2 = true) (h2 : ok3 b0 b1 b2 = true) :
    Calls Try.prog 23 #[.agg #[.int .i64 a0, .int .i64 a1, .int .i64 a2], .agg #[.int .i64 b0, .int .i64 b1, .int .i64 b2]] w fun e w' => e = .returned (.tuple #[.int .i64 (fitR (nearQ (dot3 a0 a1 a2 b0 b1 b2))).1, .int .i64 (fitR (nearQ (dot3 a0 a1 a2 b0 b1 b2))).2]) ∧ Ext w w' := by
  have HD : Hid (∀ w', Calls Try.prog 29 #[.agg #[.int .i64 a0, .int .i64 a1, .int .i64 a2], .agg #[.int .i64 b0, .int .i64 b1, .int .i64 b2]] w' fun e w'' => (∃ r, e = .returned r ∧ IsI w'' r (dot3 a0 a1 a2 b0 b1 b2)) ∧ Ext w' w'') := fun w' => rdot_any a0 a1 a2 b0 b1 b2 w' h1 h2
  have HN : Hid (∀ r w', IsI w' r (dot3 a0 a1 a2 b0 b1 b2) → Calls Try.prog 28 #[r] w' fun e w'' => e = .returned (.tuple #[.int .i64 (fitR (nearQ (dot3 a0 a1 a2 b0 b1 b2))).1, .int .i64 (fitR (nearQ (dot3 a0 a1 a2 b0 b1 b2))).2]) ∧ Ext w' w'') := fun r w' hr => nearQ_word _ r w' hr (dot_fit h1 h2)
  clear h1 h2
  generalize dot3 a0 a1 a2 b0 b1 b2 = D at *
  generalize (fitR (nearQ D)).1 = o1 at *
  generalize (fitR (nearQ D)).2 = o2 at *
  go_enter Try.func23, Try.ntmps23
  go_wp2_with fail
  refine (HD.out _).mono ?_
  rintro e w1 ⟨⟨u1, rfl, hu1⟩, x1⟩
  go_wp2_with fail
  refine (HN.out _ _ hu1).mono ?_
  rintro e w2 ⟨rfl, x2⟩
  go_wp2_with fail
  go_ret2
  exact ⟨rfl, (Ext.trans (((Ext.refl _).alloc _).alloc _) x1).trans x2⟩

end Go.Proofs.Ytbmocnigmpmfkaa
