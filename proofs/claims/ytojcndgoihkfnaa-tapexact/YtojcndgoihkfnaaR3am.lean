/- The reference of layer 3: three, Add, Neg, Sub, Scale. -/
import Derived.Test.YtojcndgoihkfnaaV6m
import Derived.Test.YtojcndgoihkfnaaMg40
namespace Go.Proofs.Ytojcndgoihkfnaa
open Go.RowKit Go.Shelf

theorem word_fit (z : Int) : wordR z = fitR z := rfl
theorem fit_two (z : Int) : (fitR z).2 = 0 ∧ okW z = true ∧ (fitR z).1 = z ∨ (fitR z).2 = 2 ∧ okW z = false ∧ (fitR z).1 = 0 := by
  cases h : okW z
  · rw [fit_no' h]; exact .inr ⟨rfl, rfl, rfl⟩
  · rw [fit_yes' h]; exact .inl ⟨rfl, rfl, rfl⟩
set_option maxHeartbeats 2000000 in
theorem three_any (z0 z1 z2 : Int) (w : World) :
    Calls Try.prog 42 #[.int .i64 (fitR z0).1, .int .i64 (fitR z0).2, .int .i64 (fitR z1).1, .int .i64 (fitR z1).2, .int .i64 (fitR z2).1, .int .i64 (fitR z2).2] w fun e w' => e = .returned (vres z0 z1 z2) ∧ Ext w w' := by
  rcases fit_two z0 with ⟨e0, k0, f0⟩ | ⟨e0, k0, f0⟩
  · rcases fit_two z1 with ⟨e1, k1, f1⟩ | ⟨e1, k1, f1⟩
    · rcases fit_two z2 with ⟨e2, k2, f2⟩ | ⟨e2, k2, f2⟩
      · have hv : Hid (vres z0 z1 z2 = .tuple #[.agg #[.int .i64 z0, .int .i64 z1, .int .i64 z2], .int .i64 0]) := by show _ = _; unfold vres ok3; rw [k0, k1, k2]; rfl
        rw [e0, e1, e2, f0, f1, f2, hv.out]
        clear e0 e1 e2 f0 f1 f2 k0 k1 k2 hv
        go_enter Try.func42, Try.ntmps42
        go_wp2_with fail
        exact bodyPost_ret (v := .tuple #[.agg #[.int .i64 z0, .int .i64 z1, .int .i64 z2], .int .i64 0]) (by simp [results, Try.results42, go_sem]) rfl ⟨rfl, by repeat (first | with_reducible assumption | with_reducible exact Ext.refl _ | with_reducible refine Ext.drew ?_ | with_reducible refine Ext.drewN ?_ _ | with_reducible refine Ext.alloc ?_ _ | with_reducible refine Ext.set ?_ (by first | exact Nat.le_refl _ | (dsimp only; omega) | (simp; done)) _)⟩
      · have hv : Hid (vres z0 z1 z2 = .tuple #[.agg #[.int .i64 0, .int .i64 0, .int .i64 0], .int .i64 2]) := by show _ = _; unfold vres ok3; rw [k0, k1, k2]; rfl
        rw [e0, e1, e2, f0, f1, f2, hv.out]
        clear e0 e1 e2 f0 f1 f2 k0 k1 k2 hv
        go_enter Try.func42, Try.ntmps42
        go_wp2_with fail
        exact bodyPost_ret (v := .tuple #[.agg #[.int .i64 0, .int .i64 0, .int .i64 0], .int .i64 2]) (by simp [results, Try.results42, go_sem]) rfl ⟨rfl, by repeat (first | with_reducible assumption | with_reducible exact Ext.refl _ | with_reducible refine Ext.drew ?_ | with_reducible refine Ext.drewN ?_ _ | with_reducible refine Ext.alloc ?_ _ | with_reducible refine Ext.set ?_ (by first | exact Nat.le_refl _ | (dsimp only; omega) | (simp; done)) _)⟩
    · have hv : Hid (vres z0 z1 z2 = .tuple #[.agg #[.int .i64 0, .int .i64 0, .int .i64 0], .int .i64 2]) := by show _ = _; unfold vres ok3; rw [k0, k1]; rfl
      rw [e0, e1, f0, f1, hv.out]
      clear e0 e1 f0 f1 k0 k1 hv
      generalize (fitR z2).1 = c1
      generalize (fitR z2).2 = c2
      go_enter Try.func42, Try.ntmps42
      go_wp2_with fail
      exact bodyPost_ret (v := .tuple #[.agg #[.int .i64 0, .int .i64 0, .int .i64 0], .int .i64 2]) (by simp [results, Try.results42, go_sem]) rfl ⟨rfl, by repeat (first | with_reducible assumption | with_reducible exact Ext.refl _ | with_reducible refine Ext.drew ?_ | with_reducible refine Ext.drewN ?_ _ | with_reducible refine Ext.alloc ?_ _ | with_reducible refine Ext.set ?_ (by first | exact Nat.le_refl _ | (dsimp only; omega) | (simp; done)) _)⟩
  · have hv : Hid (vres z0 z1 z2 = .tuple #[.agg #[.int .i64 0, .int .i64 0, .int .i64 0], .int .i64 2]) := by show _ = _; unfold vres ok3; rw [k0]; rfl
    rw [e0, f0, hv.out]
    clear e0 f0 k0 hv
    generalize (fitR z2).1 = c1
    generalize (fitR z2).2 = c2
    generalize (fitR z1).1 = c3
    generalize (fitR z1).2 = c4
    go_enter Try.func42, Try.ntmps42
    go_wp2_with fail
    exact bodyPost_ret (v := .tuple #[.agg #[.int .i64 0, .int .i64 0, .int .i64 0], .int .i64 2]) (by simp [results, Try.results42, go_sem]) rfl ⟨rfl, by repeat (first | with_reducible assumption | with_reducible exact Ext.refl _ | with_reducible refine Ext.drew ?_ | with_reducible refine Ext.drewN ?_ _ | with_reducible refine Ext.alloc ?_ _ | with_reducible refine Ext.set ?_ (by first | exact Nat.le_refl _ | (dsimp only; omega) | (simp; done)) _)⟩
set_option maxHeartbeats 1000000 in
theorem rneg_any (a0 a1 a2 : Int) (w : World) (h : ok3 a0 a1 a2 = true) :
    Calls Try.prog 32 #[.agg #[.int .i64 a0, .int .i64 a1, .int .i64 a2]] w fun e w' => e = .returned (.agg #[.int .i64 (-a0), .int .i64 (-a1), .int .i64 (-a2)]) ∧ Ext w w' := by
  obtain ⟨g0, g1, g2⟩ := ok3_parts h
  have b0 := okW_bounds g0
  have b1 := okW_bounds g1
  have b2 := okW_bounds g2
  obtain ⟨b00, b01⟩ := b0
  obtain ⟨b10, b11⟩ := b1
  obtain ⟨b20, b21⟩ := b2
  clear h g0 g1 g2
  go_enter Try.func32, Try.ntmps32
  go_wp2_with fail
  exact bodyPost_ret (v := .agg #[.int .i64 (-a0), .int .i64 (-a1), .int .i64 (-a2)]) (by simp [results, Try.results32, go_sem]) rfl ⟨rfl, by repeat (first | with_reducible assumption | with_reducible exact Ext.refl _ | with_reducible refine Ext.drew ?_ | with_reducible refine Ext.drewN ?_ _ | with_reducible refine Ext.alloc ?_ _ | with_reducible refine Ext.set ?_ (by first | exact Nat.le_refl _ | (dsimp only; omega) | (simp; done)) _)⟩

set_option maxHeartbeats 4000000 in
theorem radd_raw (a0 a1 a2 b0 b1 b2 z0 z1 z2 : Int) (w : World)
    (C0 : Hid (∀ w', Calls Try.prog 41 #[.int .i64 a0, .int .i64 b0] w' fun e w'' => e = .returned (.tuple #[.int .i64 (fitR z0).1, .int .i64 (fitR z0).2]) ∧ Ext w' w''))
    (C1 : Hid (∀ w', Calls Try.prog 41 #[.int .i64 a1, .int .i64 b1] w' fun e w'' => e = .returned (.tuple #[.int .i64 (fitR z1).1, .int .i64 (fitR z1).2]) ∧ Ext w' w''))
    (C2 : Hid (∀ w', Calls Try.prog 41 #[.int .i64 a2, .int .i64 b2] w' fun e w'' => e = .returned (.tuple #[.int .i64 (fitR z2).1, .int .i64 (fitR z2).2]) ∧ Ext w' w'')) :
    Calls Try.prog 31 #[.agg #[.int .i64 a0, .int .i64 a1, .int .i64 a2], .agg #[.int .i64 b0, .int .i64 b1, .int .i64 b2]] w fun e w' => e = .returned (vres z0 z1 z2) ∧ Ext w w' := by
  have HT : Hid (∀ w', Calls Try.prog 42 #[.int .i64 (fitR z0).1, .int .i64 (fitR z0).2, .int .i64 (fitR z1).1, .int .i64 (fitR z1).2, .int .i64 (fitR z2).1, .int .i64 (fitR z2).2] w' fun e w'' => e = .returned (vres z0 z1 z2) ∧ Ext w' w'') := three_any z0 z1 z2
  obtain ⟨x, y, z, e, hr⟩ := vres_shape z0 z1 z2
  rw [hr] at HT ⊢
  clear hr
  generalize (fitR z0).1 = o0 at *
  generalize (fitR z0).2 = c0 at *
  generalize (fitR z1).1 = o1 at *
  generalize (fitR z1).2 = c1 at *
  generalize (fitR z2).1 = o2 at *
  generalize (fitR z2).2 = c2 at *
  go_enter Try.func31, Try.ntmps31
  go_wp2_with fail
  refine (C0.out _).mono ?_
  rintro e1 w1 ⟨rfl, x1⟩
  have E1 : Ext w w1 := Ext.trans (Ext.alloc (Ext.alloc (Ext.alloc (Ext.refl _) _) _) _) x1
  have F0_1 : Hid (H3 w1 (w.heap.size) (.int .i64 a0) (.int .i64 a1) (.int .i64 a2)) := (H3.alloc (H3.alloc (h3_at rfl) _) _).ext x1
  obtain ⟨q00, q01, q02, q03, q04, q05, q06⟩ := F0_1.out
  have F1_1 : Hid (H3 w1 (w.heap.size + 1) (.int .i64 b0) (.int .i64 b1) (.int .i64 b2)) := (H3.alloc (h3_at (by simp)) _).ext x1
  obtain ⟨q10, q11, q12, q13, q14, q15, q16⟩ := F1_1.out
  have F2_1 : Hid (H3 w1 (w.heap.size + 1 + 1) (.int .i64 0) (.int .i64 0) (.int .i64 0)) := (h3_at (by simp)).ext x1
  obtain ⟨q20, q21, q22, q23, q24, q25, q26⟩ := F2_1.out
  go_wp2_with fail
  refine (C1.out _).mono ?_
  rintro e2 w2 ⟨rfl, x2⟩
  have E2 : Ext w w2 := Ext.trans (E1) x2
  have F0_2 : Hid (H3 w2 (w.heap.size) (.int .i64 a0) (.int .i64 a1) (.int .i64 a2)) := (F0_1.out).ext x2
  obtain ⟨q00, q01, q02, q03, q04, q05, q06⟩ := F0_2.out
  have F1_2 : Hid (H3 w2 (w.heap.size + 1) (.int .i64 b0) (.int .i64 b1) (.int .i64 b2)) := (F1_1.out).ext x2
  obtain ⟨q10, q11, q12, q13, q14, q15, q16⟩ := F1_2.out
  have F2_2 : Hid (H3 w2 (w.heap.size + 1 + 1) (.int .i64 0) (.int .i64 0) (.int .i64 0)) := (F2_1.out).ext x2
  obtain ⟨q20, q21, q22, q23, q24, q25, q26⟩ := F2_2.out
  go_wp2_with fail
  refine (C2.out _).mono ?_
  rintro e3 w3 ⟨rfl, x3⟩
  have E3 : Ext w w3 := Ext.trans (E2) x3
  have F0_3 : Hid (H3 w3 (w.heap.size) (.int .i64 a0) (.int .i64 a1) (.int .i64 a2)) := (F0_2.out).ext x3
  obtain ⟨q00, q01, q02, q03, q04, q05, q06⟩ := F0_3.out
  have F1_3 : Hid (H3 w3 (w.heap.size + 1) (.int .i64 b0) (.int .i64 b1) (.int .i64 b2)) := (F1_2.out).ext x3
  obtain ⟨q10, q11, q12, q13, q14, q15, q16⟩ := F1_3.out
  have F2_3 : Hid (H3 w3 (w.heap.size + 1 + 1) (.int .i64 0) (.int .i64 0) (.int .i64 0)) := (F2_2.out).ext x3
  obtain ⟨q20, q21, q22, q23, q24, q25, q26⟩ := F2_3.out
  go_wp2_with fail
  refine (HT.out _).mono ?_
  rintro e4 w4 ⟨rfl, x4⟩
  have E4 : Ext w w4 := Ext.trans (E3) x4
  have F0_4 : Hid (H3 w4 (w.heap.size) (.int .i64 a0) (.int .i64 a1) (.int .i64 a2)) := (F0_3.out).ext x4
  obtain ⟨q00, q01, q02, q03, q04, q05, q06⟩ := F0_4.out
  have F1_4 : Hid (H3 w4 (w.heap.size + 1) (.int .i64 b0) (.int .i64 b1) (.int .i64 b2)) := (F1_3.out).ext x4
  obtain ⟨q10, q11, q12, q13, q14, q15, q16⟩ := F1_4.out
  have F2_4 : Hid (H3 w4 (w.heap.size + 1 + 1) (.int .i64 0) (.int .i64 0) (.int .i64 0)) := (F2_3.out).ext x4
  obtain ⟨q20, q21, q22, q23, q24, q25, q26⟩ := F2_4.out
  go_wp2_with fail
  exact bodyPost_ret (v := .tuple #[.agg #[.int .i64 x, .int .i64 y, .int .i64 z], .int .i64 e]) (by simp [results, Try.results31, go_sem, q20, q21, q22]) rfl ⟨rfl, by repeat (first | with_reducible assumption | with_reducible exact Ext.refl _ | with_reducible refine Ext.drew ?_ | with_reducible refine Ext.drewN ?_ _ | with_reducible refine Ext.alloc ?_ _ | with_reducible refine Ext.set ?_ (by first | exact Nat.le_refl _ | (dsimp only; omega) | (simp; done)) _)⟩

theorem radd_any (a0 a1 a2 b0 b1 b2 : Int) (w : World) (h1 : ok3 a0 a1 a2 = true) (h2 : ok3 b0 b1 b2 = true) :
    Calls Try.prog 31 #[.agg #[.int .i64 a0, .int .i64 a1, .int .i64 a2], .agg #[.int .i64 b0, .int .i64 b1, .int .i64 b2]] w fun e w' => e = .returned (vres (a0 + b0) (a1 + b1) (a2 + b2)) ∧ Ext w w' := by
  obtain ⟨g0, g1, g2⟩ := ok3_parts h1
  obtain ⟨k0, k1, k2⟩ := ok3_parts h2
  exact radd_raw a0 a1 a2 b0 b1 b2 _ _ _ w (fun w' => refadd_any a0 b0 w' (word64 g0).1 (word64 g0).2 (word64 k0).1 (word64 k0).2) (fun w' => refadd_any a1 b1 w' (word64 g1).1 (word64 g1).2 (word64 k1).1 (word64 k1).2) (fun w' => refadd_any a2 b2 w' (word64 g2).1 (word64 g2).2 (word64 k2).1 (word64 k2).2)
set_option maxHeartbeats 4000000 in
theorem rsub_raw (a0 a1 a2 b0 b1 b2 n0 n1 n2 x y z e : Int) (w : World)
    (HN : Hid (∀ w', Calls Try.prog 32 #[.agg #[.int .i64 b0, .int .i64 b1, .int .i64 b2]] w' fun e' w'' => e' = .returned (.agg #[.int .i64 n0, .int .i64 n1, .int .i64 n2]) ∧ Ext w' w''))
    (HP : Hid (∀ w', Calls Try.prog 31 #[.agg #[.int .i64 a0, .int .i64 a1, .int .i64 a2], .agg #[.int .i64 n0, .int .i64 n1, .int .i64 n2]] w' fun e' w'' => e' = .returned (.tuple #[.agg #[.int .i64 x, .int .i64 y, .int .i64 z], .int .i64 e]) ∧ Ext w' w'')) :
    Calls Try.prog 24 #[.agg #[.int .i64 a0, .int .i64 a1, .int .i64 a2], .agg #[.int .i64 b0, .int .i64 b1, .int .i64 b2]] w fun e' w' => e' = .returned (.tuple #[.agg #[.int .i64 x, .int .i64 y, .int .i64 z], .int .i64 e]) ∧ Ext w w' := by
  have PB : Hid (H3 (((w.alloc (.cells #[.int .i64 a0, .int .i64 a1, .int .i64 a2] 24)).alloc (.cells #[.int .i64 b0, .int .i64 b1, .int .i64 b2] 24)).alloc (.cells #[.int .i64 0, .int .i64 0, .int .i64 0] 24)).drew w.heap.size (.int .i64 a0) (.int .i64 a1) (.int .i64 a2)) := H3.drew (H3.alloc (H3.alloc (h3_at rfl) _) _)
  have RB : Hid (H3 (((w.alloc (.cells #[.int .i64 a0, .int .i64 a1, .int .i64 a2] 24)).alloc (.cells #[.int .i64 b0, .int .i64 b1, .int .i64 b2] 24)).alloc (.cells #[.int .i64 0, .int .i64 0, .int .i64 0] 24)).drew (w.heap.size + 1 + 1) (.int .i64 0) (.int .i64 0) (.int .i64 0)) := H3.drew (h3_at (by simp))
  have y0 : Ext (((w.alloc (.cells #[.int .i64 a0, .int .i64 a1, .int .i64 a2] 24)).alloc (.cells #[.int .i64 b0, .int .i64 b1, .int .i64 b2] 24)).alloc (.cells #[.int .i64 0, .int .i64 0, .int .i64 0] 24)).drew (((w.alloc (.cells #[.int .i64 a0, .int .i64 a1, .int .i64 a2] 24)).alloc (.cells #[.int .i64 b0, .int .i64 b1, .int .i64 b2] 24)).alloc (.cells #[.int .i64 0, .int .i64 0, .int .i64 0] 24)).drew := Ext.refl _
  have E0 : Ext w (((w.alloc (.cells #[.int .i64 a0, .int .i64 a1, .int .i64 a2] 24)).alloc (.cells #[.int .i64 b0, .int .i64 b1, .int .i64 b2] 24)).alloc (.cells #[.int .i64 0, .int .i64 0, .int .i64 0] 24)).drew := ((((Ext.refl _).alloc _).alloc _).alloc _).drew
  go_enter Try.func24, Try.ntmps24
  go_wp2_with fail
  go_region_with (first | (go_at_call 32; refine (HN.out _).mono ?_; rintro e wN ⟨rfl, xN⟩; have yN : Ext (((w.alloc (.cells #[.int .i64 a0, .int .i64 a1, .int .i64 a2] 24)).alloc (.cells #[.int .i64 b0, .int .i64 b1, .int .i64 b2] 24)).alloc (.cells #[.int .i64 0, .int .i64 0, .int .i64 0] 24)).drew wN := Ext.trans (by with_reducible assumption) xN; obtain ⟨p0, p1, p2, p3, p4, p5, p6⟩ := PB.out.ext yN; obtain ⟨m0, m1, m2, m3, m4, m5, m6⟩ := RB.out.ext yN) | (go_at_call 31; refine (HP.out _).mono ?_; rintro e wP ⟨rfl, xP⟩; have yP : Ext (((w.alloc (.cells #[.int .i64 a0, .int .i64 a1, .int .i64 a2] 24)).alloc (.cells #[.int .i64 b0, .int .i64 b1, .int .i64 b2] 24)).alloc (.cells #[.int .i64 0, .int .i64 0, .int .i64 0] 24)).drew wP := Ext.trans (by with_reducible assumption) xP; obtain ⟨p0, p1, p2, p3, p4, p5, p6⟩ := PB.out.ext yP; obtain ⟨m0, m1, m2, m3, m4, m5, m6⟩ := RB.out.ext yP))
  all_goals
    have E8 : Ext w wP := E0.trans yP
    clear y0 E0 yP
    go_wp2_with fail
    exact bodyPost_ret (v := .tuple #[.agg #[.int .i64 x, .int .i64 y, .int .i64 z], .int .i64 e]) (by simp [results, Try.results24, go_sem, m0, m1, m2]) rfl ⟨rfl, by repeat (first | with_reducible assumption | with_reducible exact Ext.refl _ | with_reducible refine Ext.drew ?_ | with_reducible refine Ext.drewN ?_ _ | with_reducible refine Ext.alloc ?_ _ | with_reducible refine Ext.set ?_ (by first | exact Nat.le_refl _ | (dsimp only; omega) | (simp; done)) _)⟩
theorem ok3_negs {a b c : Int} (h : ok3 a b c = true) : ok3 (-a) (-b) (-c) = true := by
  obtain ⟨h0, h1, h2⟩ := ok3_parts h
  have n : ∀ b, okW b = true → okW (-b) = true := fun b h => by have := okW_bounds h; unfold okW; simp; omega
  unfold ok3; rw [n _ h0, n _ h1, n _ h2]; rfl
theorem rsub_any (a0 a1 a2 b0 b1 b2 : Int) (w : World) (h1 : ok3 a0 a1 a2 = true) (h2 : ok3 b0 b1 b2 = true) :
    Calls Try.prog 24 #[.agg #[.int .i64 a0, .int .i64 a1, .int .i64 a2], .agg #[.int .i64 b0, .int .i64 b1, .int .i64 b2]] w fun e w' => e = .returned (vres (a0 - b0) (a1 - b1) (a2 - b2)) ∧ Ext w w' := by
  have hp := fun w' => radd_any a0 a1 a2 (-b0) (-b1) (-b2) w' h1 (ok3_negs h2)
  rw [← Int.sub_eq_add_neg, ← Int.sub_eq_add_neg, ← Int.sub_eq_add_neg] at hp
  obtain ⟨x, y, z, e, hr⟩ := vres_shape (a0 - b0) (a1 - b1) (a2 - b2)
  rw [hr] at hp ⊢
  exact rsub_raw a0 a1 a2 b0 b1 b2 _ _ _ x y z e w (fun w' => rneg_any b0 b1 b2 w' h2) hp
end Go.Proofs.Ytojcndgoihkfnaa
