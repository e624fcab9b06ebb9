/- vec: Add, Sub, Neg, Scale. -/
import Derived.Test.YtlfpiefnknpagaaV5
import Derived.Test.YtlfpiefnknpagaaV4
import Derived.Test.YtlfpiefnknpagaaFaces
namespace Go.Proofs.Ytlfpiefnknpagaa
open Go.RowKit Go.Shelf

/-- a vector of whole numbers as words, or refused -/
def vres (s0 s1 s2 : Int) : Value := if ok3 s0 s1 s2 then .tuple #[.agg #[.int .i64 s0, .int .i64 s1, .int .i64 s2], .int .i64 0] else .tuple #[.agg #[.int .i64 0, .int .i64 0, .int .i64 0], .int .i64 2]
def vbad : Value := .tuple #[.agg #[.int .i64 0, .int .i64 0, .int .i64 0], .int .i64 1]
theorem fit_yes' {s : Int} (h : okW s = true) : fitR s = (s, 0) := by unfold fitR; rw [if_pos h]
theorem fit_no' {s : Int} (h : okW s = false) : fitR s = (0, 2) := by unfold fitR; rw [h]; rfl
theorem thr_fit (s0 s1 s2 : Int) : thr (fitR s0).1 (fitR s0).2 (fitR s1).1 (fitR s1).2 (fitR s2).1 (fitR s2).2 = vres s0 s1 s2 := by
  unfold vres ok3 thr
  cases h0 : okW s0
  · rw [fit_no' h0]; rfl
  · rw [fit_yes' h0]
    cases h1 : okW s1
    · rw [fit_no' h1]; rfl
    · rw [fit_yes' h1]
      cases h2 : okW s2
      · rw [fit_no' h2]; rfl
      · rw [fit_yes' h2]; rfl
theorem vres_shape (s0 s1 s2 : Int) : ∃ x y z e : Int, vres s0 s1 s2 = .tuple #[.agg #[.int .i64 x, .int .i64 y, .int .i64 z], .int .i64 e] := by
  unfold vres; split <;> exact ⟨_, _, _, _, rfl⟩
theorem ok3_parts {a b c : Int} (h : ok3 a b c = true) : okW a = true ∧ okW b = true ∧ okW c = true := by
  unfold ok3 at h; simp only [Bool.and_eq_true] at h; exact ⟨h.1, h.2.1, h.2.2⟩

theorem addw (a b : Int) (h1 : okW a = true) (h2 : okW b = true) (w : World) : Calls Try.prog 24 #[.int .i64 a, .int .i64 b] w fun e w' => e = .returned (.tuple #[.int .i64 (fitR (a + b)).1, .int .i64 (fitR (a + b)).2]) ∧ Ext w w' := by
  have h := add_any a b w
  have e : addR a b = fitR (a + b) := by unfold addR sumV; rw [if_pos (by rw [h1, h2]; rfl)]
  rw [e] at h; exact h
theorem subw (a b : Int) (h1 : okW a = true) (h2 : okW b = true) (w : World) : Calls Try.prog 23 #[.int .i64 a, .int .i64 b] w fun e w' => e = .returned (.tuple #[.int .i64 (fitR (a - b)).1, .int .i64 (fitR (a - b)).2]) ∧ Ext w w' := by
  have h := sub_any a b w
  have e : subR a b = fitR (a - b) := by unfold subR diffV; rw [if_pos (by rw [h1, h2]; rfl)]
  rw [e] at h; exact h
theorem mulw (a b : Int) (h1 : okW a = true) (h2 : okW b = true) (w : World) : Calls Try.prog 22 #[.int .i64 a, .int .i64 b] w fun e w' => e = .returned (.tuple #[.int .i64 (fitR (nearQ (a * b))).1, .int .i64 (fitR (nearQ (a * b))).2]) ∧ Ext w w' := by
  have h := mul_any a b w
  have e : mulR a b = fitR (nearQ (a * b)) := by
    unfold mulR prodV
    rw [if_pos (by rw [h1, h2]; rfl), share_word a b 1073741824 (nearQ (a * b)) (by omega) (by unfold over; rw [if_neg (by omega)]; exact nearQ_spec _)]
    rfl
  rw [e] at h; exact h

set_option maxHeartbeats 4000000 in
theorem faceAdd_raw (a0 a1 a2 b0 b1 b2 x y z e : Int) (w : World)
    (HP : Hid (∀ w', Calls Try.prog 20 #[.agg #[.int .i64 a0, .int .i64 a1, .int .i64 a2], .agg #[.int .i64 b0, .int .i64 b1, .int .i64 b2], .func (.func 24) #[] #[]] w' fun e' w'' => e' = .returned (.tuple #[.agg #[.int .i64 x, .int .i64 y, .int .i64 z], .int .i64 e]) ∧ Ext w' w'')) :
    Calls Try.prog 11 #[.agg #[.int .i64 a0, .int .i64 a1, .int .i64 a2], .agg #[.int .i64 b0, .int .i64 b1, .int .i64 b2]] w fun e' w' => e' = .returned (.tuple #[.agg #[.int .i64 x, .int .i64 y, .int .i64 z], .int .i64 e]) ∧ Ext w w' := by
  have HA : Hid (∀ w', Calls Try.prog 21 #[.agg #[.int .i64 a0, .int .i64 a1, .int .i64 a2]] w' fun e w'' => e = .returned (.agg #[.int .i64 a0, .int .i64 a1, .int .i64 a2]) ∧ Ext w' w'') := fun w' => of_any a0 a1 a2 w'
  have HB : Hid (∀ w', Calls Try.prog 21 #[.agg #[.int .i64 b0, .int .i64 b1, .int .i64 b2]] w' fun e w'' => e = .returned (.agg #[.int .i64 b0, .int .i64 b1, .int .i64 b2]) ∧ Ext w' w'') := fun w' => of_any b0 b1 b2 w'
  have PB : Hid (H3 (((w.alloc (.cells #[.int .i64 a0, .int .i64 a1, .int .i64 a2] 24)).alloc (.cells #[.int .i64 b0, .int .i64 b1, .int .i64 b2] 24)).alloc (.cells #[.int .i64 0, .int .i64 0, .int .i64 0] 24)).drew w.heap.size (.int .i64 a0) (.int .i64 a1) (.int .i64 a2)) := H3.drew (H3.alloc (H3.alloc (h3_at rfl) _) _)
  have NB : Hid (H3 (((w.alloc (.cells #[.int .i64 a0, .int .i64 a1, .int .i64 a2] 24)).alloc (.cells #[.int .i64 b0, .int .i64 b1, .int .i64 b2] 24)).alloc (.cells #[.int .i64 0, .int .i64 0, .int .i64 0] 24)).drew (w.heap.size + 1) (.int .i64 b0) (.int .i64 b1) (.int .i64 b2)) := H3.drew (H3.alloc (h3_at (by simp)) _)
  have RB : Hid (H3 (((w.alloc (.cells #[.int .i64 a0, .int .i64 a1, .int .i64 a2] 24)).alloc (.cells #[.int .i64 b0, .int .i64 b1, .int .i64 b2] 24)).alloc (.cells #[.int .i64 0, .int .i64 0, .int .i64 0] 24)).drew (w.heap.size + 1 + 1) (.int .i64 0) (.int .i64 0) (.int .i64 0)) := H3.drew (h3_at (by simp))
  have y0 : Ext (((w.alloc (.cells #[.int .i64 a0, .int .i64 a1, .int .i64 a2] 24)).alloc (.cells #[.int .i64 b0, .int .i64 b1, .int .i64 b2] 24)).alloc (.cells #[.int .i64 0, .int .i64 0, .int .i64 0] 24)).drew (((w.alloc (.cells #[.int .i64 a0, .int .i64 a1, .int .i64 a2] 24)).alloc (.cells #[.int .i64 b0, .int .i64 b1, .int .i64 b2] 24)).alloc (.cells #[.int .i64 0, .int .i64 0, .int .i64 0] 24)).drew := Ext.refl _
  have E0 : Ext w (((w.alloc (.cells #[.int .i64 a0, .int .i64 a1, .int .i64 a2] 24)).alloc (.cells #[.int .i64 b0, .int .i64 b1, .int .i64 b2] 24)).alloc (.cells #[.int .i64 0, .int .i64 0, .int .i64 0] 24)).drew := ((((Ext.refl _).alloc _).alloc _).alloc _).drew
  go_enter Try.func11, Try.ntmps11
  go_wp2_with fail
  go_region_with (first | (go_at_call_of 21 (Value.agg #[Value.int IntKind.i64 a0, Value.int IntKind.i64 a1, Value.int IntKind.i64 a2]); refine (HA.out _).mono ?_; rintro e wA ⟨rfl, xA⟩; have yA : Ext (((w.alloc (.cells #[.int .i64 a0, .int .i64 a1, .int .i64 a2] 24)).alloc (.cells #[.int .i64 b0, .int .i64 b1, .int .i64 b2] 24)).alloc (.cells #[.int .i64 0, .int .i64 0, .int .i64 0] 24)).drew wA := Ext.trans (by with_reducible assumption) xA; obtain ⟨p0, p1, p2, p3, p4, p5, p6⟩ := PB.out.ext yA; obtain ⟨n0, n1, n2, n3, n4, n5, n6⟩ := NB.out.ext yA; obtain ⟨m0, m1, m2, m3, m4, m5, m6⟩ := RB.out.ext yA) | (go_at_call_of 21 (Value.agg #[Value.int IntKind.i64 b0, Value.int IntKind.i64 b1, Value.int IntKind.i64 b2]); refine (HB.out _).mono ?_; rintro e wB ⟨rfl, xB⟩; have yB : Ext (((w.alloc (.cells #[.int .i64 a0, .int .i64 a1, .int .i64 a2] 24)).alloc (.cells #[.int .i64 b0, .int .i64 b1, .int .i64 b2] 24)).alloc (.cells #[.int .i64 0, .int .i64 0, .int .i64 0] 24)).drew wB := Ext.trans (by with_reducible assumption) xB; obtain ⟨p0, p1, p2, p3, p4, p5, p6⟩ := PB.out.ext yB; obtain ⟨n0, n1, n2, n3, n4, n5, n6⟩ := NB.out.ext yB; obtain ⟨m0, m1, m2, m3, m4, m5, m6⟩ := RB.out.ext yB) | (go_at_call 20; refine (HP.out _).mono ?_; rintro e wP ⟨rfl, xP⟩; have yP : Ext (((w.alloc (.cells #[.int .i64 a0, .int .i64 a1, .int .i64 a2] 24)).alloc (.cells #[.int .i64 b0, .int .i64 b1, .int .i64 b2] 24)).alloc (.cells #[.int .i64 0, .int .i64 0, .int .i64 0] 24)).drew wP := Ext.trans (by with_reducible assumption) xP; obtain ⟨p0, p1, p2, p3, p4, p5, p6⟩ := PB.out.ext yP; obtain ⟨n0, n1, n2, n3, n4, n5, n6⟩ := NB.out.ext yP; obtain ⟨m0, m1, m2, m3, m4, m5, m6⟩ := RB.out.ext yP))
  all_goals
    have E8 : Ext w wP := E0.trans yP
    clear y0 E0 yP
    go_wp2_with fail
    exact bodyPost_ret (v := .tuple #[.agg #[.int .i64 x, .int .i64 y, .int .i64 z], .int .i64 e]) (by simp [results, Try.results11, go_sem, m0, m1, m2]) rfl ⟨rfl, by repeat (first | with_reducible assumption | with_reducible exact Ext.refl _ | with_reducible refine Ext.drew ?_ | with_reducible refine Ext.drewN ?_ _ | with_reducible refine Ext.alloc ?_ _ | with_reducible refine Ext.set ?_ (by first | exact Nat.le_refl _ | (dsimp only; omega) | (simp; done)) _)⟩

theorem vAdd_yes (a0 a1 a2 b0 b1 b2 : Int) (w : World) (h1 : ok3 a0 a1 a2 = true) (h2 : ok3 b0 b1 b2 = true) :
    Calls Try.prog 11 #[.agg #[.int .i64 a0, .int .i64 a1, .int .i64 a2], .agg #[.int .i64 b0, .int .i64 b1, .int .i64 b2]] w fun e w' => e = .returned (vres (a0 + b0) (a1 + b1) (a2 + b2)) ∧ Ext w w' := by
  obtain ⟨g0, g1, g2⟩ := ok3_parts h1
  obtain ⟨k0, k1, k2⟩ := ok3_parts h2
  have hp := fun w' => pairwise_Add a0 a1 a2 b0 b1 b2 _ _ _ _ _ _ w' h1 h2 (fun w => addw a0 b0 g0 k0 w) (fun w => addw a1 b1 g1 k1 w) (fun w => addw a2 b2 g2 k2 w)
  rw [thr_fit] at hp
  obtain ⟨x, y, z, e, hr⟩ := vres_shape (a0 + b0) (a1 + b1) (a2 + b2)
  rw [hr] at hp ⊢
  exact faceAdd_raw a0 a1 a2 b0 b1 b2 x y z e w hp
theorem vAdd_no (a0 a1 a2 b0 b1 b2 : Int) (w : World) (h : (ok3 a0 a1 a2 && ok3 b0 b1 b2) = false) :
    Calls Try.prog 11 #[.agg #[.int .i64 a0, .int .i64 a1, .int .i64 a2], .agg #[.int .i64 b0, .int .i64 b1, .int .i64 b2]] w fun e w' => e = .returned vbad ∧ Ext w w' :=
  faceAdd_raw a0 a1 a2 b0 b1 b2 0 0 0 1 w (fun w' => pairwise_Add_no a0 a1 a2 b0 b1 b2 w' h)

set_option maxHeartbeats 4000000 in
theorem faceSub_raw (a0 a1 a2 b0 b1 b2 x y z e : Int) (w : World)
    (HP : Hid (∀ w', Calls Try.prog 20 #[.agg #[.int .i64 a0, .int .i64 a1, .int .i64 a2], .agg #[.int .i64 b0, .int .i64 b1, .int .i64 b2], .func (.func 23) #[] #[]] w' fun e' w'' => e' = .returned (.tuple #[.agg #[.int .i64 x, .int .i64 y, .int .i64 z], .int .i64 e]) ∧ Ext w' w'')) :
    Calls Try.prog 9 #[.agg #[.int .i64 a0, .int .i64 a1, .int .i64 a2], .agg #[.int .i64 b0, .int .i64 b1, .int .i64 b2]] w fun e' w' => e' = .returned (.tuple #[.agg #[.int .i64 x, .int .i64 y, .int .i64 z], .int .i64 e]) ∧ Ext w w' := by
  have HA : Hid (∀ w', Calls Try.prog 21 #[.agg #[.int .i64 a0, .int .i64 a1, .int .i64 a2]] w' fun e w'' => e = .returned (.agg #[.int .i64 a0, .int .i64 a1, .int .i64 a2]) ∧ Ext w' w'') := fun w' => of_any a0 a1 a2 w'
  have HB : Hid (∀ w', Calls Try.prog 21 #[.agg #[.int .i64 b0, .int .i64 b1, .int .i64 b2]] w' fun e w'' => e = .returned (.agg #[.int .i64 b0, .int .i64 b1, .int .i64 b2]) ∧ Ext w' w'') := fun w' => of_any b0 b1 b2 w'
  have PB : Hid (H3 (((w.alloc (.cells #[.int .i64 a0, .int .i64 a1, .int .i64 a2] 24)).alloc (.cells #[.int .i64 b0, .int .i64 b1, .int .i64 b2] 24)).alloc (.cells #[.int .i64 0, .int .i64 0, .int .i64 0] 24)).drew w.heap.size (.int .i64 a0) (.int .i64 a1) (.int .i64 a2)) := H3.drew (H3.alloc (H3.alloc (h3_at rfl) _) _)
  have NB : Hid (H3 (((w.alloc (.cells #[.int .i64 a0, .int .i64 a1, .int .i64 a2] 24)).alloc (.cells #[.int .i64 b0, .int .i64 b1, .int .i64 b2] 24)).alloc (.cells #[.int .i64 0, .int .i64 0, .int .i64 0] 24)).drew (w.heap.size + 1) (.int .i64 b0) (.int .i64 b1) (.int .i64 b2)) := H3.drew (H3.alloc (h3_at (by simp)) _)
  have RB : Hid (H3 (((w.alloc (.cells #[.int .i64 a0, .int .i64 a1, .int .i64 a2] 24)).alloc (.cells #[.int .i64 b0, .int .i64 b1, .int .i64 b2] 24)).alloc (.cells #[.int .i64 0, .int .i64 0, .int .i64 0] 24)).drew (w.heap.size + 1 + 1) (.int .i64 0) (.int .i64 0) (.int .i64 0)) := H3.drew (h3_at (by simp))
  have y0 : Ext (((w.alloc (.cells #[.int .i64 a0, .int .i64 a1, .int .i64 a2] 24)).alloc (.cells #[.int .i64 b0, .int .i64 b1, .int .i64 b2] 24)).alloc (.cells #[.int .i64 0, .int .i64 0, .int .i64 0] 24)).drew (((w.alloc (.cells #[.int .i64 a0, .int .i64 a1, .int .i64 a2] 24)).alloc (.cells #[.int .i64 b0, .int .i64 b1, .int .i64 b2] 24)).alloc (.cells #[.int .i64 0, .int .i64 0, .int .i64 0] 24)).drew := Ext.refl _
  have E0 : Ext w (((w.alloc (.cells #[.int .i64 a0, .int .i64 a1, .int .i64 a2] 24)).alloc (.cells #[.int .i64 b0, .int .i64 b1, .int .i64 b2] 24)).alloc (.cells #[.int .i64 0, .int .i64 0, .int .i64 0] 24)).drew := ((((Ext.refl _).alloc _).alloc _).alloc _).drew
  go_enter Try.func9, Try.ntmps9
  go_wp2_with fail
  go_region_with (first | (go_at_call_of 21 (Value.agg #[Value.int IntKind.i64 a0, Value.int IntKind.i64 a1, Value.int IntKind.i64 a2]); refine (HA.out _).mono ?_; rintro e wA ⟨rfl, xA⟩; have yA : Ext (((w.alloc (.cells #[.int .i64 a0, .int .i64 a1, .int .i64 a2] 24)).alloc (.cells #[.int .i64 b0, .int .i64 b1, .int .i64 b2] 24)).alloc (.cells #[.int .i64 0, .int .i64 0, .int .i64 0] 24)).drew wA := Ext.trans (by with_reducible assumption) xA; obtain ⟨p0, p1, p2, p3, p4, p5, p6⟩ := PB.out.ext yA; obtain ⟨n0, n1, n2, n3, n4, n5, n6⟩ := NB.out.ext yA; obtain ⟨m0, m1, m2, m3, m4, m5, m6⟩ := RB.out.ext yA) | (go_at_call_of 21 (Value.agg #[Value.int IntKind.i64 b0, Value.int IntKind.i64 b1, Value.int IntKind.i64 b2]); refine (HB.out _).mono ?_; rintro e wB ⟨rfl, xB⟩; have yB : Ext (((w.alloc (.cells #[.int .i64 a0, .int .i64 a1, .int .i64 a2] 24)).alloc (.cells #[.int .i64 b0, .int .i64 b1, .int .i64 b2] 24)).alloc (.cells #[.int .i64 0, .int .i64 0, .int .i64 0] 24)).drew wB := Ext.trans (by with_reducible assumption) xB; obtain ⟨p0, p1, p2, p3, p4, p5, p6⟩ := PB.out.ext yB; obtain ⟨n0, n1, n2, n3, n4, n5, n6⟩ := NB.out.ext yB; obtain ⟨m0, m1, m2, m3, m4, m5, m6⟩ := RB.out.ext yB) | (go_at_call 20; refine (HP.out _).mono ?_; rintro e wP ⟨rfl, xP⟩; have yP : Ext (((w.alloc (.cells #[.int .i64 a0, .int .i64 a1, .int .i64 a2] 24)).alloc (.cells #[.int .i64 b0, .int .i64 b1, .int .i64 b2] 24)).alloc (.cells #[.int .i64 0, .int .i64 0, .int .i64 0] 24)).drew wP := Ext.trans (by with_reducible assumption) xP; obtain ⟨p0, p1, p2, p3, p4, p5, p6⟩ := PB.out.ext yP; obtain ⟨n0, n1, n2, n3, n4, n5, n6⟩ := NB.out.ext yP; obtain ⟨m0, m1, m2, m3, m4, m5, m6⟩ := RB.out.ext yP))
  all_goals
    have E8 : Ext w wP := E0.trans yP
    clear y0 E0 yP
    go_wp2_with fail
    exact bodyPost_ret (v := .tuple #[.agg #[.int .i64 x, .int .i64 y, .int .i64 z], .int .i64 e]) (by simp [results, Try.results9, go_sem, m0, m1, m2]) rfl ⟨rfl, by repeat (first | with_reducible assumption | with_reducible exact Ext.refl _ | with_reducible refine Ext.drew ?_ | with_reducible refine Ext.drewN ?_ _ | with_reducible refine Ext.alloc ?_ _ | with_reducible refine Ext.set ?_ (by first | exact Nat.le_refl _ | (dsimp only; omega) | (simp; done)) _)⟩

theorem vSub_yes (a0 a1 a2 b0 b1 b2 : Int) (w : World) (h1 : ok3 a0 a1 a2 = true) (h2 : ok3 b0 b1 b2 = true) :
    Calls Try.prog 9 #[.agg #[.int .i64 a0, .int .i64 a1, .int .i64 a2], .agg #[.int .i64 b0, .int .i64 b1, .int .i64 b2]] w fun e w' => e = .returned (vres (a0 - b0) (a1 - b1) (a2 - b2)) ∧ Ext w w' := by
  obtain ⟨g0, g1, g2⟩ := ok3_parts h1
  obtain ⟨k0, k1, k2⟩ := ok3_parts h2
  have hp := fun w' => pairwise_Sub a0 a1 a2 b0 b1 b2 _ _ _ _ _ _ w' h1 h2 (fun w => subw a0 b0 g0 k0 w) (fun w => subw a1 b1 g1 k1 w) (fun w => subw a2 b2 g2 k2 w)
  rw [thr_fit] at hp
  obtain ⟨x, y, z, e, hr⟩ := vres_shape (a0 - b0) (a1 - b1) (a2 - b2)
  rw [hr] at hp ⊢
  exact faceSub_raw a0 a1 a2 b0 b1 b2 x y z e w hp
theorem vSub_no (a0 a1 a2 b0 b1 b2 : Int) (w : World) (h : (ok3 a0 a1 a2 && ok3 b0 b1 b2) = false) :
    Calls Try.prog 9 #[.agg #[.int .i64 a0, .int .i64 a1, .int .i64 a2], .agg #[.int .i64 b0, .int .i64 b1, .int .i64 b2]] w fun e w' => e = .returned vbad ∧ Ext w w' :=
  faceSub_raw a0 a1 a2 b0 b1 b2 0 0 0 1 w (fun w' => pairwise_Sub_no a0 a1 a2 b0 b1 b2 w' h)

set_option maxHeartbeats 4000000 in
theorem faceNeg_raw (a0 a1 a2 x y z e : Int) (w : World)
    (HP : Hid (∀ w', Calls Try.prog 20 #[.agg #[.int .i64 0, .int .i64 0, .int .i64 0], .agg #[.int .i64 a0, .int .i64 a1, .int .i64 a2], .func (.func 23) #[] #[]] w' fun e' w'' => e' = .returned (.tuple #[.agg #[.int .i64 x, .int .i64 y, .int .i64 z], .int .i64 e]) ∧ Ext w' w'')) :
    Calls Try.prog 8 #[.agg #[.int .i64 a0, .int .i64 a1, .int .i64 a2]] w fun e' w' => e' = .returned (.tuple #[.agg #[.int .i64 x, .int .i64 y, .int .i64 z], .int .i64 e]) ∧ Ext w w' := by
  have HA : Hid (∀ w', Calls Try.prog 21 #[.agg #[.int .i64 a0, .int .i64 a1, .int .i64 a2]] w' fun e w'' => e = .returned (.agg #[.int .i64 a0, .int .i64 a1, .int .i64 a2]) ∧ Ext w' w'') := fun w' => of_any a0 a1 a2 w'
  go_enter Try.func8, Try.ntmps8
  go_wp2_with fail
  refine (HA.out _).mono ?_
  rintro e' w1 ⟨rfl, x1⟩
  go_wp2_with fail
  refine (HP.out _).mono ?_
  rintro e' w2 ⟨rfl, x2⟩
  obtain ⟨m0, m1, m2, m3, m4, m5, m6⟩ : H3 w2 (w.heap.size + 1) (.int .i64 0) (.int .i64 0) (.int .i64 0) := (h3_at (by simp)).ext (x1.trans x2)
  have E8 : Ext w w2 := Ext.trans (((Ext.refl _).alloc _).alloc _) (x1.trans x2)
  clear x1 x2
  go_wp2_with fail
  exact bodyPost_ret (v := .tuple #[.agg #[.int .i64 x, .int .i64 y, .int .i64 z], .int .i64 e]) (by simp [results, Try.results8, go_sem, m0, m1, m2]) rfl ⟨rfl, by repeat (first | with_reducible assumption | with_reducible exact Ext.refl _ | with_reducible refine Ext.drew ?_ | with_reducible refine Ext.drewN ?_ _ | with_reducible refine Ext.alloc ?_ _ | with_reducible refine Ext.set ?_ (by first | exact Nat.le_refl _ | (dsimp only; omega) | (simp; done)) _)⟩

set_option maxHeartbeats 4000000 in
theorem faceScale_raw (a0 a1 a2 k x y z e : Int) (w : World)
    (HP : Hid (∀ w', Calls Try.prog 20 #[.agg #[.int .i64 a0, .int .i64 a1, .int .i64 a2], .agg #[.int .i64 k, .int .i64 k, .int .i64 k], .func (.func 22) #[] #[]] w' fun e' w'' => e' = .returned (.tuple #[.agg #[.int .i64 x, .int .i64 y, .int .i64 z], .int .i64 e]) ∧ Ext w' w'')) :
    Calls Try.prog 7 #[.agg #[.int .i64 a0, .int .i64 a1, .int .i64 a2], .int .i64 k] w fun e' w' => e' = .returned (.tuple #[.agg #[.int .i64 x, .int .i64 y, .int .i64 z], .int .i64 e]) ∧ Ext w w' := by
  have HA : Hid (∀ w', Calls Try.prog 21 #[.agg #[.int .i64 a0, .int .i64 a1, .int .i64 a2]] w' fun e w'' => e = .returned (.agg #[.int .i64 a0, .int .i64 a1, .int .i64 a2]) ∧ Ext w' w'') := fun w' => of_any a0 a1 a2 w'
  go_enter Try.func7, Try.ntmps7
  go_wp2_with fail
  refine (HA.out _).mono ?_
  rintro e' w1 ⟨rfl, x1⟩
  go_wp2_with fail
  refine (HP.out _).mono ?_
  rintro e' w2 ⟨rfl, x2⟩
  obtain ⟨m0, m1, m2, m3, m4, m5, m6⟩ : H3 w2 (w.heap.size + 1) (.int .i64 0) (.int .i64 0) (.int .i64 0) := (h3_at (by simp)).ext (x1.trans x2)
  have E8 : Ext w w2 := Ext.trans (((Ext.refl _).alloc _).alloc _) (x1.trans x2)
  clear x1 x2
  go_wp2_with fail
  exact bodyPost_ret (v := .tuple #[.agg #[.int .i64 x, .int .i64 y, .int .i64 z], .int .i64 e]) (by simp [results, Try.results7, go_sem, m0, m1, m2]) rfl ⟨rfl, by repeat (first | with_reducible assumption | with_reducible exact Ext.refl _ | with_reducible refine Ext.drew ?_ | with_reducible refine Ext.drewN ?_ _ | with_reducible refine Ext.alloc ?_ _ | with_reducible refine Ext.set ?_ (by first | exact Nat.le_refl _ | (dsimp only; omega) | (simp; done)) _)⟩

theorem vNeg_yes (a0 a1 a2 : Int) (w : World) (h1 : ok3 a0 a1 a2 = true) :
    Calls Try.prog 8 #[.agg #[.int .i64 a0, .int .i64 a1, .int .i64 a2]] w fun e w' => e = .returned (vres (0 - a0) (0 - a1) (0 - a2)) ∧ Ext w w' := by
  obtain ⟨g0, g1, g2⟩ := ok3_parts h1
  have z0 : okW 0 = true := by decide
  have hp := fun w' => pairwise_Sub 0 0 0 a0 a1 a2 _ _ _ _ _ _ w' (by decide) h1 (fun w => subw 0 a0 z0 g0 w) (fun w => subw 0 a1 z0 g1 w) (fun w => subw 0 a2 z0 g2 w)
  rw [thr_fit] at hp
  obtain ⟨x, y, z, e, hr⟩ := vres_shape (0 - a0) (0 - a1) (0 - a2)
  rw [hr] at hp ⊢
  exact faceNeg_raw a0 a1 a2 x y z e w hp
theorem vNeg_no (a0 a1 a2 : Int) (w : World) (h : ok3 a0 a1 a2 = false) :
    Calls Try.prog 8 #[.agg #[.int .i64 a0, .int .i64 a1, .int .i64 a2]] w fun e w' => e = .returned vbad ∧ Ext w w' :=
  faceNeg_raw a0 a1 a2 0 0 0 1 w (fun w' => pairwise_Sub_no 0 0 0 a0 a1 a2 w' (by rw [h]; decide))
theorem vScale_yes (a0 a1 a2 k : Int) (w : World) (h1 : ok3 a0 a1 a2 = true) (h2 : okW k = true) :
    Calls Try.prog 7 #[.agg #[.int .i64 a0, .int .i64 a1, .int .i64 a2], .int .i64 k] w fun e w' => e = .returned (vres (nearQ (a0 * k)) (nearQ (a1 * k)) (nearQ (a2 * k))) ∧ Ext w w' := by
  obtain ⟨g0, g1, g2⟩ := ok3_parts h1
  have hp := fun w' => pairwise_Mul a0 a1 a2 k k k _ _ _ _ _ _ w' h1 (by unfold ok3; rw [h2]; rfl) (fun w => mulw a0 k g0 h2 w) (fun w => mulw a1 k g1 h2 w) (fun w => mulw a2 k g2 h2 w)
  rw [thr_fit] at hp
  obtain ⟨x, y, z, e, hr⟩ := vres_shape (nearQ (a0 * k)) (nearQ (a1 * k)) (nearQ (a2 * k))
  rw [hr] at hp ⊢
  exact faceScale_raw a0 a1 a2 k x y z e w hp
theorem vScale_no (a0 a1 a2 k : Int) (w : World) (h : (ok3 a0 a1 a2 && okW k) = false) :
    Calls Try.prog 7 #[.agg #[.int .i64 a0, .int .i64 a1, .int .i64 a2], .int .i64 k] w fun e w' => e = .returned vbad ∧ Ext w w' :=
  faceScale_raw a0 a1 a2 k 0 0 0 1 w (fun w' => pairwise_Mul_no a0 a1 a2 k k k w' (by rw [← h]; unfold ok3; cases okW k <;> simp))
end Go.Proofs.Ytlfpiefnknpagaa
