/- vec: Add, Sub, Neg, Scale. -/
import Derived.Test.YtojcndgoihkfnaaMg9
import Derived.Test.YtojcndgoihkfnaaV5m
import Derived.Test.YtojcndgoihkfnaaMg12
import Derived.Test.YtojcndgoihkfnaaMg13
namespace Go.Proofs.Ytojcndgoihkfnaa
open Go.RowKit Go.Shelf

theorem subw (a b : Int) (h1 : okW a = true) (h2 : okW b = true) (w : World) : Calls Try.prog 39 #[.int .i64 a, .int .i64 b] w fun e w' => e = .returned (.tuple #[.int .i64 (fitR (a - b)).1, .int .i64 (fitR (a - b)).2]) ∧ Ext w w' := by
  have h := sub_any a b w
  have e : subR a b = fitR (a - b) := by unfold subR diffV; rw [if_pos (by rw [h1, h2]; rfl)]
  rw [e] at h; exact h
set_option maxHeartbeats 4000000 in
theorem faceSub_raw (a0 a1 a2 b0 b1 b2 x y z e : Int) (w : World)
    (HP : Hid (∀ w', Calls Try.prog 38 #[.agg #[.int .i64 a0, .int .i64 a1, .int .i64 a2], .agg #[.int .i64 b0, .int .i64 b1, .int .i64 b2], .func (.func 39) #[] #[]] w' fun e' w'' => e' = .returned (.tuple #[.agg #[.int .i64 x, .int .i64 y, .int .i64 z], .int .i64 e]) ∧ Ext w' w'')) :
    Calls Try.prog 29 #[.agg #[.int .i64 a0, .int .i64 a1, .int .i64 a2], .agg #[.int .i64 b0, .int .i64 b1, .int .i64 b2]] w fun e' w' => e' = .returned (.tuple #[.agg #[.int .i64 x, .int .i64 y, .int .i64 z], .int .i64 e]) ∧ Ext w w' := by
  have HA : Hid (∀ w', Calls Try.prog 28 #[.agg #[.int .i64 a0, .int .i64 a1, .int .i64 a2]] w' fun e w'' => e = .returned (.agg #[.int .i64 a0, .int .i64 a1, .int .i64 a2]) ∧ Ext w' w'') := fun w' => of_any a0 a1 a2 w'
  have HB : Hid (∀ w', Calls Try.prog 28 #[.agg #[.int .i64 b0, .int .i64 b1, .int .i64 b2]] w' fun e w'' => e = .returned (.agg #[.int .i64 b0, .int .i64 b1, .int .i64 b2]) ∧ Ext w' w'') := fun w' => of_any b0 b1 b2 w'
  have PB : Hid (H3 (((w.alloc (.cells #[.int .i64 a0, .int .i64 a1, .int .i64 a2] 24)).alloc (.cells #[.int .i64 b0, .int .i64 b1, .int .i64 b2] 24)).alloc (.cells #[.int .i64 0, .int .i64 0, .int .i64 0] 24)).drew w.heap.size (.int .i64 a0) (.int .i64 a1) (.int .i64 a2)) := H3.drew (H3.alloc (H3.alloc (h3_at rfl) _) _)
  have NB : Hid (H3 (((w.alloc (.cells #[.int .i64 a0, .int .i64 a1, .int .i64 a2] 24)).alloc (.cells #[.int .i64 b0, .int .i64 b1, .int .i64 b2] 24)).alloc (.cells #[.int .i64 0, .int .i64 0, .int .i64 0] 24)).drew (w.heap.size + 1) (.int .i64 b0) (.int .i64 b1) (.int .i64 b2)) := H3.drew (H3.alloc (h3_at (by simp)) _)
  have RB : Hid (H3 (((w.alloc (.cells #[.int .i64 a0, .int .i64 a1, .int .i64 a2] 24)).alloc (.cells #[.int .i64 b0, .int .i64 b1, .int .i64 b2] 24)).alloc (.cells #[.int .i64 0, .int .i64 0, .int .i64 0] 24)).drew (w.heap.size + 1 + 1) (.int .i64 0) (.int .i64 0) (.int .i64 0)) := H3.drew (h3_at (by simp))
  have y0 : Ext (((w.alloc (.cells #[.int .i64 a0, .int .i64 a1, .int .i64 a2] 24)).alloc (.cells #[.int .i64 b0, .int .i64 b1, .int .i64 b2] 24)).alloc (.cells #[.int .i64 0, .int .i64 0, .int .i64 0] 24)).drew (((w.alloc (.cells #[.int .i64 a0, .int .i64 a1, .int .i64 a2] 24)).alloc (.cells #[.int .i64 b0, .int .i64 b1, .int .i64 b2] 24)).alloc (.cells #[.int .i64 0, .int .i64 0, .int .i64 0] 24)).drew := Ext.refl _
  have E0 : Ext w (((w.alloc (.cells #[.int .i64 a0, .int .i64 a1, .int .i64 a2] 24)).alloc (.cells #[.int .i64 b0, .int .i64 b1, .int .i64 b2] 24)).alloc (.cells #[.int .i64 0, .int .i64 0, .int .i64 0] 24)).drew := ((((Ext.refl _).alloc _).alloc _).alloc _).drew
  go_enter Try.func29, Try.ntmps29
  go_wp2_with fail
  go_region_with (first | (go_at_call_of 28 (Value.agg #[Value.int IntKind.i64 a0, Value.int IntKind.i64 a1, Value.int IntKind.i64 a2]); refine (HA.out _).mono ?_; rintro e wA ⟨rfl, xA⟩; have yA : Ext (((w.alloc (.cells #[.int .i64 a0, .int .i64 a1, .int .i64 a2] 24)).alloc (.cells #[.int .i64 b0, .int .i64 b1, .int .i64 b2] 24)).alloc (.cells #[.int .i64 0, .int .i64 0, .int .i64 0] 24)).drew wA := Ext.trans (by with_reducible assumption) xA; obtain ⟨p0, p1, p2, p3, p4, p5, p6⟩ := PB.out.ext yA; obtain ⟨n0, n1, n2, n3, n4, n5, n6⟩ := NB.out.ext yA; obtain ⟨m0, m1, m2, m3, m4, m5, m6⟩ := RB.out.ext yA) | (go_at_call_of 28 (Value.agg #[Value.int IntKind.i64 b0, Value.int IntKind.i64 b1, Value.int IntKind.i64 b2]); refine (HB.out _).mono ?_; rintro e wB ⟨rfl, xB⟩; have yB : Ext (((w.alloc (.cells #[.int .i64 a0, .int .i64 a1, .int .i64 a2] 24)).alloc (.cells #[.int .i64 b0, .int .i64 b1, .int .i64 b2] 24)).alloc (.cells #[.int .i64 0, .int .i64 0, .int .i64 0] 24)).drew wB := Ext.trans (by with_reducible assumption) xB; obtain ⟨p0, p1, p2, p3, p4, p5, p6⟩ := PB.out.ext yB; obtain ⟨n0, n1, n2, n3, n4, n5, n6⟩ := NB.out.ext yB; obtain ⟨m0, m1, m2, m3, m4, m5, m6⟩ := RB.out.ext yB) | (go_at_call 38; refine (HP.out _).mono ?_; rintro e wP ⟨rfl, xP⟩; have yP : Ext (((w.alloc (.cells #[.int .i64 a0, .int .i64 a1, .int .i64 a2] 24)).alloc (.cells #[.int .i64 b0, .int .i64 b1, .int .i64 b2] 24)).alloc (.cells #[.int .i64 0, .int .i64 0, .int .i64 0] 24)).drew wP := Ext.trans (by with_reducible assumption) xP; obtain ⟨p0, p1, p2, p3, p4, p5, p6⟩ := PB.out.ext yP; obtain ⟨n0, n1, n2, n3, n4, n5, n6⟩ := NB.out.ext yP; obtain ⟨m0, m1, m2, m3, m4, m5, m6⟩ := RB.out.ext yP))
  all_goals
    have E8 : Ext w wP := E0.trans yP
    clear y0 E0 yP
    go_wp2_with fail
    exact bodyPost_ret (v := .tuple #[.agg #[.int .i64 x, .int .i64 y, .int .i64 z], .int .i64 e]) (by simp [results, Try.results29, go_sem, m0, m1, m2]) rfl ⟨rfl, by repeat (first | with_reducible assumption | with_reducible exact Ext.refl _ | with_reducible refine Ext.drew ?_ | with_reducible refine Ext.drewN ?_ _ | with_reducible refine Ext.alloc ?_ _ | with_reducible refine Ext.set ?_ (by first | exact Nat.le_refl _ | (dsimp only; omega) | (simp; done)) _)⟩

theorem vSub_yes (a0 a1 a2 b0 b1 b2 : Int) (w : World) (h1 : ok3 a0 a1 a2 = true) (h2 : ok3 b0 b1 b2 = true) :
    Calls Try.prog 29 #[.agg #[.int .i64 a0, .int .i64 a1, .int .i64 a2], .agg #[.int .i64 b0, .int .i64 b1, .int .i64 b2]] w fun e w' => e = .returned (vres (a0 - b0) (a1 - b1) (a2 - b2)) ∧ Ext w w' := by
  obtain ⟨g0, g1, g2⟩ := ok3_parts h1
  obtain ⟨k0, k1, k2⟩ := ok3_parts h2
  have hp := fun w' => pairwise_Sub a0 a1 a2 b0 b1 b2 _ _ _ _ _ _ w' h1 h2 (fun w => subw a0 b0 g0 k0 w) (fun w => subw a1 b1 g1 k1 w) (fun w => subw a2 b2 g2 k2 w)
  rw [thr_fit] at hp
  obtain ⟨x, y, z, e, hr⟩ := vres_shape (a0 - b0) (a1 - b1) (a2 - b2)
  rw [hr] at hp ⊢
  exact faceSub_raw a0 a1 a2 b0 b1 b2 x y z e w hp
theorem vSub_no (a0 a1 a2 b0 b1 b2 : Int) (w : World) (h : (ok3 a0 a1 a2 && ok3 b0 b1 b2) = false) :
    Calls Try.prog 29 #[.agg #[.int .i64 a0, .int .i64 a1, .int .i64 a2], .agg #[.int .i64 b0, .int .i64 b1, .int .i64 b2]] w fun e w' => e = .returned vbad ∧ Ext w w' :=
  faceSub_raw a0 a1 a2 b0 b1 b2 0 0 0 1 w (fun w' => pairwise_Sub_no a0 a1 a2 b0 b1 b2 w' h)

end Go.Proofs.Ytojcndgoihkfnaa
