/- quat: Mul. quat: Mul of any two. -/
import Derived.Test.YtmbdcgijjpcppaaGreatQ4nm
import Derived.Test.YtmbdcgijjpcppaaGreatMg13
import Derived.Deep.RegionHeld
import Derived.Deep.DeepCutAuto
import Derived.Test.YtmbdcgijjpcppaaGreatMg20
namespace Go.Proofs.YtmbdcgijjpcppaaGreat
open Go.RowKit Go.Shelf

set_option maxRecDepth 20000 in
set_option maxHeartbeats 8000000 in
theorem qMul_bad (a b c d x y z t : Int) (w : World)
    (HK : Hid (∀ a b c d w', Calls Tryz.prog 103 #[.agg #[.int .i64 a, .int .i64 b, .int .i64 c, .int .i64 d]] w' fun e w'' => e = .returned (.int .i64 (chk4 a b c d)) ∧ Ext w' w''))
    (HO : Hid (∀ g w', H2 w' g (.int .i64 (chk4 a b c d)) (.int .i64 (chk4 x y z t)) → Calls Tryz.prog 52 #[.slice (some ⟨g, 0, none⟩) 2 2] w' fun e w'' => e = .returned (.int .i64 1) ∧ Ext w' w'')) :
    Calls Tryz.prog 99 #[.agg #[.int .i64 a, .int .i64 b, .int .i64 c, .int .i64 d], .agg #[.int .i64 x, .int .i64 y, .int .i64 z, .int .i64 t]] w fun e w' => e = .returned (.tuple #[.agg #[.int .i64 0, .int .i64 0, .int .i64 0, .int .i64 0], .int .i64 1]) ∧ Ext w w' := by
  have PBwB : Hid (H4 (((w.alloc (.cells #[.int .i64 a, .int .i64 b, .int .i64 c, .int .i64 d] 24)).alloc (.cells #[.int .i64 x, .int .i64 y, .int .i64 z, .int .i64 t] 24)).alloc (.cells #[.int .i64 0, .int .i64 0, .int .i64 0, .int .i64 0] 24)) w.heap.size (.int .i64 a) (.int .i64 b) (.int .i64 c) (.int .i64 d)) := H4.alloc (H4.alloc (h4_at rfl) _) _
  have QBwB : Hid (H4 (((w.alloc (.cells #[.int .i64 a, .int .i64 b, .int .i64 c, .int .i64 d] 24)).alloc (.cells #[.int .i64 x, .int .i64 y, .int .i64 z, .int .i64 t] 24)).alloc (.cells #[.int .i64 0, .int .i64 0, .int .i64 0, .int .i64 0] 24)) (w.heap.size + 1) (.int .i64 x) (.int .i64 y) (.int .i64 z) (.int .i64 t)) := H4.alloc (h4_at (by simp)) _
  have RBwB : Hid (H4 (((w.alloc (.cells #[.int .i64 a, .int .i64 b, .int .i64 c, .int .i64 d] 24)).alloc (.cells #[.int .i64 x, .int .i64 y, .int .i64 z, .int .i64 t] 24)).alloc (.cells #[.int .i64 0, .int .i64 0, .int .i64 0, .int .i64 0] 24)) (w.heap.size + 1 + 1) (.int .i64 0) (.int .i64 0) (.int .i64 0) (.int .i64 0)) := h4_at (by simp)
  have XB : Ext w (((w.alloc (.cells #[.int .i64 a, .int .i64 b, .int .i64 c, .int .i64 d] 24)).alloc (.cells #[.int .i64 x, .int .i64 y, .int .i64 z, .int .i64 t] 24)).alloc (.cells #[.int .i64 0, .int .i64 0, .int .i64 0, .int .i64 0] 24)) := (((Ext.refl _).alloc _).alloc _).alloc _
  have ne1 : w.heap.size ≠ w.heap.size + 1 + 1 := by omega
  have ne2 : w.heap.size + 1 + 1 ≠ w.heap.size := by omega
  have ne3 : w.heap.size + 1 ≠ w.heap.size + 1 + 1 := by omega
  have ne4 : w.heap.size + 1 + 1 ≠ w.heap.size + 1 := by omega
  obtain ⟨s0, s1, s2, s3, s4, s5, s6, s7, s8⟩ := PBwB.out
  obtain ⟨t0, t1, t2, t3, t4, t5, t6, t7, t8⟩ := QBwB.out
  obtain ⟨r0, r1, r2, r3, r4, r5, r6, r7, r8⟩ := RBwB.out
  go_enter Tryz.func99, Tryz.ntmps99
  go_upto_region 1 with fail
  generalize (((w.alloc (.cells #[.int .i64 a, .int .i64 b, .int .i64 c, .int .i64 d] 24)).alloc (.cells #[.int .i64 x, .int .i64 y, .int .i64 z, .int .i64 t] 24)).alloc (.cells #[.int .i64 0, .int .i64 0, .int .i64 0, .int .i64 0] 24)) = wB at *
  go_region_held (fun w' => w'.cell? ⟨w.heap.size, 0, none⟩ = some (.int .i64 a) ∧ w'.cell? ⟨w.heap.size, 1, none⟩ = some (.int .i64 b) ∧ w'.cell? ⟨w.heap.size, 2, none⟩ = some (.int .i64 c) ∧ w'.cell? ⟨w.heap.size, 3, none⟩ = some (.int .i64 d) ∧ w'.cell? ⟨w.heap.size + 1, 0, none⟩ = some (.int .i64 x) ∧ w'.cell? ⟨w.heap.size + 1, 1, none⟩ = some (.int .i64 y) ∧ w'.cell? ⟨w.heap.size + 1, 2, none⟩ = some (.int .i64 z) ∧ w'.cell? ⟨w.heap.size + 1, 3, none⟩ = some (.int .i64 t)) (first | (go_keep; done) | skip) (first | (go_at_call 103; refine (HK.out _ _ _ _ _).mono ?_; rintro e wk ⟨rfl, xwk⟩; have ywk : Ext wB wk := Ext.trans (by repeat (first | with_reducible assumption | with_reducible exact Ext.refl _ | with_reducible refine Ext.drew ?_ | with_reducible refine Ext.drewN ?_ _ | with_reducible refine Ext.alloc ?_ _ | with_reducible refine Ext.set ?_ (by first | exact Nat.le_refl _ | (dsimp only; omega) | (simp; done)) _)) xwk; obtain ⟨s0, s1, s2, s3, s4, s5, s6, s7, s8⟩ := PBwB.out.ext ywk; obtain ⟨t0, t1, t2, t3, t4, t5, t6, t7, t8⟩ := QBwB.out.ext ywk; obtain ⟨r0, r1, r2, r3, r4, r5, r6, r7, r8⟩ := RBwB.out.ext ywk) | (go_at_call 52; refine (HO.out _ _ (by first | with_reducible exact h2_at rfl | with_reducible exact H2.drew (h2_at rfl) | exact h2_at (by simp) | exact H2.drew (h2_at (by simp)))).mono ?_; rintro e wo ⟨rfl, xwo⟩; have ywo : Ext wB wo := Ext.trans (by repeat (first | with_reducible assumption | with_reducible exact Ext.refl _ | with_reducible refine Ext.drew ?_ | with_reducible refine Ext.drewN ?_ _ | with_reducible refine Ext.alloc ?_ _ | with_reducible refine Ext.set ?_ (by first | exact Nat.le_refl _ | (dsimp only; omega) | (simp; done)) _)) xwo; obtain ⟨s0, s1, s2, s3, s4, s5, s6, s7, s8⟩ := PBwB.out.ext ywo; obtain ⟨t0, t1, t2, t3, t4, t5, t6, t7, t8⟩ := QBwB.out.ext ywo; obtain ⟨r0, r1, r2, r3, r4, r5, r6, r7, r8⟩ := RBwB.out.ext ywo))
  all_goals
    have X3 : Ext w wo := XB.trans ywo
    go_wp2_with fail
    exact bodyPost_ret (v := .tuple #[.agg #[.int .i64 0, .int .i64 0, .int .i64 0, .int .i64 0], .int .i64 1]) (by simp [results, Tryz.results99, go_sem, r0, r1, r2, r3]) rfl ⟨rfl, by repeat (first | with_reducible assumption | with_reducible exact Ext.refl _ | with_reducible refine Ext.drew ?_ | with_reducible refine Ext.drewN ?_ _ | with_reducible refine Ext.alloc ?_ _ | with_reducible refine Ext.set ?_ (by first | exact Nat.le_refl _ | (dsimp only; omega) | (simp; done)) _)⟩

set_option maxRecDepth 20000 in
set_option maxHeartbeats 8000000 in
theorem qMul_yes (a b c d x y z t Z0 Z1 Z2 Z3 E0 E1 E2 E3 ee : Int) (w : World)
    (HK : Hid (∀ a b c d w', Calls Tryz.prog 103 #[.agg #[.int .i64 a, .int .i64 b, .int .i64 c, .int .i64 d]] w' fun e w'' => e = .returned (.int .i64 (chk4 a b c d)) ∧ Ext w' w''))
    (HO : Hid (∀ g w', H2 w' g (.int .i64 (chk4 a b c d)) (.int .i64 (chk4 x y z t)) → Calls Tryz.prog 52 #[.slice (some ⟨g, 0, none⟩) 2 2] w' fun e w'' => e = .returned (.int .i64 0) ∧ Ext w' w''))
    (HF : Hid (∀ a b c d w', Calls Tryz.prog 101 #[.agg #[.int .i64 a, .int .i64 b, .int .i64 c, .int .i64 d]] w' fun e w'' => e = .returned (.agg #[.int .i64 a, .int .i64 b, .int .i64 c, .int .i64 d]) ∧ Ext w' w''))
    (HP : Hid (∀ w', Calls Tryz.prog 130 #[.agg #[.int .i64 a, .int .i64 b, .int .i64 c, .int .i64 d], .agg #[.int .i64 x, .int .i64 y, .int .i64 z, .int .i64 t], .func (.func 131) #[] #[]] w' fun e w'' => (∃ r, e = .returned r ∧ IsF r Z0 Z1 Z2 Z3) ∧ Ext w' w''))
    (HT : Hid (∀ v w', IsF v Z0 Z1 Z2 Z3 → Calls Tryz.prog 129 #[v, .func (.func 132) #[] #[]] w' fun e w'' => e = .returned (.tuple #[.agg #[.int .i64 E0, .int .i64 E1, .int .i64 E2, .int .i64 E3], .int .i64 ee]) ∧ Ext w' w''))
    (HA : Hid (∀ w', Calls Tryz.prog 104 #[.agg #[.int .i64 E0, .int .i64 E1, .int .i64 E2, .int .i64 E3], .int .i64 ee] w' fun e w'' => e = .returned (.tuple #[.agg #[.int .i64 E0, .int .i64 E1, .int .i64 E2, .int .i64 E3], .int .i64 ee]) ∧ Ext w' w'')) :
    Calls Tryz.prog 99 #[.agg #[.int .i64 a, .int .i64 b, .int .i64 c, .int .i64 d], .agg #[.int .i64 x, .int .i64 y, .int .i64 z, .int .i64 t]] w fun e w' => e = .returned (.tuple #[.agg #[.int .i64 E0, .int .i64 E1, .int .i64 E2, .int .i64 E3], .int .i64 ee]) ∧ Ext w w' := by
  have PBwB : Hid (H4 (((w.alloc (.cells #[.int .i64 a, .int .i64 b, .int .i64 c, .int .i64 d] 24)).alloc (.cells #[.int .i64 x, .int .i64 y, .int .i64 z, .int .i64 t] 24)).alloc (.cells #[.int .i64 0, .int .i64 0, .int .i64 0, .int .i64 0] 24)) w.heap.size (.int .i64 a) (.int .i64 b) (.int .i64 c) (.int .i64 d)) := H4.alloc (H4.alloc (h4_at rfl) _) _
  have QBwB : Hid (H4 (((w.alloc (.cells #[.int .i64 a, .int .i64 b, .int .i64 c, .int .i64 d] 24)).alloc (.cells #[.int .i64 x, .int .i64 y, .int .i64 z, .int .i64 t] 24)).alloc (.cells #[.int .i64 0, .int .i64 0, .int .i64 0, .int .i64 0] 24)) (w.heap.size + 1) (.int .i64 x) (.int .i64 y) (.int .i64 z) (.int .i64 t)) := H4.alloc (h4_at (by simp)) _
  have RBwB : Hid (H4 (((w.alloc (.cells #[.int .i64 a, .int .i64 b, .int .i64 c, .int .i64 d] 24)).alloc (.cells #[.int .i64 x, .int .i64 y, .int .i64 z, .int .i64 t] 24)).alloc (.cells #[.int .i64 0, .int .i64 0, .int .i64 0, .int .i64 0] 24)) (w.heap.size + 1 + 1) (.int .i64 0) (.int .i64 0) (.int .i64 0) (.int .i64 0)) := h4_at (by simp)
  have XB : Ext w (((w.alloc (.cells #[.int .i64 a, .int .i64 b, .int .i64 c, .int .i64 d] 24)).alloc (.cells #[.int .i64 x, .int .i64 y, .int .i64 z, .int .i64 t] 24)).alloc (.cells #[.int .i64 0, .int .i64 0, .int .i64 0, .int .i64 0] 24)) := (((Ext.refl _).alloc _).alloc _).alloc _
  have ne1 : w.heap.size ≠ w.heap.size + 1 + 1 := by omega
  have ne2 : w.heap.size + 1 + 1 ≠ w.heap.size := by omega
  have ne3 : w.heap.size + 1 ≠ w.heap.size + 1 + 1 := by omega
  have ne4 : w.heap.size + 1 + 1 ≠ w.heap.size + 1 := by omega
  obtain ⟨s0, s1, s2, s3, s4, s5, s6, s7, s8⟩ := PBwB.out
  obtain ⟨t0, t1, t2, t3, t4, t5, t6, t7, t8⟩ := QBwB.out
  obtain ⟨r0, r1, r2, r3, r4, r5, r6, r7, r8⟩ := RBwB.out
  go_enter Tryz.func99, Tryz.ntmps99
  go_upto_region 1 with fail
  generalize (((w.alloc (.cells #[.int .i64 a, .int .i64 b, .int .i64 c, .int .i64 d] 24)).alloc (.cells #[.int .i64 x, .int .i64 y, .int .i64 z, .int .i64 t] 24)).alloc (.cells #[.int .i64 0, .int .i64 0, .int .i64 0, .int .i64 0] 24)) = wB at *
  go_region_held (fun w' => w'.cell? ⟨w.heap.size, 0, none⟩ = some (.int .i64 a) ∧ w'.cell? ⟨w.heap.size, 1, none⟩ = some (.int .i64 b) ∧ w'.cell? ⟨w.heap.size, 2, none⟩ = some (.int .i64 c) ∧ w'.cell? ⟨w.heap.size, 3, none⟩ = some (.int .i64 d) ∧ w'.cell? ⟨w.heap.size + 1, 0, none⟩ = some (.int .i64 x) ∧ w'.cell? ⟨w.heap.size + 1, 1, none⟩ = some (.int .i64 y) ∧ w'.cell? ⟨w.heap.size + 1, 2, none⟩ = some (.int .i64 z) ∧ w'.cell? ⟨w.heap.size + 1, 3, none⟩ = some (.int .i64 t)) (first | (go_keep; done) | skip) (first | (go_at_call 103; refine (HK.out _ _ _ _ _).mono ?_; rintro e wk ⟨rfl, xwk⟩; have ywk : Ext wB wk := Ext.trans (by repeat (first | with_reducible assumption | with_reducible exact Ext.refl _ | with_reducible refine Ext.drew ?_ | with_reducible refine Ext.drewN ?_ _ | with_reducible refine Ext.alloc ?_ _ | with_reducible refine Ext.set ?_ (by first | exact Nat.le_refl _ | (dsimp only; omega) | (simp; done)) _)) xwk; obtain ⟨s0, s1, s2, s3, s4, s5, s6, s7, s8⟩ := PBwB.out.ext ywk; obtain ⟨t0, t1, t2, t3, t4, t5, t6, t7, t8⟩ := QBwB.out.ext ywk; obtain ⟨r0, r1, r2, r3, r4, r5, r6, r7, r8⟩ := RBwB.out.ext ywk) | (go_at_call 52; refine (HO.out _ _ (by first | with_reducible exact h2_at rfl | with_reducible exact H2.drew (h2_at rfl) | exact h2_at (by simp) | exact H2.drew (h2_at (by simp)))).mono ?_; rintro e wo ⟨rfl, xwo⟩; have ywo : Ext wB wo := Ext.trans (by repeat (first | with_reducible assumption | with_reducible exact Ext.refl _ | with_reducible refine Ext.drew ?_ | with_reducible refine Ext.drewN ?_ _ | with_reducible refine Ext.alloc ?_ _ | with_reducible refine Ext.set ?_ (by first | exact Nat.le_refl _ | (dsimp only; omega) | (simp; done)) _)) xwo; obtain ⟨s0, s1, s2, s3, s4, s5, s6, s7, s8⟩ := PBwB.out.ext ywo; obtain ⟨t0, t1, t2, t3, t4, t5, t6, t7, t8⟩ := QBwB.out.ext ywo; obtain ⟨r0, r1, r2, r3, r4, r5, r6, r7, r8⟩ := RBwB.out.ext ywo))
  all_goals
    have X3 : Ext w wo := XB.trans ywo
    have PBwo : Hid (H4 wo w.heap.size (.int .i64 a) (.int .i64 b) (.int .i64 c) (.int .i64 d)) := PBwB.out.ext ywo
    have QBwo : Hid (H4 wo (w.heap.size + 1) (.int .i64 x) (.int .i64 y) (.int .i64 z) (.int .i64 t)) := QBwB.out.ext ywo
    have RBwo : Hid (H4 wo (w.heap.size + 1 + 1) (.int .i64 0) (.int .i64 0) (.int .i64 0) (.int .i64 0)) := RBwB.out.ext ywo
    go_wp2_with fail
    go_region_held (fun w' => w'.cell? ⟨w.heap.size, 0, none⟩ = some (.int .i64 a) ∧ w'.cell? ⟨w.heap.size, 1, none⟩ = some (.int .i64 b) ∧ w'.cell? ⟨w.heap.size, 2, none⟩ = some (.int .i64 c) ∧ w'.cell? ⟨w.heap.size, 3, none⟩ = some (.int .i64 d) ∧ w'.cell? ⟨w.heap.size + 1, 0, none⟩ = some (.int .i64 x) ∧ w'.cell? ⟨w.heap.size + 1, 1, none⟩ = some (.int .i64 y) ∧ w'.cell? ⟨w.heap.size + 1, 2, none⟩ = some (.int .i64 z) ∧ w'.cell? ⟨w.heap.size + 1, 3, none⟩ = some (.int .i64 t)) (first | (go_keep; done) | skip) (first | (go_at_call 101; refine (HF.out _ _ _ _ _).mono ?_; rintro e wf ⟨rfl, xwf⟩; have ywf : Ext wo wf := Ext.trans (by repeat (first | with_reducible assumption | with_reducible exact Ext.refl _ | with_reducible refine Ext.drew ?_ | with_reducible refine Ext.drewN ?_ _ | with_reducible refine Ext.alloc ?_ _ | with_reducible refine Ext.set ?_ (by first | exact Nat.le_refl _ | (dsimp only; omega) | (simp; done)) _)) xwf; obtain ⟨s0, s1, s2, s3, s4, s5, s6, s7, s8⟩ := PBwo.out.ext ywf; obtain ⟨t0, t1, t2, t3, t4, t5, t6, t7, t8⟩ := QBwo.out.ext ywf; obtain ⟨r0, r1, r2, r3, r4, r5, r6, r7, r8⟩ := RBwo.out.ext ywf) | (go_at_call 130; refine (HP.out _).mono ?_; rintro e wp ⟨⟨up, rfl, hp⟩, xwp⟩; have ywp : Ext wo wp := Ext.trans (by repeat (first | with_reducible assumption | with_reducible exact Ext.refl _ | with_reducible refine Ext.drew ?_ | with_reducible refine Ext.drewN ?_ _ | with_reducible refine Ext.alloc ?_ _ | with_reducible refine Ext.set ?_ (by first | exact Nat.le_refl _ | (dsimp only; omega) | (simp; done)) _)) xwp; obtain ⟨s0, s1, s2, s3, s4, s5, s6, s7, s8⟩ := PBwo.out.ext ywp; obtain ⟨t0, t1, t2, t3, t4, t5, t6, t7, t8⟩ := QBwo.out.ext ywp; obtain ⟨r0, r1, r2, r3, r4, r5, r6, r7, r8⟩ := RBwo.out.ext ywp) | (go_at_call 129; refine (HT.out _ _ hp).mono ?_; rintro e wt ⟨rfl, xwt⟩; have ywt : Ext wo wt := Ext.trans (by repeat (first | with_reducible assumption | with_reducible exact Ext.refl _ | with_reducible refine Ext.drew ?_ | with_reducible refine Ext.drewN ?_ _ | with_reducible refine Ext.alloc ?_ _ | with_reducible refine Ext.set ?_ (by first | exact Nat.le_refl _ | (dsimp only; omega) | (simp; done)) _)) xwt; obtain ⟨s0, s1, s2, s3, s4, s5, s6, s7, s8⟩ := PBwo.out.ext ywt; obtain ⟨t0, t1, t2, t3, t4, t5, t6, t7, t8⟩ := QBwo.out.ext ywt; obtain ⟨r0, r1, r2, r3, r4, r5, r6, r7, r8⟩ := RBwo.out.ext ywt) | (go_at_call 104; refine (HA.out _).mono ?_; rintro e wa ⟨rfl, xwa⟩; have ywa : Ext wo wa := Ext.trans (by repeat (first | with_reducible assumption | with_reducible exact Ext.refl _ | with_reducible refine Ext.drew ?_ | with_reducible refine Ext.drewN ?_ _ | with_reducible refine Ext.alloc ?_ _ | with_reducible refine Ext.set ?_ (by first | exact Nat.le_refl _ | (dsimp only; omega) | (simp; done)) _)) xwa; obtain ⟨s0, s1, s2, s3, s4, s5, s6, s7, s8⟩ := PBwo.out.ext ywa; obtain ⟨t0, t1, t2, t3, t4, t5, t6, t7, t8⟩ := QBwo.out.ext ywa; obtain ⟨r0, r1, r2, r3, r4, r5, r6, r7, r8⟩ := RBwo.out.ext ywa))
    all_goals
      have X4 : Ext w wa := X3.trans ywa
      go_wp2_with fail
      exact bodyPost_ret (v := .tuple #[.agg #[.int .i64 E0, .int .i64 E1, .int .i64 E2, .int .i64 E3], .int .i64 ee]) (by simp [results, Tryz.results99, go_sem, r0, r1, r2, r3]) rfl ⟨rfl, by repeat (first | with_reducible assumption | with_reducible exact Ext.refl _ | with_reducible refine Ext.drew ?_ | with_reducible refine Ext.drewN ?_ _ | with_reducible refine Ext.alloc ?_ _ | with_reducible refine Ext.set ?_ (by first | exact Nat.le_refl _ | (dsimp only; omega) | (simp; done)) _)⟩
end Go.Proofs.YtmbdcgijjpcppaaGreat

namespace Go.Proofs.YtmbdcgijjpcppaaGreat
open Go.RowKit Go.Shelf

theorem rootq_ex (p n : Nat) (h0 : 0 < n) : ∃ k, RootQ p n k := by
  obtain ⟨k, k1, k2⟩ := exists_sqrt (p / n)
  have hm : k * k * n ≤ p := by rw [← Nat.le_div_iff_mul_le h0]; exact k1
  have hM : p < (k + 1) * (k + 1) * n := by rw [← Nat.div_lt_iff_lt_mul h0]; exact k2
  by_cases h : (2 * k + 1) * (2 * k + 1) * n < 4 * p ∨ (2 * k + 1) * (2 * k + 1) * n = 4 * p ∧ k % 2 = 1
  · exact ⟨k + 1, rootQ_up hM h⟩
  · exact ⟨k, rootQ_down h0 hm (by omega)⟩
def qmulR (a b c d x y z t : Int) : Value := if ok4 a b c d && ok4 x y z t then qres (nearQ (qw a b c d x y z t)) (nearQ (qx a b c d x y z t)) (nearQ (qy a b c d x y z t)) (nearQ (qz a b c d x y z t)) else .tuple #[.agg #[.int .i64 0, .int .i64 0, .int .i64 0, .int .i64 0], .int .i64 1]
theorem chk4_cases (a b c d : Int) : chk4 a b c d = 0 ∧ ok4 a b c d = true ∨ chk4 a b c d = 1 ∧ ok4 a b c d = false := by
  unfold chk4; cases ok4 a b c d <;> simp
theorem prod_lt {a b : Int} (ha : okW a = true) (hb : okW b = true) : -1237940039285380274899124224 < a * b ∧ a * b < 1237940039285380274899124224 := by
  have h1 := word_abs ha; have h2 := word_abs hb
  have h3 : a.natAbs * b.natAbs ≤ 35184372088831 * 35184372088831 := Nat.mul_le_mul (by omega) (by omega)
  have h4 : (a * b).natAbs = a.natAbs * b.natAbs := Int.natAbs_mul a b
  omega
theorem qMul_any (a b c d x y z t : Int) (w : World) :
    Calls Tryz.prog 99 #[.agg #[.int .i64 a, .int .i64 b, .int .i64 c, .int .i64 d], .agg #[.int .i64 x, .int .i64 y, .int .i64 z, .int .i64 t]] w fun e w' => e = .returned (qmulR a b c d x y z t) ∧ Ext w w' := by
  unfold qmulR
  rcases chk4_cases a b c d with ⟨e1, h1⟩ | ⟨e1, h1⟩
  · rcases chk4_cases x y z t with ⟨e2, h2⟩ | ⟨e2, h2⟩
    · rw [h1, h2]
      have h1' := h1; have h2' := h2
      unfold ok4 at h1' h2'
      simp only [Bool.and_eq_true] at h1' h2'
      obtain ⟨ha, hb, hc, hd⟩ := h1'
      obtain ⟨hx, hy, hz, ht⟩ := h2'
      have q1 := prod_lt ha hx; have q2 := prod_lt hb hy; have q3 := prod_lt hc hz; have q4 := prod_lt hd ht
      have q5 := prod_lt ha hy; have q6 := prod_lt hb hx; have q7 := prod_lt hc ht; have q8 := prod_lt hd hz
      have q9 := prod_lt ha hz; have q10 := prod_lt hb ht; have q11 := prod_lt hc hx; have q12 := prod_lt hd hy
      have q13 := prod_lt ha ht; have q14 := prod_lt hb hz; have q15 := prod_lt hc hy; have q16 := prod_lt hd hx
      have b0 : (qw a b c d x y z t).natAbs < 4951760157141521099596496896 := by unfold qw; omega
      have b1 : (qx a b c d x y z t).natAbs < 4951760157141521099596496896 := by unfold qx; omega
      have b2 : (qy a b c d x y z t).natAbs < 4951760157141521099596496896 := by unfold qy; omega
      have b3 : (qz a b c d x y z t).natAbs < 4951760157141521099596496896 := by unfold qz; omega
      have iw : ∀ z : Int, z.natAbs < 4951760157141521099596496896 → InW (nearQ z) ∧ InW (z + 536870912) ∧ InW z := fun z hz => ⟨inW_of (by unfold nearQ oddQ; omega), inW_of (by omega), inW_of (by omega)⟩
      obtain ⟨E0, E1, E2, E3, ee, hE⟩ := qres_shape (nearQ (qw a b c d x y z t)) (nearQ (qx a b c d x y z t)) (nearQ (qy a b c d x y z t)) (nearQ (qz a b c d x y z t))
      rw [if_pos (show (true && true) = true from rfl), hE]
      refine qMul_yes a b c d x y z t _ _ _ _ E0 E1 E2 E3 ee w (fun a b c d w' => qCheck_any a b c d w') (fun g w' hg => cmpOr2 _ _ _ g w' hg (by rw [e1, e2]; rfl)) (fun a b c d w' => qof_any a b c d w') (fun w' => product64_any a b c d x y z t w' ha hb hc hd hx hy hz ht) ?_ (fun w' => asQuat_any _ _ _ _ _ w')
      intro v w' hv
      rw [← hE]
      obtain ⟨l0, l1, l2, l3, l4, l5, l6, l7, l8, l9, l10, l11, rfl, i0, i1, i2, i3⟩ := hv
      exact throughN_any l0 l1 l2 l3 l4 l5 l6 l7 l8 l9 l10 l11 _ _ _ _ w' (iw _ b0).1 (iw _ b1).1 (iw _ b2).1 (iw _ b3).1
        (fun w2 _ => qinQ30_any _ _ w2 i0 (iw _ b0).2.1 (iw _ b0).2.2) (fun w2 _ => qinQ30_any _ _ w2 i1 (iw _ b1).2.1 (iw _ b1).2.2)
        (fun w2 _ => qinQ30_any _ _ w2 i2 (iw _ b2).2.1 (iw _ b2).2.2) (fun w2 _ => qinQ30_any _ _ w2 i3 (iw _ b3).2.1 (iw _ b3).2.2)
    · rw [h2, Bool.and_false]
      exact qMul_bad a b c d x y z t w (fun a b c d w' => qCheck_any a b c d w') (fun g w' hg => cmpOr2 _ _ _ g w' hg (by rw [e1, e2]; rfl))
  · rw [h1]
    exact qMul_bad a b c d x y z t w (fun a b c d w' => qCheck_any a b c d w') (fun g w' hg => cmpOr2 _ _ _ g w' hg (by rw [e1]; rfl))

end Go.Proofs.YtmbdcgijjpcppaaGreat
