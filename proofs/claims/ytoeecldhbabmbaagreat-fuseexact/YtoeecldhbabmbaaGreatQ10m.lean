/- quat: Mul. -/
import Derived.Test.YtoeecldhbabmbaaGreatMg23
import Derived.Test.YtoeecldhbabmbaaGreatQ2m
import Derived.Test.YtoeecldhbabmbaaGreatMg11
import Derived.Deep.RegionHeld
import Derived.Deep.DeepCutAuto
open Go.Value renaming int → J, agg → zG
open Go.IntKind renaming i64 → zq
open Go.Ending renaming returned → zR
open Go.Proofs.Tryz renaming prog → zP
namespace Go.Proofs.YtoeecldhbabmbaaGreat
open Go.RowKit Go.Shelf
set_option maxRecDepth 20000 in
set_option maxHeartbeats 8000000 in
theorem qMul_bad (a b c d x y z t : Int) (w : World)
    (HK : Hid (∀ a b c d w', Calls zP 104 #[zG #[J zq a, J zq b, J zq c, J zq d]] w' fun e w'' => e = zR (J zq (chk4 a b c d)) ∧ Ext w' w''))
    (HO : Hid (∀ g w', H2 w' g (J zq (chk4 a b c d)) (J zq (chk4 x y z t)) → Calls zP 43 #[.slice (some ⟨g, 0, none⟩) 2 2] w' fun e w'' => e = zR (J zq 1) ∧ Ext w' w'')) :
    Calls zP 87 #[zG #[J zq a, J zq b, J zq c, J zq d], zG #[J zq x, J zq y, J zq z, J zq t]] w fun e w' => e = zR (.tuple #[zG #[J zq 0, J zq 0, J zq 0, J zq 0], J zq 1]) ∧ Ext w w' := by
  have PBwB : Hid (H4 (((w.alloc (.cells #[J zq a, J zq b, J zq c, J zq d] 24)).alloc (.cells #[J zq x, J zq y, J zq z, J zq t] 24)).alloc (.cells #[J zq 0, J zq 0, J zq 0, J zq 0] 24)) w.heap.size (J zq a) (J zq b) (J zq c) (J zq d)) := H4.alloc (H4.alloc (h4_at rfl) _) _
  have QBwB : Hid (H4 (((w.alloc (.cells #[J zq a, J zq b, J zq c, J zq d] 24)).alloc (.cells #[J zq x, J zq y, J zq z, J zq t] 24)).alloc (.cells #[J zq 0, J zq 0, J zq 0, J zq 0] 24)) (w.heap.size + 1) (J zq x) (J zq y) (J zq z) (J zq t)) := H4.alloc (h4_at (by simp)) _
  have RBwB : Hid (H4 (((w.alloc (.cells #[J zq a, J zq b, J zq c, J zq d] 24)).alloc (.cells #[J zq x, J zq y, J zq z, J zq t] 24)).alloc (.cells #[J zq 0, J zq 0, J zq 0, J zq 0] 24)) (w.heap.size + 1 + 1) (J zq 0) (J zq 0) (J zq 0) (J zq 0)) := h4_at (by simp)
  have XB : Ext w (((w.alloc (.cells #[J zq a, J zq b, J zq c, J zq d] 24)).alloc (.cells #[J zq x, J zq y, J zq z, J zq t] 24)).alloc (.cells #[J zq 0, J zq 0, J zq 0, J zq 0] 24)) := (((Ext.refl _).alloc _).alloc _).alloc _
  have ne1 : w.heap.size ≠ w.heap.size + 1 + 1 := by omega
  have ne2 : w.heap.size + 1 + 1 ≠ w.heap.size := by omega
  have ne3 : w.heap.size + 1 ≠ w.heap.size + 1 + 1 := by omega
  have ne4 : w.heap.size + 1 + 1 ≠ w.heap.size + 1 := by omega
  obtain ⟨s0, s1, s2, s3, s4, s5, s6, s7, s8⟩ := PBwB.out
  obtain ⟨t0, t1, t2, t3, t4, t5, t6, t7, t8⟩ := QBwB.out
  obtain ⟨r0, r1, r2, r3, r4, r5, r6, r7, r8⟩ := RBwB.out
  go_enter Tryz.func87, Tryz.ntmps87
  go_upto_region 1 with fail
  generalize (((w.alloc (.cells #[J zq a, J zq b, J zq c, J zq d] 24)).alloc (.cells #[J zq x, J zq y, J zq z, J zq t] 24)).alloc (.cells #[J zq 0, J zq 0, J zq 0, J zq 0] 24)) = wB at *
  go_region_held (fun w' => w'.cell? ⟨w.heap.size, 0, none⟩ = some (J zq a) ∧ w'.cell? ⟨w.heap.size, 1, none⟩ = some (J zq b) ∧ w'.cell? ⟨w.heap.size, 2, none⟩ = some (J zq c) ∧ w'.cell? ⟨w.heap.size, 3, none⟩ = some (J zq d) ∧ w'.cell? ⟨w.heap.size + 1, 0, none⟩ = some (J zq x) ∧ w'.cell? ⟨w.heap.size + 1, 1, none⟩ = some (J zq y) ∧ w'.cell? ⟨w.heap.size + 1, 2, none⟩ = some (J zq z) ∧ w'.cell? ⟨w.heap.size + 1, 3, none⟩ = some (J zq t)) (first | (go_keep; done) | skip) (first | (go_at_call 104; refine (HK.out _ _ _ _ _).mono ?_; rintro e wk ⟨rfl, xwk⟩; have ywk : Ext wB wk := Ext.trans xa xwk; obtain ⟨s0, s1, s2, s3, s4, s5, s6, s7, s8⟩ := PBwB.out.ext ywk; obtain ⟨t0, t1, t2, t3, t4, t5, t6, t7, t8⟩ := QBwB.out.ext ywk; obtain ⟨r0, r1, r2, r3, r4, r5, r6, r7, r8⟩ := RBwB.out.ext ywk) | (go_at_call 43; refine (HO.out _ _ (by first | with_reducible exact h2_at rfl | with_reducible exact H2.drew (h2_at rfl) | exact h2_at (by simp) | exact H2.drew (h2_at (by simp)))).mono ?_; rintro e wo ⟨rfl, xwo⟩; have ywo : Ext wB wo := Ext.trans xa xwo; obtain ⟨s0, s1, s2, s3, s4, s5, s6, s7, s8⟩ := PBwB.out.ext ywo; obtain ⟨t0, t1, t2, t3, t4, t5, t6, t7, t8⟩ := QBwB.out.ext ywo; obtain ⟨r0, r1, r2, r3, r4, r5, r6, r7, r8⟩ := RBwB.out.ext ywo))
  all_goals
    have X3 : Ext w wo := XB.trans ywo
    go_wp2_with fail
    exact bodyPost_ret (v := .tuple #[zG #[J zq 0, J zq 0, J zq 0, J zq 0], J zq 1]) (by simp [results, Tryz.results87, go_sem, r0, r1, r2, r3]) rfl ⟨rfl, xa⟩
set_option maxRecDepth 20000 in
set_option maxHeartbeats 8000000 in
theorem qMul_yes (a b c d x y z t Z0 Z1 Z2 Z3 E0 E1 E2 E3 ee : Int) (w : World)
    (HK : Hid (∀ a b c d w', Calls zP 104 #[zG #[J zq a, J zq b, J zq c, J zq d]] w' fun e w'' => e = zR (J zq (chk4 a b c d)) ∧ Ext w' w''))
    (HO : Hid (∀ g w', H2 w' g (J zq (chk4 a b c d)) (J zq (chk4 x y z t)) → Calls zP 43 #[.slice (some ⟨g, 0, none⟩) 2 2] w' fun e w'' => e = zR (J zq 0) ∧ Ext w' w''))
    (HF : Hid (∀ a b c d w', Calls zP 89 #[zG #[J zq a, J zq b, J zq c, J zq d]] w' fun e w'' => e = zR (zG #[J zq a, J zq b, J zq c, J zq d]) ∧ Ext w' w''))
    (HP : Hid (∀ w', Calls zP 115 #[zG #[J zq a, J zq b, J zq c, J zq d], zG #[J zq x, J zq y, J zq z, J zq t], .func (.func 116) #[] #[]] w' fun e w'' => (∃ r, e = zR r ∧ IsF r Z0 Z1 Z2 Z3) ∧ Ext w' w''))
    (HT : Hid (∀ v w', IsF v Z0 Z1 Z2 Z3 → Calls zP 114 #[v, .func (.func 117) #[] #[]] w' fun e w'' => e = zR (.tuple #[zG #[J zq E0, J zq E1, J zq E2, J zq E3], J zq ee]) ∧ Ext w' w''))
    (HA : Hid (∀ w', Calls zP 105 #[zG #[J zq E0, J zq E1, J zq E2, J zq E3], J zq ee] w' fun e w'' => e = zR (.tuple #[zG #[J zq E0, J zq E1, J zq E2, J zq E3], J zq ee]) ∧ Ext w' w'')) :
    Calls zP 87 #[zG #[J zq a, J zq b, J zq c, J zq d], zG #[J zq x, J zq y, J zq z, J zq t]] w fun e w' => e = zR (.tuple #[zG #[J zq E0, J zq E1, J zq E2, J zq E3], J zq ee]) ∧ Ext w w' := by
  have PBwB : Hid (H4 (((w.alloc (.cells #[J zq a, J zq b, J zq c, J zq d] 24)).alloc (.cells #[J zq x, J zq y, J zq z, J zq t] 24)).alloc (.cells #[J zq 0, J zq 0, J zq 0, J zq 0] 24)) w.heap.size (J zq a) (J zq b) (J zq c) (J zq d)) := H4.alloc (H4.alloc (h4_at rfl) _) _
  have QBwB : Hid (H4 (((w.alloc (.cells #[J zq a, J zq b, J zq c, J zq d] 24)).alloc (.cells #[J zq x, J zq y, J zq z, J zq t] 24)).alloc (.cells #[J zq 0, J zq 0, J zq 0, J zq 0] 24)) (w.heap.size + 1) (J zq x) (J zq y) (J zq z) (J zq t)) := H4.alloc (h4_at (by simp)) _
  have RBwB : Hid (H4 (((w.alloc (.cells #[J zq a, J zq b, J zq c, J zq d] 24)).alloc (.cells #[J zq x, J zq y, J zq z, J zq t] 24)).alloc (.cells #[J zq 0, J zq 0, J zq 0, J zq 0] 24)) (w.heap.size + 1 + 1) (J zq 0) (J zq 0) (J zq 0) (J zq 0)) := h4_at (by simp)
  have XB : Ext w (((w.alloc (.cells #[J zq a, J zq b, J zq c, J zq d] 24)).alloc (.cells #[J zq x, J zq y, J zq z, J zq t] 24)).alloc (.cells #[J zq 0, J zq 0, J zq 0, J zq 0] 24)) := (((Ext.refl _).alloc _).alloc _).alloc _
  have ne1 : w.heap.size ≠ w.heap.size + 1 + 1 := by omega
  have ne2 : w.heap.size + 1 + 1 ≠ w.heap.size := by omega
  have ne3 : w.heap.size + 1 ≠ w.heap.size + 1 + 1 := by omega
  have ne4 : w.heap.size + 1 + 1 ≠ w.heap.size + 1 := by omega
  obtain ⟨s0, s1, s2, s3, s4, s5, s6, s7, s8⟩ := PBwB.out
  obtain ⟨t0, t1, t2, t3, t4, t5, t6, t7, t8⟩ := QBwB.out
  obtain ⟨r0, r1, r2, r3, r4, r5, r6, r7, r8⟩ := RBwB.out
  go_enter Tryz.func87, Tryz.ntmps87
  go_upto_region 1 with fail
  generalize (((w.alloc (.cells #[J zq a, J zq b, J zq c, J zq d] 24)).alloc (.cells #[J zq x, J zq y, J zq z, J zq t] 24)).alloc (.cells #[J zq 0, J zq 0, J zq 0, J zq 0] 24)) = wB at *
  go_region_held (fun w' => w'.cell? ⟨w.heap.size, 0, none⟩ = some (J zq a) ∧ w'.cell? ⟨w.heap.size, 1, none⟩ = some (J zq b) ∧ w'.cell? ⟨w.heap.size, 2, none⟩ = some (J zq c) ∧ w'.cell? ⟨w.heap.size, 3, none⟩ = some (J zq d) ∧ w'.cell? ⟨w.heap.size + 1, 0, none⟩ = some (J zq x) ∧ w'.cell? ⟨w.heap.size + 1, 1, none⟩ = some (J zq y) ∧ w'.cell? ⟨w.heap.size + 1, 2, none⟩ = some (J zq z) ∧ w'.cell? ⟨w.heap.size + 1, 3, none⟩ = some (J zq t)) (first | (go_keep; done) | skip) (first | (go_at_call 104; refine (HK.out _ _ _ _ _).mono ?_; rintro e wk ⟨rfl, xwk⟩; have ywk : Ext wB wk := Ext.trans xa xwk; obtain ⟨s0, s1, s2, s3, s4, s5, s6, s7, s8⟩ := PBwB.out.ext ywk; obtain ⟨t0, t1, t2, t3, t4, t5, t6, t7, t8⟩ := QBwB.out.ext ywk; obtain ⟨r0, r1, r2, r3, r4, r5, r6, r7, r8⟩ := RBwB.out.ext ywk) | (go_at_call 43; refine (HO.out _ _ (by first | with_reducible exact h2_at rfl | with_reducible exact H2.drew (h2_at rfl) | exact h2_at (by simp) | exact H2.drew (h2_at (by simp)))).mono ?_; rintro e wo ⟨rfl, xwo⟩; have ywo : Ext wB wo := Ext.trans xa xwo; obtain ⟨s0, s1, s2, s3, s4, s5, s6, s7, s8⟩ := PBwB.out.ext ywo; obtain ⟨t0, t1, t2, t3, t4, t5, t6, t7, t8⟩ := QBwB.out.ext ywo; obtain ⟨r0, r1, r2, r3, r4, r5, r6, r7, r8⟩ := RBwB.out.ext ywo))
  all_goals
    have X3 : Ext w wo := XB.trans ywo
    have PBwo : Hid (H4 wo w.heap.size (J zq a) (J zq b) (J zq c) (J zq d)) := PBwB.out.ext ywo
    have QBwo : Hid (H4 wo (w.heap.size + 1) (J zq x) (J zq y) (J zq z) (J zq t)) := QBwB.out.ext ywo
    have RBwo : Hid (H4 wo (w.heap.size + 1 + 1) (J zq 0) (J zq 0) (J zq 0) (J zq 0)) := RBwB.out.ext ywo
    go_wp2_with fail
    go_region_held (fun w' => w'.cell? ⟨w.heap.size, 0, none⟩ = some (J zq a) ∧ w'.cell? ⟨w.heap.size, 1, none⟩ = some (J zq b) ∧ w'.cell? ⟨w.heap.size, 2, none⟩ = some (J zq c) ∧ w'.cell? ⟨w.heap.size, 3, none⟩ = some (J zq d) ∧ w'.cell? ⟨w.heap.size + 1, 0, none⟩ = some (J zq x) ∧ w'.cell? ⟨w.heap.size + 1, 1, none⟩ = some (J zq y) ∧ w'.cell? ⟨w.heap.size + 1, 2, none⟩ = some (J zq z) ∧ w'.cell? ⟨w.heap.size + 1, 3, none⟩ = some (J zq t)) (first | (go_keep; done) | skip) (first | (go_at_call 89; refine (HF.out _ _ _ _ _).mono ?_; rintro e wf ⟨rfl, xwf⟩; have ywf : Ext wo wf := Ext.trans xa xwf; obtain ⟨s0, s1, s2, s3, s4, s5, s6, s7, s8⟩ := PBwo.out.ext ywf; obtain ⟨t0, t1, t2, t3, t4, t5, t6, t7, t8⟩ := QBwo.out.ext ywf; obtain ⟨r0, r1, r2, r3, r4, r5, r6, r7, r8⟩ := RBwo.out.ext ywf) | (go_at_call 115; refine (HP.out _).mono ?_; rintro e wp ⟨⟨up, rfl, hp⟩, xwp⟩; have ywp : Ext wo wp := Ext.trans xa xwp; obtain ⟨s0, s1, s2, s3, s4, s5, s6, s7, s8⟩ := PBwo.out.ext ywp; obtain ⟨t0, t1, t2, t3, t4, t5, t6, t7, t8⟩ := QBwo.out.ext ywp; obtain ⟨r0, r1, r2, r3, r4, r5, r6, r7, r8⟩ := RBwo.out.ext ywp) | (go_at_call 114; refine (HT.out _ _ hp).mono ?_; rintro e wt ⟨rfl, xwt⟩; have ywt : Ext wo wt := Ext.trans xa xwt; obtain ⟨s0, s1, s2, s3, s4, s5, s6, s7, s8⟩ := PBwo.out.ext ywt; obtain ⟨t0, t1, t2, t3, t4, t5, t6, t7, t8⟩ := QBwo.out.ext ywt; obtain ⟨r0, r1, r2, r3, r4, r5, r6, r7, r8⟩ := RBwo.out.ext ywt) | (go_at_call 105; refine (HA.out _).mono ?_; rintro e wa ⟨rfl, xwa⟩; have ywa : Ext wo wa := Ext.trans xa xwa; obtain ⟨s0, s1, s2, s3, s4, s5, s6, s7, s8⟩ := PBwo.out.ext ywa; obtain ⟨t0, t1, t2, t3, t4, t5, t6, t7, t8⟩ := QBwo.out.ext ywa; obtain ⟨r0, r1, r2, r3, r4, r5, r6, r7, r8⟩ := RBwo.out.ext ywa))
    all_goals
      have X4 : Ext w wa := X3.trans ywa
      go_wp2_with fail
      exact bodyPost_ret (v := .tuple #[zG #[J zq E0, J zq E1, J zq E2, J zq E3], J zq ee]) (by simp [results, Tryz.results87, go_sem, r0, r1, r2, r3]) rfl ⟨rfl, xa⟩
end Go.Proofs.YtoeecldhbabmbaaGreat
