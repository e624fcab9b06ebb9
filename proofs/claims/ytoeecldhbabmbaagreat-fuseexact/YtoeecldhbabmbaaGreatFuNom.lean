/- fuse: Spin, Up, North. -/
import Derived.Test.YtoeecldhbabmbaaGreatMg26
import Derived.Test.YtoeecldhbabmbaaGreatMg11
import Derived.Test.YtoeecldhbabmbaaGreatV1m
import Derived.Deep.RegionHeld
import Derived.Deep.DeepCutAuto
open Go.Value renaming int → J, agg → zG
open Go.IntKind renaming i64 → zq
open Go.Ending renaming returned → zR
open Go.Proofs.Tryz renaming prog → zP
namespace Go.Proofs.YtoeecldhbabmbaaGreat
open Go.RowKit Go.Shelf
set_option maxRecDepth 20000 in
set_option maxHeartbeats 8000000 in
theorem north_bad (a b c d x y z e0 e1 er : Int) (w : World) (HK : Hid (∀ w', Calls zP 11 #[zG #[J zq a, J zq b, J zq c, J zq d]] w' fun e w'' => e = zR (J zq e0) ∧ Ext w' w'')) (KV : Hid (∀ w', Calls zP 36 #[zG #[J zq x, J zq y, J zq z]] w' fun e w'' => e = zR (J zq e1) ∧ Ext w' w'')) (HO : Hid (∀ g w', H2 w' g (J zq e0) (J zq e1) → Calls zP 43 #[.slice (some ⟨g, 0, none⟩) 2 2] w' fun e w'' => e = zR (J zq er) ∧ Ext w' w'')) (her : ¬ er = 0) :
    Calls zP 14 #[zG #[J zq a, J zq b, J zq c, J zq d], zG #[J zq x, J zq y, J zq z]] w fun e w' => e = zR (.tuple #[zG #[J zq 0, J zq 0, J zq 0, J zq 0], J zq er]) ∧ Ext w w' := by
  have RB : Hid (HV (((w.alloc (.cells #[J zq a, J zq b, J zq c, J zq d] 26)).alloc (.cells #[J zq x, J zq y, J zq z] 28)).alloc (.cells #[J zq 0, J zq 0, J zq 0, J zq 0] 26)) (w.heap.size + 1 + 1) [J zq 0, J zq 0, J zq 0, J zq 0]) := hv_at (by simp)
  have FB : Hid (HV (((w.alloc (.cells #[J zq a, J zq b, J zq c, J zq d] 26)).alloc (.cells #[J zq x, J zq y, J zq z] 28)).alloc (.cells #[J zq 0, J zq 0, J zq 0, J zq 0] 26)) w.heap.size [J zq a, J zq b, J zq c, J zq d]) := HV.alloc (HV.alloc (hv_at rfl) _) _
  have VB : Hid (HV (((w.alloc (.cells #[J zq a, J zq b, J zq c, J zq d] 26)).alloc (.cells #[J zq x, J zq y, J zq z] 28)).alloc (.cells #[J zq 0, J zq 0, J zq 0, J zq 0] 26)) (w.heap.size + 1) [J zq x, J zq y, J zq z]) := HV.alloc (hv_at (by simp)) _
  have XB : Ext w (((w.alloc (.cells #[J zq a, J zq b, J zq c, J zq d] 26)).alloc (.cells #[J zq x, J zq y, J zq z] 28)).alloc (.cells #[J zq 0, J zq 0, J zq 0, J zq 0] 26)) := (((Ext.refl _).alloc _).alloc _).alloc _
  have ne1 : w.heap.size ≠ w.heap.size + 1 + 1 := by omega
  have ne2 : w.heap.size + 1 + 1 ≠ w.heap.size := by omega
  have ne3 : w.heap.size + 1 ≠ w.heap.size + 1 + 1 := by omega
  have ne4 : w.heap.size + 1 + 1 ≠ w.heap.size + 1 := by omega
  obtain ⟨q0, q1, q2, q3⟩ := FB.out.k4
  obtain ⟨v0, v1, v2⟩ := VB.out.k3
  have ql := FB.out.1
  have vl := VB.out.1
  go_enter Tryz.func14, Tryz.ntmps14
  go_upto_region 1 with fail
  generalize ((w.alloc (.cells #[J zq a, J zq b, J zq c, J zq d] 26)).alloc (.cells #[J zq x, J zq y, J zq z] 28)).alloc (.cells #[J zq 0, J zq 0, J zq 0, J zq 0] 26) = wB at *
  go_region_held (fun w' => w'.cell? ⟨w.heap.size, 0, none⟩ = some (J zq a) ∧ w'.cell? ⟨w.heap.size, 1, none⟩ = some (J zq b) ∧ w'.cell? ⟨w.heap.size, 2, none⟩ = some (J zq c) ∧ w'.cell? ⟨w.heap.size, 3, none⟩ = some (J zq d) ∧ w'.cell? ⟨w.heap.size + 1, 0, none⟩ = some (J zq x) ∧ w'.cell? ⟨w.heap.size + 1, 1, none⟩ = some (J zq y) ∧ w'.cell? ⟨w.heap.size + 1, 2, none⟩ = some (J zq z)) (first | (go_keep; done) | skip) (first | (go_at_call 11; refine (HK.out _).mono ?_; rintro e wk ⟨rfl, xwk⟩; have ywk : Ext wB wk := Ext.trans xa xwk; obtain ⟨q0, q1, q2, q3⟩ := (FB.out.ext ywk).k4; obtain ⟨v0, v1, v2⟩ := (VB.out.ext ywk).k3; have ql := (FB.out.ext ywk).1; have vl := (VB.out.ext ywk).1) | (go_at_call 36; refine (KV.out _).mono ?_; rintro e wv ⟨rfl, xwv⟩; have ywv : Ext wB wv := Ext.trans xa xwv; obtain ⟨q0, q1, q2, q3⟩ := (FB.out.ext ywv).k4; obtain ⟨v0, v1, v2⟩ := (VB.out.ext ywv).k3; have ql := (FB.out.ext ywv).1; have vl := (VB.out.ext ywv).1) | (go_at_call 43; refine (HO.out _ _ (by first | with_reducible exact h2_at rfl | with_reducible exact H2.drew (h2_at rfl) | exact h2_at (by simp) | exact H2.drew (h2_at (by simp)))).mono ?_; rintro e wo ⟨rfl, xwo⟩; have ywo : Ext wB wo := Ext.trans xa xwo; obtain ⟨q0, q1, q2, q3⟩ := (FB.out.ext ywo).k4; obtain ⟨v0, v1, v2⟩ := (VB.out.ext ywo).k3; have ql := (FB.out.ext ywo).1; have vl := (VB.out.ext ywo).1))
  all_goals
    have X1 : Ext w wo := XB.trans ywo
    have RB1 : Hid (HV wo (w.heap.size + 1 + 1) [J zq 0, J zq 0, J zq 0, J zq 0]) := RB.out.ext ywo
    have FB1 := hvx FB ywo
    have VB1 : Hid (HV wo (w.heap.size + 1) [J zq x, J zq y, J zq z]) := VB.out.ext ywo
    obtain ⟨r0, r1, r2, r3⟩ := RB1.out.k4
    obtain ⟨z0, z1, z2, z3⟩ := RB1.out.z4
    have rl := RB1.out.1
    go_wp2_with fail
    exact bodyPost_ret (v := .tuple #[zG #[J zq 0, J zq 0, J zq 0, J zq 0], J zq er]) (by simp [results, Tryz.results14, go_sem, r0, r1, r2, r3]) rfl ⟨rfl, xa⟩
set_option maxRecDepth 20000 in
set_option maxHeartbeats 8000000 in
theorem north_err (a b c d x y z e0 e1 h0 h1 h2 er : Int) (w : World) (HK : Hid (∀ w', Calls zP 11 #[zG #[J zq a, J zq b, J zq c, J zq d]] w' fun e w'' => e = zR (J zq e0) ∧ Ext w' w'')) (KV : Hid (∀ w', Calls zP 36 #[zG #[J zq x, J zq y, J zq z]] w' fun e w'' => e = zR (J zq e1) ∧ Ext w' w'')) (HO : Hid (∀ g w', H2 w' g (J zq e0) (J zq e1) → Calls zP 43 #[.slice (some ⟨g, 0, none⟩) 2 2] w' fun e w'' => e = zR (J zq 0) ∧ Ext w' w'')) (HT : Hid (∀ w', Calls zP 47 #[zG #[J zq a, J zq b, J zq c, J zq d], zG #[J zq x, J zq y, J zq z]] w' fun e w'' => e = zR (.tuple #[zG #[J zq h0, J zq h1, J zq h2], J zq er]) ∧ Ext w' w'')) (her : ¬ er = 0) :
    Calls zP 14 #[zG #[J zq a, J zq b, J zq c, J zq d], zG #[J zq x, J zq y, J zq z]] w fun e w' => e = zR (.tuple #[zG #[J zq 0, J zq 0, J zq 0, J zq 0], J zq er]) ∧ Ext w w' := by
  have RB : Hid (HV (((w.alloc (.cells #[J zq a, J zq b, J zq c, J zq d] 26)).alloc (.cells #[J zq x, J zq y, J zq z] 28)).alloc (.cells #[J zq 0, J zq 0, J zq 0, J zq 0] 26)) (w.heap.size + 1 + 1) [J zq 0, J zq 0, J zq 0, J zq 0]) := hv_at (by simp)
  have FB : Hid (HV (((w.alloc (.cells #[J zq a, J zq b, J zq c, J zq d] 26)).alloc (.cells #[J zq x, J zq y, J zq z] 28)).alloc (.cells #[J zq 0, J zq 0, J zq 0, J zq 0] 26)) w.heap.size [J zq a, J zq b, J zq c, J zq d]) := HV.alloc (HV.alloc (hv_at rfl) _) _
  have VB : Hid (HV (((w.alloc (.cells #[J zq a, J zq b, J zq c, J zq d] 26)).alloc (.cells #[J zq x, J zq y, J zq z] 28)).alloc (.cells #[J zq 0, J zq 0, J zq 0, J zq 0] 26)) (w.heap.size + 1) [J zq x, J zq y, J zq z]) := HV.alloc (hv_at (by simp)) _
  have XB : Ext w (((w.alloc (.cells #[J zq a, J zq b, J zq c, J zq d] 26)).alloc (.cells #[J zq x, J zq y, J zq z] 28)).alloc (.cells #[J zq 0, J zq 0, J zq 0, J zq 0] 26)) := (((Ext.refl _).alloc _).alloc _).alloc _
  have ne1 : w.heap.size ≠ w.heap.size + 1 + 1 := by omega
  have ne2 : w.heap.size + 1 + 1 ≠ w.heap.size := by omega
  have ne3 : w.heap.size + 1 ≠ w.heap.size + 1 + 1 := by omega
  have ne4 : w.heap.size + 1 + 1 ≠ w.heap.size + 1 := by omega
  obtain ⟨q0, q1, q2, q3⟩ := FB.out.k4
  obtain ⟨v0, v1, v2⟩ := VB.out.k3
  have ql := FB.out.1
  have vl := VB.out.1
  go_enter Tryz.func14, Tryz.ntmps14
  go_upto_region 1 with fail
  generalize ((w.alloc (.cells #[J zq a, J zq b, J zq c, J zq d] 26)).alloc (.cells #[J zq x, J zq y, J zq z] 28)).alloc (.cells #[J zq 0, J zq 0, J zq 0, J zq 0] 26) = wB at *
  go_region_held (fun w' => w'.cell? ⟨w.heap.size, 0, none⟩ = some (J zq a) ∧ w'.cell? ⟨w.heap.size, 1, none⟩ = some (J zq b) ∧ w'.cell? ⟨w.heap.size, 2, none⟩ = some (J zq c) ∧ w'.cell? ⟨w.heap.size, 3, none⟩ = some (J zq d) ∧ w'.cell? ⟨w.heap.size + 1, 0, none⟩ = some (J zq x) ∧ w'.cell? ⟨w.heap.size + 1, 1, none⟩ = some (J zq y) ∧ w'.cell? ⟨w.heap.size + 1, 2, none⟩ = some (J zq z)) (first | (go_keep; done) | skip) (first | (go_at_call 11; refine (HK.out _).mono ?_; rintro e wk ⟨rfl, xwk⟩; have ywk : Ext wB wk := Ext.trans xa xwk; obtain ⟨q0, q1, q2, q3⟩ := (FB.out.ext ywk).k4; obtain ⟨v0, v1, v2⟩ := (VB.out.ext ywk).k3; have ql := (FB.out.ext ywk).1; have vl := (VB.out.ext ywk).1) | (go_at_call 36; refine (KV.out _).mono ?_; rintro e wv ⟨rfl, xwv⟩; have ywv : Ext wB wv := Ext.trans xa xwv; obtain ⟨q0, q1, q2, q3⟩ := (FB.out.ext ywv).k4; obtain ⟨v0, v1, v2⟩ := (VB.out.ext ywv).k3; have ql := (FB.out.ext ywv).1; have vl := (VB.out.ext ywv).1) | (go_at_call 43; refine (HO.out _ _ (by first | with_reducible exact h2_at rfl | with_reducible exact H2.drew (h2_at rfl) | exact h2_at (by simp) | exact H2.drew (h2_at (by simp)))).mono ?_; rintro e wo ⟨rfl, xwo⟩; have ywo : Ext wB wo := Ext.trans xa xwo; obtain ⟨q0, q1, q2, q3⟩ := (FB.out.ext ywo).k4; obtain ⟨v0, v1, v2⟩ := (VB.out.ext ywo).k3; have ql := (FB.out.ext ywo).1; have vl := (VB.out.ext ywo).1))
  all_goals
    have X1 : Ext w wo := XB.trans ywo
    have RB1 : Hid (HV wo (w.heap.size + 1 + 1) [J zq 0, J zq 0, J zq 0, J zq 0]) := RB.out.ext ywo
    have FB1 := hvx FB ywo
    have VB1 : Hid (HV wo (w.heap.size + 1) [J zq x, J zq y, J zq z]) := VB.out.ext ywo
    go_wp2_with fail
    refine (HT.out _).mono ?_
    rintro e w2 ⟨rfl, x2⟩
    have X2 : Ext w w2 := X1.trans x2
    have RB2 : Hid (HV w2 (w.heap.size + 1 + 1) [J zq 0, J zq 0, J zq 0, J zq 0]) := RB1.out.ext x2
    have FB2 := hvx FB1 x2
    have VB2 : Hid (HV w2 (w.heap.size + 1) [J zq x, J zq y, J zq z]) := VB1.out.ext x2
    obtain ⟨r0, r1, r2, r3⟩ := RB2.out.k4
    obtain ⟨z0, z1, z2, z3⟩ := RB2.out.z4
    have rl := RB2.out.1
    go_wp2_with fail
    exact bodyPost_ret (v := .tuple #[zG #[J zq 0, J zq 0, J zq 0, J zq 0], J zq er]) (by simp [results, Tryz.results14, go_sem, r0, r1, r2, r3, rl]) rfl ⟨rfl, xa⟩
set_option maxRecDepth 20000 in
set_option maxHeartbeats 8000000 in
theorem north_stays (a b c d x y z e0 e1 h2 : Int) (w : World) (HK : Hid (∀ w', Calls zP 11 #[zG #[J zq a, J zq b, J zq c, J zq d]] w' fun e w'' => e = zR (J zq e0) ∧ Ext w' w'')) (KV : Hid (∀ w', Calls zP 36 #[zG #[J zq x, J zq y, J zq z]] w' fun e w'' => e = zR (J zq e1) ∧ Ext w' w'')) (HO : Hid (∀ g w', H2 w' g (J zq e0) (J zq e1) → Calls zP 43 #[.slice (some ⟨g, 0, none⟩) 2 2] w' fun e w'' => e = zR (J zq 0) ∧ Ext w' w'')) (HT : Hid (∀ w', Calls zP 47 #[zG #[J zq a, J zq b, J zq c, J zq d], zG #[J zq x, J zq y, J zq z]] w' fun e w'' => e = zR (.tuple #[zG #[J zq 0, J zq 0, J zq h2], J zq 0]) ∧ Ext w' w'')) (HE : Hid (∀ w', (Op.equalIn 10000 28 (zG #[J zq 0, J zq 0, J zq 0]) (zG #[J zq 0, J zq 0, J zq 0])).run zP w' = .ok true w')) :
    Calls zP 14 #[zG #[J zq a, J zq b, J zq c, J zq d], zG #[J zq x, J zq y, J zq z]] w fun e w' => e = zR (.tuple #[zG #[J zq a, J zq b, J zq c, J zq d], J zq 0]) ∧ Ext w w' := by
  have RB : Hid (HV (((w.alloc (.cells #[J zq a, J zq b, J zq c, J zq d] 26)).alloc (.cells #[J zq x, J zq y, J zq z] 28)).alloc (.cells #[J zq 0, J zq 0, J zq 0, J zq 0] 26)) (w.heap.size + 1 + 1) [J zq 0, J zq 0, J zq 0, J zq 0]) := hv_at (by simp)
  have FB : Hid (HV (((w.alloc (.cells #[J zq a, J zq b, J zq c, J zq d] 26)).alloc (.cells #[J zq x, J zq y, J zq z] 28)).alloc (.cells #[J zq 0, J zq 0, J zq 0, J zq 0] 26)) w.heap.size [J zq a, J zq b, J zq c, J zq d]) := HV.alloc (HV.alloc (hv_at rfl) _) _
  have VB : Hid (HV (((w.alloc (.cells #[J zq a, J zq b, J zq c, J zq d] 26)).alloc (.cells #[J zq x, J zq y, J zq z] 28)).alloc (.cells #[J zq 0, J zq 0, J zq 0, J zq 0] 26)) (w.heap.size + 1) [J zq x, J zq y, J zq z]) := HV.alloc (hv_at (by simp)) _
  have XB : Ext w (((w.alloc (.cells #[J zq a, J zq b, J zq c, J zq d] 26)).alloc (.cells #[J zq x, J zq y, J zq z] 28)).alloc (.cells #[J zq 0, J zq 0, J zq 0, J zq 0] 26)) := (((Ext.refl _).alloc _).alloc _).alloc _
  have ne1 : w.heap.size ≠ w.heap.size + 1 + 1 := by omega
  have ne2 : w.heap.size + 1 + 1 ≠ w.heap.size := by omega
  have ne3 : w.heap.size + 1 ≠ w.heap.size + 1 + 1 := by omega
  have ne4 : w.heap.size + 1 + 1 ≠ w.heap.size + 1 := by omega
  obtain ⟨q0, q1, q2, q3⟩ := FB.out.k4
  obtain ⟨v0, v1, v2⟩ := VB.out.k3
  have ql := FB.out.1
  have vl := VB.out.1
  go_enter Tryz.func14, Tryz.ntmps14
  go_upto_region 1 with fail
  generalize ((w.alloc (.cells #[J zq a, J zq b, J zq c, J zq d] 26)).alloc (.cells #[J zq x, J zq y, J zq z] 28)).alloc (.cells #[J zq 0, J zq 0, J zq 0, J zq 0] 26) = wB at *
  go_region_held (fun w' => w'.cell? ⟨w.heap.size, 0, none⟩ = some (J zq a) ∧ w'.cell? ⟨w.heap.size, 1, none⟩ = some (J zq b) ∧ w'.cell? ⟨w.heap.size, 2, none⟩ = some (J zq c) ∧ w'.cell? ⟨w.heap.size, 3, none⟩ = some (J zq d) ∧ w'.cell? ⟨w.heap.size + 1, 0, none⟩ = some (J zq x) ∧ w'.cell? ⟨w.heap.size + 1, 1, none⟩ = some (J zq y) ∧ w'.cell? ⟨w.heap.size + 1, 2, none⟩ = some (J zq z)) (first | (go_keep; done) | skip) (first | (go_at_call 11; refine (HK.out _).mono ?_; rintro e wk ⟨rfl, xwk⟩; have ywk : Ext wB wk := Ext.trans xa xwk; obtain ⟨q0, q1, q2, q3⟩ := (FB.out.ext ywk).k4; obtain ⟨v0, v1, v2⟩ := (VB.out.ext ywk).k3; have ql := (FB.out.ext ywk).1; have vl := (VB.out.ext ywk).1) | (go_at_call 36; refine (KV.out _).mono ?_; rintro e wv ⟨rfl, xwv⟩; have ywv : Ext wB wv := Ext.trans xa xwv; obtain ⟨q0, q1, q2, q3⟩ := (FB.out.ext ywv).k4; obtain ⟨v0, v1, v2⟩ := (VB.out.ext ywv).k3; have ql := (FB.out.ext ywv).1; have vl := (VB.out.ext ywv).1) | (go_at_call 43; refine (HO.out _ _ (by first | with_reducible exact h2_at rfl | with_reducible exact H2.drew (h2_at rfl) | exact h2_at (by simp) | exact H2.drew (h2_at (by simp)))).mono ?_; rintro e wo ⟨rfl, xwo⟩; have ywo : Ext wB wo := Ext.trans xa xwo; obtain ⟨q0, q1, q2, q3⟩ := (FB.out.ext ywo).k4; obtain ⟨v0, v1, v2⟩ := (VB.out.ext ywo).k3; have ql := (FB.out.ext ywo).1; have vl := (VB.out.ext ywo).1))
  all_goals
    have X1 : Ext w wo := XB.trans ywo
    have RB1 : Hid (HV wo (w.heap.size + 1 + 1) [J zq 0, J zq 0, J zq 0, J zq 0]) := RB.out.ext ywo
    have FB1 := hvx FB ywo
    have VB1 : Hid (HV wo (w.heap.size + 1) [J zq x, J zq y, J zq z]) := VB.out.ext ywo
    go_wp2_with fail
    refine (HT.out _).mono ?_
    rintro e w2 ⟨rfl, x2⟩
    have X2 : Ext w w2 := X1.trans x2
    have RB2 : Hid (HV w2 (w.heap.size + 1 + 1) [J zq 0, J zq 0, J zq 0, J zq 0]) := RB1.out.ext x2
    have FB2 := hvx FB1 x2
    have VB2 : Hid (HV w2 (w.heap.size + 1) [J zq x, J zq y, J zq z]) := VB1.out.ext x2
    clear q0 q1 q2 q3 ql v0 v1 v2 vl
    have he := HE.out
    obtain ⟨q0, q1, q2, q3⟩ := FB2.out.k4
    have ql := FB2.out.1
    have rl2 := RB2.out.1
    have nn0 : w.heap.size + 1 + 1 ≠ w2.heap.size := by omega
    have nn1 : w2.heap.size ≠ w.heap.size + 1 + 1 := by omega
    have nn2 : w.heap.size + 1 + 1 ≠ w2.heap.size + 1 := by omega
    have nn3 : w2.heap.size + 1 ≠ w.heap.size + 1 + 1 := by omega
    have nn4 : w.heap.size + 1 + 1 < w2.heap.size + 1 := by omega
    have nn5 : w.heap.size + 1 + 1 < w2.heap.size + 1 + 1 := by omega
    obtain ⟨r0, r1, r2, r3⟩ := RB2.out.k4
    obtain ⟨z0, z1, z2, z3⟩ := RB2.out.z4
    have rl := RB2.out.1
    go_wp2_with fail
    exact bodyPost_ret (v := .tuple #[zG #[J zq a, J zq b, J zq c, J zq d], J zq 0]) (by simp [results, Tryz.results14, go_sem, r0, r1, r2, r3, rl2, nn4]) rfl ⟨rfl, xa⟩
set_option maxRecDepth 20000 in
set_option maxHeartbeats 8000000 in
theorem north_good (a b c d x y z e0 e1 h0 h1 h2 cc u0 u1 u2 u3 ue : Int) (w : World) (HK : Hid (∀ w', Calls zP 11 #[zG #[J zq a, J zq b, J zq c, J zq d]] w' fun e w'' => e = zR (J zq e0) ∧ Ext w' w'')) (KV : Hid (∀ w', Calls zP 36 #[zG #[J zq x, J zq y, J zq z]] w' fun e w'' => e = zR (J zq e1) ∧ Ext w' w'')) (HO : Hid (∀ g w', H2 w' g (J zq e0) (J zq e1) → Calls zP 43 #[.slice (some ⟨g, 0, none⟩) 2 2] w' fun e w'' => e = zR (J zq 0) ∧ Ext w' w'')) (HT : Hid (∀ w', Calls zP 47 #[zG #[J zq a, J zq b, J zq c, J zq d], zG #[J zq x, J zq y, J zq z]] w' fun e w'' => e = zR (.tuple #[zG #[J zq h0, J zq h1, J zq h2], J zq 0]) ∧ Ext w' w'')) (HE : Hid (∀ w', (Op.equalIn 10000 28 (zG #[J zq h0, J zq h1, J zq 0]) (zG #[J zq 0, J zq 0, J zq 0])).run zP w' = .ok false w')) (HC : Hid (∀ w', Calls zP 48 #[zG #[J zq h0, J zq h1, J zq 0]] w' fun e w'' => e = zR (.tuple #[J zq cc, J zq 0]) ∧ Ext w' w'')) (HS : Hid (∀ w', Calls zP 49 #[zG #[J zq a, J zq b, J zq c, J zq d], J zq cc, .func (.func 50) #[] #[]] w' fun e w'' => e = zR (.tuple #[zG #[J zq u0, J zq u1, J zq u2, J zq u3], J zq ue]) ∧ Ext w' w'')) :
    Calls zP 14 #[zG #[J zq a, J zq b, J zq c, J zq d], zG #[J zq x, J zq y, J zq z]] w fun e w' => e = zR (.tuple #[zG #[J zq u0, J zq u1, J zq u2, J zq u3], J zq ue]) ∧ Ext w w' := by
  have RB : Hid (HV (((w.alloc (.cells #[J zq a, J zq b, J zq c, J zq d] 26)).alloc (.cells #[J zq x, J zq y, J zq z] 28)).alloc (.cells #[J zq 0, J zq 0, J zq 0, J zq 0] 26)) (w.heap.size + 1 + 1) [J zq 0, J zq 0, J zq 0, J zq 0]) := hv_at (by simp)
  have FB : Hid (HV (((w.alloc (.cells #[J zq a, J zq b, J zq c, J zq d] 26)).alloc (.cells #[J zq x, J zq y, J zq z] 28)).alloc (.cells #[J zq 0, J zq 0, J zq 0, J zq 0] 26)) w.heap.size [J zq a, J zq b, J zq c, J zq d]) := HV.alloc (HV.alloc (hv_at rfl) _) _
  have VB : Hid (HV (((w.alloc (.cells #[J zq a, J zq b, J zq c, J zq d] 26)).alloc (.cells #[J zq x, J zq y, J zq z] 28)).alloc (.cells #[J zq 0, J zq 0, J zq 0, J zq 0] 26)) (w.heap.size + 1) [J zq x, J zq y, J zq z]) := HV.alloc (hv_at (by simp)) _
  have XB : Ext w (((w.alloc (.cells #[J zq a, J zq b, J zq c, J zq d] 26)).alloc (.cells #[J zq x, J zq y, J zq z] 28)).alloc (.cells #[J zq 0, J zq 0, J zq 0, J zq 0] 26)) := (((Ext.refl _).alloc _).alloc _).alloc _
  have ne1 : w.heap.size ≠ w.heap.size + 1 + 1 := by omega
  have ne2 : w.heap.size + 1 + 1 ≠ w.heap.size := by omega
  have ne3 : w.heap.size + 1 ≠ w.heap.size + 1 + 1 := by omega
  have ne4 : w.heap.size + 1 + 1 ≠ w.heap.size + 1 := by omega
  obtain ⟨q0, q1, q2, q3⟩ := FB.out.k4
  obtain ⟨v0, v1, v2⟩ := VB.out.k3
  have ql := FB.out.1
  have vl := VB.out.1
  go_enter Tryz.func14, Tryz.ntmps14
  go_upto_region 1 with fail
  generalize ((w.alloc (.cells #[J zq a, J zq b, J zq c, J zq d] 26)).alloc (.cells #[J zq x, J zq y, J zq z] 28)).alloc (.cells #[J zq 0, J zq 0, J zq 0, J zq 0] 26) = wB at *
  go_region_held (fun w' => w'.cell? ⟨w.heap.size, 0, none⟩ = some (J zq a) ∧ w'.cell? ⟨w.heap.size, 1, none⟩ = some (J zq b) ∧ w'.cell? ⟨w.heap.size, 2, none⟩ = some (J zq c) ∧ w'.cell? ⟨w.heap.size, 3, none⟩ = some (J zq d) ∧ w'.cell? ⟨w.heap.size + 1, 0, none⟩ = some (J zq x) ∧ w'.cell? ⟨w.heap.size + 1, 1, none⟩ = some (J zq y) ∧ w'.cell? ⟨w.heap.size + 1, 2, none⟩ = some (J zq z)) (first | (go_keep; done) | skip) (first | (go_at_call 11; refine (HK.out _).mono ?_; rintro e wk ⟨rfl, xwk⟩; have ywk : Ext wB wk := Ext.trans xa xwk; obtain ⟨q0, q1, q2, q3⟩ := (FB.out.ext ywk).k4; obtain ⟨v0, v1, v2⟩ := (VB.out.ext ywk).k3; have ql := (FB.out.ext ywk).1; have vl := (VB.out.ext ywk).1) | (go_at_call 36; refine (KV.out _).mono ?_; rintro e wv ⟨rfl, xwv⟩; have ywv : Ext wB wv := Ext.trans xa xwv; obtain ⟨q0, q1, q2, q3⟩ := (FB.out.ext ywv).k4; obtain ⟨v0, v1, v2⟩ := (VB.out.ext ywv).k3; have ql := (FB.out.ext ywv).1; have vl := (VB.out.ext ywv).1) | (go_at_call 43; refine (HO.out _ _ (by first | with_reducible exact h2_at rfl | with_reducible exact H2.drew (h2_at rfl) | exact h2_at (by simp) | exact H2.drew (h2_at (by simp)))).mono ?_; rintro e wo ⟨rfl, xwo⟩; have ywo : Ext wB wo := Ext.trans xa xwo; obtain ⟨q0, q1, q2, q3⟩ := (FB.out.ext ywo).k4; obtain ⟨v0, v1, v2⟩ := (VB.out.ext ywo).k3; have ql := (FB.out.ext ywo).1; have vl := (VB.out.ext ywo).1))
  all_goals
    have X1 : Ext w wo := XB.trans ywo
    have RB1 : Hid (HV wo (w.heap.size + 1 + 1) [J zq 0, J zq 0, J zq 0, J zq 0]) := RB.out.ext ywo
    have FB1 := hvx FB ywo
    have VB1 : Hid (HV wo (w.heap.size + 1) [J zq x, J zq y, J zq z]) := VB.out.ext ywo
    go_wp2_with fail
    refine (HT.out _).mono ?_
    rintro e w2 ⟨rfl, x2⟩
    have X2 : Ext w w2 := X1.trans x2
    have RB2 : Hid (HV w2 (w.heap.size + 1 + 1) [J zq 0, J zq 0, J zq 0, J zq 0]) := RB1.out.ext x2
    have FB2 := hvx FB1 x2
    have VB2 : Hid (HV w2 (w.heap.size + 1) [J zq x, J zq y, J zq z]) := VB1.out.ext x2
    clear q0 q1 q2 q3 ql v0 v1 v2 vl
    have he := HE.out
    go_wp2_with fail
    refine (HC.out _).mono ?_
    rintro e w3 ⟨rfl, x3⟩
    have X3 : Ext w w3 := ((X2.alloc _).alloc _).trans x3
    have RB3 : Hid (HV w3 (w.heap.size + 1 + 1) [J zq 0, J zq 0, J zq 0, J zq 0]) := ((RB2.out.alloc _).alloc _).ext x3
    have FB3 : Hid (HV w3 (w.heap.size) [J zq a, J zq b, J zq c, J zq d]) := ((FB2.out.alloc _).alloc _).ext x3
    have VB3 : Hid (HV w3 (w.heap.size + 1) [J zq x, J zq y, J zq z]) := ((VB2.out.alloc _).alloc _).ext x3
    obtain ⟨q0, q1, q2, q3⟩ := FB3.out.k4
    have ql := FB3.out.1
    go_wp2_with fail
    refine (HS.out _).mono ?_
    rintro e w4 ⟨rfl, x4⟩
    have X4 : Ext w w4 := X3.trans x4
    have RB4 : Hid (HV w4 (w.heap.size + 1 + 1) [J zq 0, J zq 0, J zq 0, J zq 0]) := RB3.out.ext x4
    have FB4 := hvx FB3 x4
    have VB4 : Hid (HV w4 (w.heap.size + 1) [J zq x, J zq y, J zq z]) := VB3.out.ext x4
    obtain ⟨r0, r1, r2, r3⟩ := RB4.out.k4
    obtain ⟨z0, z1, z2, z3⟩ := RB4.out.z4
    have rl := RB4.out.1
    go_wp2_with fail
    exact bodyPost_ret (v := .tuple #[zG #[J zq u0, J zq u1, J zq u2, J zq u3], J zq ue]) (by simp [results, Tryz.results14, go_sem, r0, r1, r2, r3]) rfl ⟨rfl, xa⟩
end Go.Proofs.YtoeecldhbabmbaaGreat
