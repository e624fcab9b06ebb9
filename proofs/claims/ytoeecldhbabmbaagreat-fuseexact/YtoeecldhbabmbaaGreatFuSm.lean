/- fuse: Spin, Up, North. -/
import Derived.Test.YtoeecldhbabmbaaGreatMg26
import Derived.Test.YtoeecldhbabmbaaGreatMg11
import Derived.Test.YtoeecldhbabmbaaGreatV1m
import Derived.Deep.RegionHeld
import Derived.Deep.DeepCutAuto
open Go.Value renaming int → J, agg → zG
open Go.IntKind renaming i64 → zq
open Go.Ending renaming returned → zR
open Go.Proofs.Tryz renaming prog → zP
namespace Go.Proofs.YtoeecldhbabmbaaGreat
open Go.RowKit Go.Shelf
set_option maxRecDepth 20000 in
set_option maxHeartbeats 8000000 in
theorem spin_bad0 (a b c d x y z n : Int) (w : World) (HK : Hid (∀ w', Calls zP 11 #[zG #[J zq a, J zq b, J zq c, J zq d]] w' fun e w'' => e = zR (J zq 1) ∧ Ext w' w'')) :
    Calls zP 9 #[zG #[J zq a, J zq b, J zq c, J zq d], zG #[J zq x, J zq y, J zq z], J zq n] w fun e w' => e = zR (.tuple #[zG #[J zq 0, J zq 0, J zq 0, J zq 0], J zq 1]) ∧ Ext w w' := by
  have RB : Hid (HV (((w.alloc (.cells #[J zq a, J zq b, J zq c, J zq d] 26)).alloc (.cells #[J zq x, J zq y, J zq z] 28)).alloc (.cells #[J zq 0, J zq 0, J zq 0, J zq 0] 26)) (w.heap.size + 1 + 1) [J zq 0, J zq 0, J zq 0, J zq 0]) := hv_at (by simp)
  have FB : Hid (HV (((w.alloc (.cells #[J zq a, J zq b, J zq c, J zq d] 26)).alloc (.cells #[J zq x, J zq y, J zq z] 28)).alloc (.cells #[J zq 0, J zq 0, J zq 0, J zq 0] 26)) w.heap.size [J zq a, J zq b, J zq c, J zq d]) := HV.alloc (HV.alloc (hv_at rfl) _) _
  have VB : Hid (HV (((w.alloc (.cells #[J zq a, J zq b, J zq c, J zq d] 26)).alloc (.cells #[J zq x, J zq y, J zq z] 28)).alloc (.cells #[J zq 0, J zq 0, J zq 0, J zq 0] 26)) (w.heap.size + 1) [J zq x, J zq y, J zq z]) := HV.alloc (hv_at (by simp)) _
  have XB : Ext w (((w.alloc (.cells #[J zq a, J zq b, J zq c, J zq d] 26)).alloc (.cells #[J zq x, J zq y, J zq z] 28)).alloc (.cells #[J zq 0, J zq 0, J zq 0, J zq 0] 26)) := (((Ext.refl _).alloc _).alloc _).alloc _
  have ne1 : w.heap.size ≠ w.heap.size + 1 + 1 := by omega
  have ne2 : w.heap.size + 1 + 1 ≠ w.heap.size := by omega
  have ne3 : w.heap.size + 1 ≠ w.heap.size + 1 + 1 := by omega
  have ne4 : w.heap.size + 1 + 1 ≠ w.heap.size + 1 := by omega
  go_enter Tryz.func9, Tryz.ntmps9
  go_wp2_with fail
  refine (HK.out _).mono ?_
  rintro e w1 ⟨rfl, x1⟩
  have X1 : Ext w w1 := XB.trans x1
  have RB1 : Hid (HV w1 (w.heap.size + 1 + 1) [J zq 0, J zq 0, J zq 0, J zq 0]) := RB.out.ext x1
  have FB1 := hvx FB x1
  have VB1 : Hid (HV w1 (w.heap.size + 1) [J zq x, J zq y, J zq z]) := VB.out.ext x1
  clear x1 XB RB FB VB
  obtain ⟨r0, r1, r2, r3⟩ := RB1.out.k4
  obtain ⟨z0, z1, z2, z3⟩ := RB1.out.z4
  have rl := RB1.out.1
  go_wp2_with fail
  exact bodyPost_ret (v := .tuple #[zG #[J zq 0, J zq 0, J zq 0, J zq 0], J zq 1]) (by simp [results, Tryz.results9, go_sem, r0, r1, r2, r3]) rfl ⟨rfl, xa⟩
set_option maxRecDepth 20000 in
set_option maxHeartbeats 8000000 in
theorem spin_bad1 (a b c d x y z n : Int) (w : World) (HK : Hid (∀ w', Calls zP 11 #[zG #[J zq a, J zq b, J zq c, J zq d]] w' fun e w'' => e = zR (J zq 0) ∧ Ext w' w'')) (KV : Hid (∀ w', Calls zP 36 #[zG #[J zq x, J zq y, J zq z]] w' fun e w'' => e = zR (J zq 1) ∧ Ext w' w'')) :
    Calls zP 9 #[zG #[J zq a, J zq b, J zq c, J zq d], zG #[J zq x, J zq y, J zq z], J zq n] w fun e w' => e = zR (.tuple #[zG #[J zq 0, J zq 0, J zq 0, J zq 0], J zq 1]) ∧ Ext w w' := by
  have RB : Hid (HV (((w.alloc (.cells #[J zq a, J zq b, J zq c, J zq d] 26)).alloc (.cells #[J zq x, J zq y, J zq z] 28)).alloc (.cells #[J zq 0, J zq 0, J zq 0, J zq 0] 26)) (w.heap.size + 1 + 1) [J zq 0, J zq 0, J zq 0, J zq 0]) := hv_at (by simp)
  have FB : Hid (HV (((w.alloc (.cells #[J zq a, J zq b, J zq c, J zq d] 26)).alloc (.cells #[J zq x, J zq y, J zq z] 28)).alloc (.cells #[J zq 0, J zq 0, J zq 0, J zq 0] 26)) w.heap.size [J zq a, J zq b, J zq c, J zq d]) := HV.alloc (HV.alloc (hv_at rfl) _) _
  have VB : Hid (HV (((w.alloc (.cells #[J zq a, J zq b, J zq c, J zq d] 26)).alloc (.cells #[J zq x, J zq y, J zq z] 28)).alloc (.cells #[J zq 0, J zq 0, J zq 0, J zq 0] 26)) (w.heap.size + 1) [J zq x, J zq y, J zq z]) := HV.alloc (hv_at (by simp)) _
  have XB : Ext w (((w.alloc (.cells #[J zq a, J zq b, J zq c, J zq d] 26)).alloc (.cells #[J zq x, J zq y, J zq z] 28)).alloc (.cells #[J zq 0, J zq 0, J zq 0, J zq 0] 26)) := (((Ext.refl _).alloc _).alloc _).alloc _
  have ne1 : w.heap.size ≠ w.heap.size + 1 + 1 := by omega
  have ne2 : w.heap.size + 1 + 1 ≠ w.heap.size := by omega
  have ne3 : w.heap.size + 1 ≠ w.heap.size + 1 + 1 := by omega
  have ne4 : w.heap.size + 1 + 1 ≠ w.heap.size + 1 := by omega
  go_enter Tryz.func9, Tryz.ntmps9
  go_wp2_with fail
  refine (HK.out _).mono ?_
  rintro e w1 ⟨rfl, x1⟩
  have X1 : Ext w w1 := XB.trans x1
  have RB1 : Hid (HV w1 (w.heap.size + 1 + 1) [J zq 0, J zq 0, J zq 0, J zq 0]) := RB.out.ext x1
  have FB1 := hvx FB x1
  have VB1 : Hid (HV w1 (w.heap.size + 1) [J zq x, J zq y, J zq z]) := VB.out.ext x1
  clear x1 XB RB FB VB
  obtain ⟨v0, v1, v2⟩ := VB1.out.k3
  have vl := VB1.out.1
  go_wp2_with fail
  refine (KV.out _).mono ?_
  rintro e w2 ⟨rfl, x2⟩
  have X2 : Ext w w2 := X1.trans x2
  have RB2 : Hid (HV w2 (w.heap.size + 1 + 1) [J zq 0, J zq 0, J zq 0, J zq 0]) := RB1.out.ext x2
  have FB2 := hvx FB1 x2
  have VB2 : Hid (HV w2 (w.heap.size + 1) [J zq x, J zq y, J zq z]) := VB1.out.ext x2
  clear x2 X1 RB1 FB1 VB1
  clear v0 v1 v2 vl
  obtain ⟨r0, r1, r2, r3⟩ := RB2.out.k4
  obtain ⟨z0, z1, z2, z3⟩ := RB2.out.z4
  have rl := RB2.out.1
  go_wp2_with fail
  exact bodyPost_ret (v := .tuple #[zG #[J zq 0, J zq 0, J zq 0, J zq 0], J zq 1]) (by simp [results, Tryz.results9, go_sem, r0, r1, r2, r3]) rfl ⟨rfl, xa⟩
set_option maxRecDepth 20000 in
set_option maxHeartbeats 8000000 in
theorem spin_bad2 (a b c d x y z n : Int) (w : World) (HK : Hid (∀ w', Calls zP 11 #[zG #[J zq a, J zq b, J zq c, J zq d]] w' fun e w'' => e = zR (J zq 0) ∧ Ext w' w'')) (KV : Hid (∀ w', Calls zP 36 #[zG #[J zq x, J zq y, J zq z]] w' fun e w'' => e = zR (J zq 0) ∧ Ext w' w'')) (HT : Hid (∀ w', Calls zP 37 #[J zq n] w' fun e w'' => e = zR (.bool false) ∧ w'' = w')) :
    Calls zP 9 #[zG #[J zq a, J zq b, J zq c, J zq d], zG #[J zq x, J zq y, J zq z], J zq n] w fun e w' => e = zR (.tuple #[zG #[J zq 0, J zq 0, J zq 0, J zq 0], J zq 1]) ∧ Ext w w' := by
  have RB : Hid (HV (((w.alloc (.cells #[J zq a, J zq b, J zq c, J zq d] 26)).alloc (.cells #[J zq x, J zq y, J zq z] 28)).alloc (.cells #[J zq 0, J zq 0, J zq 0, J zq 0] 26)) (w.heap.size + 1 + 1) [J zq 0, J zq 0, J zq 0, J zq 0]) := hv_at (by simp)
  have FB : Hid (HV (((w.alloc (.cells #[J zq a, J zq b, J zq c, J zq d] 26)).alloc (.cells #[J zq x, J zq y, J zq z] 28)).alloc (.cells #[J zq 0, J zq 0, J zq 0, J zq 0] 26)) w.heap.size [J zq a, J zq b, J zq c, J zq d]) := HV.alloc (HV.alloc (hv_at rfl) _) _
  have VB : Hid (HV (((w.alloc (.cells #[J zq a, J zq b, J zq c, J zq d] 26)).alloc (.cells #[J zq x, J zq y, J zq z] 28)).alloc (.cells #[J zq 0, J zq 0, J zq 0, J zq 0] 26)) (w.heap.size + 1) [J zq x, J zq y, J zq z]) := HV.alloc (hv_at (by simp)) _
  have XB : Ext w (((w.alloc (.cells #[J zq a, J zq b, J zq c, J zq d] 26)).alloc (.cells #[J zq x, J zq y, J zq z] 28)).alloc (.cells #[J zq 0, J zq 0, J zq 0, J zq 0] 26)) := (((Ext.refl _).alloc _).alloc _).alloc _
  have ne1 : w.heap.size ≠ w.heap.size + 1 + 1 := by omega
  have ne2 : w.heap.size + 1 + 1 ≠ w.heap.size := by omega
  have ne3 : w.heap.size + 1 ≠ w.heap.size + 1 + 1 := by omega
  have ne4 : w.heap.size + 1 + 1 ≠ w.heap.size + 1 := by omega
  go_enter Tryz.func9, Tryz.ntmps9
  go_wp2_with fail
  refine (HK.out _).mono ?_
  rintro e w1 ⟨rfl, x1⟩
  have X1 : Ext w w1 := XB.trans x1
  have RB1 : Hid (HV w1 (w.heap.size + 1 + 1) [J zq 0, J zq 0, J zq 0, J zq 0]) := RB.out.ext x1
  have FB1 := hvx FB x1
  have VB1 : Hid (HV w1 (w.heap.size + 1) [J zq x, J zq y, J zq z]) := VB.out.ext x1
  clear x1 XB RB FB VB
  obtain ⟨v0, v1, v2⟩ := VB1.out.k3
  have vl := VB1.out.1
  go_wp2_with fail
  refine (KV.out _).mono ?_
  rintro e w2 ⟨rfl, x2⟩
  have X2 : Ext w w2 := X1.trans x2
  have RB2 : Hid (HV w2 (w.heap.size + 1 + 1) [J zq 0, J zq 0, J zq 0, J zq 0]) := RB1.out.ext x2
  have FB2 := hvx FB1 x2
  have VB2 : Hid (HV w2 (w.heap.size + 1) [J zq x, J zq y, J zq z]) := VB1.out.ext x2
  clear x2 X1 RB1 FB1 VB1
  clear v0 v1 v2 vl
  go_wp2_with fail
  refine (HT.out _).mono ?_
  rintro e wx ⟨rfl, hwx⟩; have hwy := hwx.symm; clear hwx; subst hwy
  obtain ⟨r0, r1, r2, r3⟩ := RB2.out.k4
  obtain ⟨z0, z1, z2, z3⟩ := RB2.out.z4
  have rl := RB2.out.1
  go_wp2_with fail
  exact bodyPost_ret (v := .tuple #[zG #[J zq 0, J zq 0, J zq 0, J zq 0], J zq 1]) (by simp [results, Tryz.results9, go_sem, r0, r1, r2, r3]) rfl ⟨rfl, xa⟩
set_option maxRecDepth 20000 in
set_option maxHeartbeats 8000000 in
theorem spin_far (a b c d x y z n A B C : Int) (w : World) (HK : Hid (∀ w', Calls zP 11 #[zG #[J zq a, J zq b, J zq c, J zq d]] w' fun e w'' => e = zR (J zq 0) ∧ Ext w' w'')) (KV : Hid (∀ w', Calls zP 36 #[zG #[J zq x, J zq y, J zq z]] w' fun e w'' => e = zR (J zq 0) ∧ Ext w' w'')) (HT : Hid (∀ w', Calls zP 37 #[J zq n] w' fun e w'' => e = zR (.bool true) ∧ w'' = w')) (HA : Hid (∀ w', Calls zP 38 #[zG #[J zq x, J zq y, J zq z], J zq n] w' fun e w'' => e = zR (zG #[J zq A, J zq B, J zq C]) ∧ Ext w' w'')) (HS : Hid (∀ w', Calls zP 39 #[zG #[J zq A, J zq B, J zq C]] w' fun e w'' => e = zR (.bool false) ∧ Ext w' w'')) :
    Calls zP 9 #[zG #[J zq a, J zq b, J zq c, J zq d], zG #[J zq x, J zq y, J zq z], J zq n] w fun e w' => e = zR (.tuple #[zG #[J zq 0, J zq 0, J zq 0, J zq 0], J zq 2]) ∧ Ext w w' := by
  have RB : Hid (HV (((w.alloc (.cells #[J zq a, J zq b, J zq c, J zq d] 26)).alloc (.cells #[J zq x, J zq y, J zq z] 28)).alloc (.cells #[J zq 0, J zq 0, J zq 0, J zq 0] 26)) (w.heap.size + 1 + 1) [J zq 0, J zq 0, J zq 0, J zq 0]) := hv_at (by simp)
  have FB : Hid (HV (((w.alloc (.cells #[J zq a, J zq b, J zq c, J zq d] 26)).alloc (.cells #[J zq x, J zq y, J zq z] 28)).alloc (.cells #[J zq 0, J zq 0, J zq 0, J zq 0] 26)) w.heap.size [J zq a, J zq b, J zq c, J zq d]) := HV.alloc (HV.alloc (hv_at rfl) _) _
  have VB : Hid (HV (((w.alloc (.cells #[J zq a, J zq b, J zq c, J zq d] 26)).alloc (.cells #[J zq x, J zq y, J zq z] 28)).alloc (.cells #[J zq 0, J zq 0, J zq 0, J zq 0] 26)) (w.heap.size + 1) [J zq x, J zq y, J zq z]) := HV.alloc (hv_at (by simp)) _
  have XB : Ext w (((w.alloc (.cells #[J zq a, J zq b, J zq c, J zq d] 26)).alloc (.cells #[J zq x, J zq y, J zq z] 28)).alloc (.cells #[J zq 0, J zq 0, J zq 0, J zq 0] 26)) := (((Ext.refl _).alloc _).alloc _).alloc _
  have ne1 : w.heap.size ≠ w.heap.size + 1 + 1 := by omega
  have ne2 : w.heap.size + 1 + 1 ≠ w.heap.size := by omega
  have ne3 : w.heap.size + 1 ≠ w.heap.size + 1 + 1 := by omega
  have ne4 : w.heap.size + 1 + 1 ≠ w.heap.size + 1 := by omega
  go_enter Tryz.func9, Tryz.ntmps9
  go_wp2_with fail
  refine (HK.out _).mono ?_
  rintro e w1 ⟨rfl, x1⟩
  have X1 : Ext w w1 := XB.trans x1
  have RB1 : Hid (HV w1 (w.heap.size + 1 + 1) [J zq 0, J zq 0, J zq 0, J zq 0]) := RB.out.ext x1
  have FB1 := hvx FB x1
  have VB1 : Hid (HV w1 (w.heap.size + 1) [J zq x, J zq y, J zq z]) := VB.out.ext x1
  clear x1 XB RB FB VB
  obtain ⟨v0, v1, v2⟩ := VB1.out.k3
  have vl := VB1.out.1
  go_wp2_with fail
  refine (KV.out _).mono ?_
  rintro e w2 ⟨rfl, x2⟩
  have X2 : Ext w w2 := X1.trans x2
  have RB2 : Hid (HV w2 (w.heap.size + 1 + 1) [J zq 0, J zq 0, J zq 0, J zq 0]) := RB1.out.ext x2
  have FB2 := hvx FB1 x2
  have VB2 : Hid (HV w2 (w.heap.size + 1) [J zq x, J zq y, J zq z]) := VB1.out.ext x2
  clear x2 X1 RB1 FB1 VB1
  clear v0 v1 v2 vl
  go_wp2_with fail
  refine (HT.out _).mono ?_
  rintro e wx ⟨rfl, hwx⟩; have hwy := hwx.symm; clear hwx; subst hwy
  obtain ⟨v0, v1, v2⟩ := VB2.out.k3
  have vl := VB2.out.1
  go_wp2_with fail
  refine (HA.out _).mono ?_
  rintro e w3 ⟨rfl, x3⟩
  have X3 : Ext w w3 := X2.trans x3
  have RB3 : Hid (HV w3 (w.heap.size + 1 + 1) [J zq 0, J zq 0, J zq 0, J zq 0]) := RB2.out.ext x3
  have FB3 := hvx FB2 x3
  have VB3 : Hid (HV w3 (w.heap.size + 1) [J zq x, J zq y, J zq z]) := VB2.out.ext x3
  clear x3 X2 RB2 FB2 VB2
  clear v0 v1 v2 vl
  go_wp2_with fail
  refine (HS.out _).mono ?_
  rintro e w4 ⟨rfl, x4⟩
  have X4 : Ext w w4 := (X3.alloc _).trans x4
  have RB4 : Hid (HV w4 (w.heap.size + 1 + 1) [J zq 0, J zq 0, J zq 0, J zq 0]) := (RB3.out.alloc _).ext x4
  have FB4 : Hid (HV w4 w.heap.size [J zq a, J zq b, J zq c, J zq d]) := (FB3.out.alloc _).ext x4
  have AB4 : Hid (HV w4 w3.heap.size [J zq A, J zq B, J zq C]) := (hv_at rfl).ext x4
  clear x4 X3 RB3 FB3 VB3
  obtain ⟨r0, r1, r2, r3⟩ := RB4.out.k4
  obtain ⟨z0, z1, z2, z3⟩ := RB4.out.z4
  have rl := RB4.out.1
  go_wp2_with fail
  exact bodyPost_ret (v := .tuple #[zG #[J zq 0, J zq 0, J zq 0, J zq 0], J zq 2]) (by simp [results, Tryz.results9, go_sem, r0, r1, r2, r3]) rfl ⟨rfl, xa⟩
set_option maxRecDepth 20000 in
set_option maxHeartbeats 8000000 in
theorem spin_good (a b c d x y z n A B C u0 u1 u2 u3 ue : Int) (w : World) (HK : Hid (∀ w', Calls zP 11 #[zG #[J zq a, J zq b, J zq c, J zq d]] w' fun e w'' => e = zR (J zq 0) ∧ Ext w' w'')) (KV : Hid (∀ w', Calls zP 36 #[zG #[J zq x, J zq y, J zq z]] w' fun e w'' => e = zR (J zq 0) ∧ Ext w' w'')) (HT : Hid (∀ w', Calls zP 37 #[J zq n] w' fun e w'' => e = zR (.bool true) ∧ w'' = w')) (HA : Hid (∀ w', Calls zP 38 #[zG #[J zq x, J zq y, J zq z], J zq n] w' fun e w'' => e = zR (zG #[J zq A, J zq B, J zq C]) ∧ Ext w' w'')) (HS : Hid (∀ w', Calls zP 39 #[zG #[J zq A, J zq B, J zq C]] w' fun e w'' => e = zR (.bool true) ∧ Ext w' w'')) (HG : Hid (∀ w', Calls zP 40 #[zG #[J zq a, J zq b, J zq c, J zq d], zG #[J zq A, J zq B, J zq C], .func (.func 41) #[] #[]] w' fun e w'' => e = zR (.tuple #[zG #[J zq u0, J zq u1, J zq u2, J zq u3], J zq ue]) ∧ Ext w' w'')) :
    Calls zP 9 #[zG #[J zq a, J zq b, J zq c, J zq d], zG #[J zq x, J zq y, J zq z], J zq n] w fun e w' => e = zR (.tuple #[zG #[J zq u0, J zq u1, J zq u2, J zq u3], J zq ue]) ∧ Ext w w' := by
  have RB : Hid (HV (((w.alloc (.cells #[J zq a, J zq b, J zq c, J zq d] 26)).alloc (.cells #[J zq x, J zq y, J zq z] 28)).alloc (.cells #[J zq 0, J zq 0, J zq 0, J zq 0] 26)) (w.heap.size + 1 + 1) [J zq 0, J zq 0, J zq 0, J zq 0]) := hv_at (by simp)
  have FB : Hid (HV (((w.alloc (.cells #[J zq a, J zq b, J zq c, J zq d] 26)).alloc (.cells #[J zq x, J zq y, J zq z] 28)).alloc (.cells #[J zq 0, J zq 0, J zq 0, J zq 0] 26)) w.heap.size [J zq a, J zq b, J zq c, J zq d]) := HV.alloc (HV.alloc (hv_at rfl) _) _
  have VB : Hid (HV (((w.alloc (.cells #[J zq a, J zq b, J zq c, J zq d] 26)).alloc (.cells #[J zq x, J zq y, J zq z] 28)).alloc (.cells #[J zq 0, J zq 0, J zq 0, J zq 0] 26)) (w.heap.size + 1) [J zq x, J zq y, J zq z]) := HV.alloc (hv_at (by simp)) _
  have XB : Ext w (((w.alloc (.cells #[J zq a, J zq b, J zq c, J zq d] 26)).alloc (.cells #[J zq x, J zq y, J zq z] 28)).alloc (.cells #[J zq 0, J zq 0, J zq 0, J zq 0] 26)) := (((Ext.refl _).alloc _).alloc _).alloc _
  have ne1 : w.heap.size ≠ w.heap.size + 1 + 1 := by omega
  have ne2 : w.heap.size + 1 + 1 ≠ w.heap.size := by omega
  have ne3 : w.heap.size + 1 ≠ w.heap.size + 1 + 1 := by omega
  have ne4 : w.heap.size + 1 + 1 ≠ w.heap.size + 1 := by omega
  go_enter Tryz.func9, Tryz.ntmps9
  go_wp2_with fail
  refine (HK.out _).mono ?_
  rintro e w1 ⟨rfl, x1⟩
  have X1 : Ext w w1 := XB.trans x1
  have RB1 : Hid (HV w1 (w.heap.size + 1 + 1) [J zq 0, J zq 0, J zq 0, J zq 0]) := RB.out.ext x1
  have FB1 := hvx FB x1
  have VB1 : Hid (HV w1 (w.heap.size + 1) [J zq x, J zq y, J zq z]) := VB.out.ext x1
  clear x1 XB RB FB VB
  obtain ⟨v0, v1, v2⟩ := VB1.out.k3
  have vl := VB1.out.1
  go_wp2_with fail
  refine (KV.out _).mono ?_
  rintro e w2 ⟨rfl, x2⟩
  have X2 : Ext w w2 := X1.trans x2
  have RB2 : Hid (HV w2 (w.heap.size + 1 + 1) [J zq 0, J zq 0, J zq 0, J zq 0]) := RB1.out.ext x2
  have FB2 := hvx FB1 x2
  have VB2 : Hid (HV w2 (w.heap.size + 1) [J zq x, J zq y, J zq z]) := VB1.out.ext x2
  clear x2 X1 RB1 FB1 VB1
  clear v0 v1 v2 vl
  go_wp2_with fail
  refine (HT.out _).mono ?_
  rintro e wx ⟨rfl, hwx⟩; have hwy := hwx.symm; clear hwx; subst hwy
  obtain ⟨v0, v1, v2⟩ := VB2.out.k3
  have vl := VB2.out.1
  go_wp2_with fail
  refine (HA.out _).mono ?_
  rintro e w3 ⟨rfl, x3⟩
  have X3 : Ext w w3 := X2.trans x3
  have RB3 : Hid (HV w3 (w.heap.size + 1 + 1) [J zq 0, J zq 0, J zq 0, J zq 0]) := RB2.out.ext x3
  have FB3 := hvx FB2 x3
  have VB3 : Hid (HV w3 (w.heap.size + 1) [J zq x, J zq y, J zq z]) := VB2.out.ext x3
  clear x3 X2 RB2 FB2 VB2
  clear v0 v1 v2 vl
  go_wp2_with fail
  refine (HS.out _).mono ?_
  rintro e w4 ⟨rfl, x4⟩
  have X4 : Ext w w4 := (X3.alloc _).trans x4
  have RB4 : Hid (HV w4 (w.heap.size + 1 + 1) [J zq 0, J zq 0, J zq 0, J zq 0]) := (RB3.out.alloc _).ext x4
  have FB4 : Hid (HV w4 w.heap.size [J zq a, J zq b, J zq c, J zq d]) := (FB3.out.alloc _).ext x4
  have AB4 : Hid (HV w4 w3.heap.size [J zq A, J zq B, J zq C]) := (hv_at rfl).ext x4
  clear x4 X3 RB3 FB3 VB3
  obtain ⟨q0, q1, q2, q3⟩ := FB4.out.k4
  have ql := FB4.out.1
  obtain ⟨v0, v1, v2⟩ := AB4.out.k3
  have vl := AB4.out.1
  go_wp2_with fail
  refine (HG.out _).mono ?_
  rintro e w5 ⟨rfl, x5⟩
  have X5 : Ext w w5 := X4.trans x5
  obtain ⟨r0, r1, r2, r3⟩ := (RB4.out.ext x5).k4
  obtain ⟨z0, z1, z2, z3⟩ := (RB4.out.ext x5).z4
  have rl := (RB4.out.ext x5).1
  clear x5 X4 RB4 FB4 AB4 q0 q1 q2 q3 ql v0 v1 v2 vl
  go_wp2_with fail
  exact bodyPost_ret (v := .tuple #[zG #[J zq u0, J zq u1, J zq u2, J zq u3], J zq ue]) (by simp [results, Tryz.results9, go_sem, r0, r1, r2, r3]) rfl ⟨rfl, xa⟩
end Go.Proofs.YtoeecldhbabmbaaGreat
