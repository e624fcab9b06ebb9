/- fuse: spun, isGravity, upward, northward. fuse: its numbers. -/
import Derived.Test.YtoeecldhbabmbaaGreatMg25
import Derived.Test.YtoeecldhbabmbaaGreatMg10
import Derived.Test.YtoeecldhbabmbaaGreatMg23
import Derived.Test.YtoeecldhbabmbaaGreatMg22
import Derived.Test.YtoeecldhbabmbaaGreatV9m
open Go.Value renaming int → J, agg → zG
open Go.IntKind renaming i64 → zq
open Go.Ending renaming returned → zR
open Go.Proofs.Tryz renaming prog → zP
namespace Go.Proofs.YtoeecldhbabmbaaGreat
open Go.RowKit Go.Shelf
set_option maxRecDepth 20000 in
set_option maxHeartbeats 8000000 in
theorem spun_raw (a b c d x y z p0 p1 p2 p3 r0 r1 r2 r3 t0 t1 t2 t3 : Int) (w : World) (HN : Hid (∀ w', Calls zP 79 #[zG #[J zq a, J zq b, J zq c, J zq d]] w' fun e w'' => e = zR (zG #[J zq a, J zq b, J zq c, J zq d]) ∧ Ext w' w'')) (HE : Hid (∀ w', Calls zP 80 #[zG #[J zq a, J zq b, J zq c, J zq d], zG #[J zq x, J zq y, J zq z]] w' fun e w'' => e = zR (zG #[J zq p0, J zq p1, J zq p2, J zq p3]) ∧ Ext w' w'')) (HR0 : Hid (∀ w', Calls zP 81 #[J zq p0, J zq 2147483648] w' fun e w'' => e = zR (.tuple #[J zq r0, J zq 0]) ∧ Ext w' w'')) (HR1 : Hid (∀ w', Calls zP 81 #[J zq p1, J zq 2147483648] w' fun e w'' => e = zR (.tuple #[J zq r1, J zq 0]) ∧ Ext w' w'')) (HR2 : Hid (∀ w', Calls zP 81 #[J zq p2, J zq 2147483648] w' fun e w'' => e = zR (.tuple #[J zq r2, J zq 0]) ∧ Ext w' w'')) (HR3 : Hid (∀ w', Calls zP 81 #[J zq p3, J zq 2147483648] w' fun e w'' => e = zR (.tuple #[J zq r3, J zq 0]) ∧ Ext w' w'')) (s0 : a + r0 = t0) (l0 : -9223372036854775808 ≤ t0) (m0 : t0 ≤ 9223372036854775807) (s1 : b + r1 = t1) (l1 : -9223372036854775808 ≤ t1) (m1 : t1 ≤ 9223372036854775807) (s2 : c + r2 = t2) (l2 : -9223372036854775808 ≤ t2) (m2 : t2 ≤ 9223372036854775807) (s3 : d + r3 = t3) (l3 : -9223372036854775808 ≤ t3) (m3 : t3 ≤ 9223372036854775807) :
    Calls zP 41 #[zG #[J zq a, J zq b, J zq c, J zq d], zG #[J zq x, J zq y, J zq z]] w fun e w' => e = zR (.tuple #[zG #[J zq t0, J zq t1, J zq t2, J zq t3], J zq 0]) ∧ Ext w w' := by
  have RB : Hid (HV (((w.alloc (.cells #[J zq a, J zq b, J zq c, J zq d] 24)).alloc (.cells #[J zq x, J zq y, J zq z] 28)).alloc (.cells #[J zq 0, J zq 0, J zq 0, J zq 0] 24)) (w.heap.size + 1 + 1) [J zq 0, J zq 0, J zq 0, J zq 0]) := hv_at (by simp)
  have QB : Hid (HV (((w.alloc (.cells #[J zq a, J zq b, J zq c, J zq d] 24)).alloc (.cells #[J zq x, J zq y, J zq z] 28)).alloc (.cells #[J zq 0, J zq 0, J zq 0, J zq 0] 24)) w.heap.size [J zq a, J zq b, J zq c, J zq d]) := HV.alloc (HV.alloc (hv_at rfl) _) _
  have VB : Hid (HV (((w.alloc (.cells #[J zq a, J zq b, J zq c, J zq d] 24)).alloc (.cells #[J zq x, J zq y, J zq z] 28)).alloc (.cells #[J zq 0, J zq 0, J zq 0, J zq 0] 24)) (w.heap.size + 1) [J zq x, J zq y, J zq z]) := HV.alloc (hv_at (by simp)) _
  have XB : Ext w (((w.alloc (.cells #[J zq a, J zq b, J zq c, J zq d] 24)).alloc (.cells #[J zq x, J zq y, J zq z] 28)).alloc (.cells #[J zq 0, J zq 0, J zq 0, J zq 0] 24)) := (((Ext.refl _).alloc _).alloc _).alloc _
  obtain ⟨i0, i1, i2, i3⟩ := ix4 114 rfl p0 p1 p2 p3
  go_enter Tryz.func41, Tryz.ntmps41
  go_wp2_with fail
  refine (HN.out _).mono ?_
  rintro e w1 ⟨rfl, x1⟩
  have N1 : Hid (HV (w1.alloc (.cells #[J zq a, J zq b, J zq c, J zq d] 114)) w1.heap.size [J zq a, J zq b, J zq c, J zq d]) := hv_at rfl
  have RB1 : Hid (HV (w1.alloc (.cells #[J zq a, J zq b, J zq c, J zq d] 114)) (w.heap.size + 1 + 1) [J zq 0, J zq 0, J zq 0, J zq 0]) := (RB.out.ext x1).alloc _
  have QB1 : Hid (HV w1 w.heap.size [J zq a, J zq b, J zq c, J zq d]) := QB.out.ext x1
  have VB1 : Hid (HV w1 (w.heap.size + 1) [J zq x, J zq y, J zq z]) := VB.out.ext x1
  have X1 : Ext w (w1.alloc (.cells #[J zq a, J zq b, J zq c, J zq d] 114)) := (XB.trans x1).alloc _
  have hlt : w.heap.size + 1 + 1 < w1.heap.size := (RB.out.ext x1).1
  have hle : w.heap.size ≤ w1.heap.size := by omega
  have ne : w.heap.size + 1 + 1 ≠ w1.heap.size := by omega
  obtain ⟨b0, b1, b2, b3⟩ := QB1.out.k4
  obtain ⟨v0, v1, v2⟩ := VB1.out.k3
  have bl := QB1.out.1
  have vl := VB1.out.1
  clear x1 RB QB VB XB
  go_wp2_with fail
  refine (HE.out _).mono ?_
  rintro e w2 ⟨rfl, x2⟩
  have N2 : Hid (HV w2 w1.heap.size [J zq a, J zq b, J zq c, J zq d]) := N1.out.ext x2
  have RB2 : Hid (HV w2 (w.heap.size + 1 + 1) [J zq 0, J zq 0, J zq 0, J zq 0]) := RB1.out.ext x2
  have X2 : Ext w w2 := X1.trans x2
  clear x2 N1 RB1 QB1 VB1 X1 b0 b1 b2 b3 v0 v1 v2 bl vl
  generalize w1.heap.size = g at *
  go_wp2_with fail
  refine wp_loop_rounds 6 ?_
  generalize hwk : w2 = k0 at *
  clear hwk
  rw [rounds_succ]
  go_wp2_with (go_at_call 81; refine (HR0.out _).mono ?_; rintro e q0 ⟨rfl, y0⟩; obtain ⟨n0, n1, n2, n3⟩ := (N2.out.ext y0).k4; obtain ⟨f0, f1, f2, f3⟩ := (N2.out.ext y0).z4; have nl := (N2.out.ext y0).1)
  have N1k : Hid (HV (q0.setCell ⟨g, 0, none⟩ (J zq t0)) g [J zq t0, J zq b, J zq c, J zq d]) := (N2.out.ext y0).set 0 _
  have RB1k : Hid (HV (q0.setCell ⟨g, 0, none⟩ (J zq t0)) (w.heap.size + 1 + 1) [J zq 0, J zq 0, J zq 0, J zq 0]) := (RB2.out.ext y0).far ne
  have X1k : Ext w (q0.setCell ⟨g, 0, none⟩ (J zq t0)) := Ext.set (X2.trans y0) hle _
  clear n0 n1 n2 n3 f0 f1 f2 f3 nl y0 N2 RB2 X2
  generalize q0.setCell ⟨g, 0, none⟩ (J zq t0) = k1 at *
  rw [rounds_succ]
  go_wp2_with (go_at_call 81; refine (HR1.out _).mono ?_; rintro e q1 ⟨rfl, y1⟩; obtain ⟨n0, n1, n2, n3⟩ := (N1k.out.ext y1).k4; obtain ⟨f0, f1, f2, f3⟩ := (N1k.out.ext y1).z4; have nl := (N1k.out.ext y1).1)
  have N2k : Hid (HV (q1.setCell ⟨g, 1, none⟩ (J zq t1)) g [J zq t0, J zq t1, J zq c, J zq d]) := (N1k.out.ext y1).set 1 _
  have RB2k : Hid (HV (q1.setCell ⟨g, 1, none⟩ (J zq t1)) (w.heap.size + 1 + 1) [J zq 0, J zq 0, J zq 0, J zq 0]) := (RB1k.out.ext y1).far ne
  have X2k : Ext w (q1.setCell ⟨g, 1, none⟩ (J zq t1)) := Ext.set (X1k.trans y1) hle _
  clear n0 n1 n2 n3 f0 f1 f2 f3 nl y1 N1k RB1k X1k
  generalize q1.setCell ⟨g, 1, none⟩ (J zq t1) = k2 at *
  rw [rounds_succ]
  go_wp2_with (go_at_call 81; refine (HR2.out _).mono ?_; rintro e q2 ⟨rfl, y2⟩; obtain ⟨n0, n1, n2, n3⟩ := (N2k.out.ext y2).k4; obtain ⟨f0, f1, f2, f3⟩ := (N2k.out.ext y2).z4; have nl := (N2k.out.ext y2).1)
  have N3k : Hid (HV (q2.setCell ⟨g, 2, none⟩ (J zq t2)) g [J zq t0, J zq t1, J zq t2, J zq d]) := (N2k.out.ext y2).set 2 _
  have RB3k : Hid (HV (q2.setCell ⟨g, 2, none⟩ (J zq t2)) (w.heap.size + 1 + 1) [J zq 0, J zq 0, J zq 0, J zq 0]) := (RB2k.out.ext y2).far ne
  have X3k : Ext w (q2.setCell ⟨g, 2, none⟩ (J zq t2)) := Ext.set (X2k.trans y2) hle _
  clear n0 n1 n2 n3 f0 f1 f2 f3 nl y2 N2k RB2k X2k
  generalize q2.setCell ⟨g, 2, none⟩ (J zq t2) = k3 at *
  rw [rounds_succ]
  go_wp2_with (go_at_call 81; refine (HR3.out _).mono ?_; rintro e q3 ⟨rfl, y3⟩; obtain ⟨n0, n1, n2, n3⟩ := (N3k.out.ext y3).k4; obtain ⟨f0, f1, f2, f3⟩ := (N3k.out.ext y3).z4; have nl := (N3k.out.ext y3).1)
  have N4k : Hid (HV (q3.setCell ⟨g, 3, none⟩ (J zq t3)) g [J zq t0, J zq t1, J zq t2, J zq t3]) := (N3k.out.ext y3).set 3 _
  have RB4k : Hid (HV (q3.setCell ⟨g, 3, none⟩ (J zq t3)) (w.heap.size + 1 + 1) [J zq 0, J zq 0, J zq 0, J zq 0]) := (RB3k.out.ext y3).far ne
  have X4k : Ext w (q3.setCell ⟨g, 3, none⟩ (J zq t3)) := Ext.set (X3k.trans y3) hle _
  clear n0 n1 n2 n3 f0 f1 f2 f3 nl y3 N3k RB3k X3k
  generalize q3.setCell ⟨g, 3, none⟩ (J zq t3) = k4 at *
  obtain ⟨n0, n1, n2, n3⟩ := N4k.out.k4
  obtain ⟨r0, r1, r2, r3⟩ := RB4k.out.k4
  obtain ⟨z0, z1, z2, z3⟩ := RB4k.out.z4
  have nl := N4k.out.1
  have rl := RB4k.out.1
  rw [rounds_succ]
  go_wp2_with fail
  exact bodyPost_ret (v := .tuple #[zG #[J zq t0, J zq t1, J zq t2, J zq t3], J zq 0]) (by simp [results, Tryz.results41, go_sem, r0, r1, r2, r3]) rfl ⟨rfl, xa⟩
def gat (n : Int) : Bool := decide (8580819 ≤ n) && decide (n ≤ 11032481)
theorem gat_iff {n : Int} : gat n = true ↔ 8580819 ≤ n ∧ n ≤ 11032481 := by unfold gat; simp
set_option maxRecDepth 20000 in
set_option maxHeartbeats 8000000 in
theorem grav_bad (x y z n : Int) (w : World) (HN : Hid (∀ w', Calls zP 82 #[zG #[J zq x, J zq y, J zq z]] w' fun e w'' => e = zR (.tuple #[J zq n, J zq 2]) ∧ Ext w' w'')) :
    Calls zP 44 #[zG #[J zq x, J zq y, J zq z]] w fun e w' => e = zR (.bool false) ∧ Ext w w' := by
  go_enter Tryz.func44, Tryz.ntmps44
  go_wp2_with (go_at_call 82; refine (HN.out _).mono ?_; rintro e w1 ⟨rfl, x1⟩)
  go_ret
  exact ⟨by first | rfl | (simp; omega), Ext.trans ((Ext.refl w).alloc _) x1⟩
set_option maxRecDepth 20000 in
set_option maxHeartbeats 8000000 in
theorem grav_low (x y z n : Int) (w : World) (HN : Hid (∀ w', Calls zP 82 #[zG #[J zq x, J zq y, J zq z]] w' fun e w'' => e = zR (.tuple #[J zq n, J zq 0]) ∧ Ext w' w'')) (h : n < 8580819) :
    Calls zP 44 #[zG #[J zq x, J zq y, J zq z]] w fun e w' => e = zR (.bool false) ∧ Ext w w' := by
  go_enter Tryz.func44, Tryz.ntmps44
  go_wp2_with (go_at_call 82; refine (HN.out _).mono ?_; rintro e w1 ⟨rfl, x1⟩)
  go_ret
  exact ⟨by first | rfl | (simp; omega), Ext.trans ((Ext.refl w).alloc _) x1⟩
set_option maxRecDepth 20000 in
set_option maxHeartbeats 8000000 in
theorem grav_high (x y z n : Int) (w : World) (HN : Hid (∀ w', Calls zP 82 #[zG #[J zq x, J zq y, J zq z]] w' fun e w'' => e = zR (.tuple #[J zq n, J zq 0]) ∧ Ext w' w'')) (h0 : 8580819 ≤ n) (h : 11032481 < n) :
    Calls zP 44 #[zG #[J zq x, J zq y, J zq z]] w fun e w' => e = zR (.bool false) ∧ Ext w w' := by
  go_enter Tryz.func44, Tryz.ntmps44
  go_wp2_with (go_at_call 82; refine (HN.out _).mono ?_; rintro e w1 ⟨rfl, x1⟩)
  go_ret
  exact ⟨by first | rfl | (simp; omega), Ext.trans ((Ext.refl w).alloc _) x1⟩
set_option maxRecDepth 20000 in
set_option maxHeartbeats 8000000 in
theorem grav_ok (x y z n : Int) (w : World) (HN : Hid (∀ w', Calls zP 82 #[zG #[J zq x, J zq y, J zq z]] w' fun e w'' => e = zR (.tuple #[J zq n, J zq 0]) ∧ Ext w' w'')) (h0 : 8580819 ≤ n) (h : n ≤ 11032481) :
    Calls zP 44 #[zG #[J zq x, J zq y, J zq z]] w fun e w' => e = zR (.bool true) ∧ Ext w w' := by
  go_enter Tryz.func44, Tryz.ntmps44
  go_wp2_with (go_at_call 82; refine (HN.out _).mono ?_; rintro e w1 ⟨rfl, x1⟩)
  go_ret
  exact ⟨by first | rfl | (simp; omega), Ext.trans ((Ext.refl w).alloc _) x1⟩
theorem grav_any (x y z n : Int) (w : World) (HN : Hid (∀ w', Calls zP 82 #[zG #[J zq x, J zq y, J zq z]] w' fun e w'' => e = zR (.tuple #[J zq (fitR n).1, J zq (fitR n).2]) ∧ Ext w' w'')) :
    Calls zP 44 #[zG #[J zq x, J zq y, J zq z]] w fun e w' => e = zR (.bool (gat n)) ∧ Ext w w' := by
  cases hk : okW n
  · have e : gat n = false := Bool.eq_false_iff.2 (fun h => by
      have := gat_iff.1 h
      unfold okW at hk; simp at hk; omega)
    rw [fit_no' hk] at HN
    rw [e]; exact grav_bad x y z _ w HN
  · rw [fit_yes' hk] at HN
    by_cases h1 : n < 8580819
    · have e : gat n = false := Bool.eq_false_iff.2 (fun h => by have := gat_iff.1 h; omega)
      rw [e]; exact grav_low x y z n w HN h1
    · by_cases h2 : 11032481 < n
      · have e : gat n = false := Bool.eq_false_iff.2 (fun h => by have := gat_iff.1 h; omega)
        rw [e]; exact grav_high x y z n w HN (by omega) h2
      · have e : gat n = true := gat_iff.2 ⟨by omega, by omega⟩
        rw [e]; exact grav_ok x y z n w HN (by omega) (by omega)
set_option maxRecDepth 20000 in
set_option maxHeartbeats 8000000 in
theorem upward_raw (a b c d x y z s0 s1 s2 m0 m1 m2 o0 o1 o2 c0 c1 c2 : Int) (w : World) (HB : Hid (∀ w', Calls zP 83 #[zG #[J zq a, J zq b, J zq c, J zq d], zG #[J zq 0, J zq 0, J zq 1073741824]] w' fun e w'' => e = zR (.tuple #[zG #[J zq s0, J zq s1, J zq s2], J zq 0]) ∧ Ext w' w'')) (HU : Hid (∀ w', Calls zP 84 #[zG #[J zq x, J zq y, J zq z]] w' fun e w'' => e = zR (.tuple #[zG #[J zq m0, J zq m1, J zq m2], J zq 0]) ∧ Ext w' w'')) (HC : Hid (∀ w', Calls zP 85 #[zG #[J zq m0, J zq m1, J zq m2], zG #[J zq s0, J zq s1, J zq s2]] w' fun e w'' => e = zR (.tuple #[zG #[J zq o0, J zq o1, J zq o2], J zq 0]) ∧ Ext w' w'')) (HS : Hid (∀ w', Calls zP 86 #[zG #[J zq o0, J zq o1, J zq o2], J zq 8388608] w' fun e w'' => e = zR (.tuple #[zG #[J zq c0, J zq c1, J zq c2], J zq 0]) ∧ Ext w' w'')) :
    Calls zP 45 #[zG #[J zq a, J zq b, J zq c, J zq d], zG #[J zq x, J zq y, J zq z]] w fun e w' => e = zR (.tuple #[zG #[J zq c0, J zq c1, J zq c2], J zq 0]) ∧ Ext w w' := by
  have RB : Hid (HV (((w.alloc (.cells #[J zq a, J zq b, J zq c, J zq d] 24)).alloc (.cells #[J zq x, J zq y, J zq z] 28)).alloc (.cells #[J zq 0, J zq 0, J zq 0] 28)) (w.heap.size + 1 + 1) [J zq 0, J zq 0, J zq 0]) := hv_at (by simp)
  have VB : Hid (HV (((w.alloc (.cells #[J zq a, J zq b, J zq c, J zq d] 24)).alloc (.cells #[J zq x, J zq y, J zq z] 28)).alloc (.cells #[J zq 0, J zq 0, J zq 0] 28)) (w.heap.size + 1) [J zq x, J zq y, J zq z]) := HV.alloc (hv_at (by simp)) _
  have XB : Ext w (((w.alloc (.cells #[J zq a, J zq b, J zq c, J zq d] 24)).alloc (.cells #[J zq x, J zq y, J zq z] 28)).alloc (.cells #[J zq 0, J zq 0, J zq 0] 28)) := (((Ext.refl _).alloc _).alloc _).alloc _
  go_enter Tryz.func45, Tryz.ntmps45
  go_wp2_with fail
  refine (HB.out _).mono ?_
  rintro e w1 ⟨rfl, x1⟩
  have S1 : Hid (HV (w1.alloc (.cells #[J zq s0, J zq s1, J zq s2] 28)) w1.heap.size [J zq s0, J zq s1, J zq s2]) := hv_at rfl
  have RB1 : Hid (HV (w1.alloc (.cells #[J zq s0, J zq s1, J zq s2] 28)) (w.heap.size + 1 + 1) [J zq 0, J zq 0, J zq 0]) := (RB.out.ext x1).alloc _
  obtain ⟨v0, v1, v2⟩ := (VB.out.ext x1).k3
  have vl := (VB.out.ext x1).1
  have X1 : Ext w (w1.alloc (.cells #[J zq s0, J zq s1, J zq s2] 28)) := (XB.trans x1).alloc _
  clear x1 RB VB XB
  go_wp2_with fail
  refine (HU.out _).mono ?_
  rintro e w2 ⟨rfl, x2⟩
  generalize hg1 : w1.heap.size = g1 at *
  have M2 : Hid (HV (w2.alloc (.cells #[J zq m0, J zq m1, J zq m2] 28)) w2.heap.size [J zq m0, J zq m1, J zq m2]) := hv_at rfl
  obtain ⟨s3, s4, s5⟩ := (S1.out.ext x2).k3
  have sl := (S1.out.ext x2).1
  have RB2 : Hid (HV (w2.alloc (.cells #[J zq m0, J zq m1, J zq m2] 28)) (w.heap.size + 1 + 1) [J zq 0, J zq 0, J zq 0]) := (RB1.out.ext x2).alloc _
  have X2 : Ext w (w2.alloc (.cells #[J zq m0, J zq m1, J zq m2] 28)) := (X1.trans x2).alloc _
  clear x2 S1 RB1 X1 v0 v1 v2 vl
  go_wp2_with fail
  refine (HC.out _).mono ?_
  rintro e w3 ⟨rfl, x3⟩
  have RB3 : Hid (HV (w3.alloc (.cells #[J zq o0, J zq o1, J zq o2] 28)) (w.heap.size + 1 + 1) [J zq 0, J zq 0, J zq 0]) := (RB2.out.ext x3).alloc _
  have X3 : Ext w (w3.alloc (.cells #[J zq o0, J zq o1, J zq o2] 28)) := (X2.trans x3).alloc _
  clear x3 M2 RB2 X2 s3 s4 s5 sl
  go_wp2_with fail
  refine (HS.out _).mono ?_
  rintro e w4 ⟨rfl, x4⟩
  obtain ⟨r0, r1, r2⟩ := (RB3.out.ext x4).k3
  obtain ⟨z0, z1, z2⟩ := (RB3.out.ext x4).z3
  have rl := (RB3.out.ext x4).1
  have X4 : Ext w w4 := X3.trans x4
  clear x4 RB3 X3
  go_wp2_with fail
  exact bodyPost_ret (v := .tuple #[zG #[J zq c0, J zq c1, J zq c2], J zq 0]) (by simp [results, Tryz.results45, go_sem, r0, r1, r2]) rfl ⟨rfl, xa⟩
set_option maxRecDepth 20000 in
set_option maxHeartbeats 8000000 in
theorem northward_raw (x y z s0 s1 s2 c : Int) (w : World) (HU : Hid (∀ w', Calls zP 84 #[zG #[J zq x, J zq y, J zq z]] w' fun e w'' => e = zR (.tuple #[zG #[J zq s0, J zq s1, J zq s2], J zq 0]) ∧ Ext w' w'')) (HM : Hid (∀ w', Calls zP 90 #[J zq s0, J zq 8388608] w' fun e w'' => e = zR (.tuple #[J zq c, J zq 0]) ∧ Ext w' w'')) :
    Calls zP 48 #[zG #[J zq x, J zq y, J zq z]] w fun e w' => e = zR (.tuple #[J zq c, J zq 0]) ∧ Ext w w' := by
  have XB : Ext w (w.alloc (.cells #[J zq x, J zq y, J zq z] 28)) := (Ext.refl _).alloc _
  go_enter Tryz.func48, Tryz.ntmps48
  go_wp2_with fail
  refine (HU.out _).mono ?_
  rintro e w1 ⟨rfl, x1⟩
  have X1 : Ext w (w1.alloc (.cells #[J zq s0, J zq s1, J zq s2] 28)) := (XB.trans x1).alloc _
  clear x1 XB
  go_wp2_with fail
  refine (HM.out _).mono ?_
  rintro e w2 ⟨rfl, x2⟩
  have X2 : Ext w w2 := X1.trans x2
  clear x2 X1
  go_wp2_with fail
  go_ret2
  exact ⟨rfl, X2⟩
def UnitQ (t0 t1 t2 t3 u0 u1 u2 u3 : Int) : Prop := ∃ k0 k1 k2 k3 : Nat, RootQ (t0.natAbs * t0.natAbs * 1152921504606846976) (sq4 t0 t1 t2 t3) k0 ∧ RootQ (t1.natAbs * t1.natAbs * 1152921504606846976) (sq4 t0 t1 t2 t3) k1 ∧ RootQ (t2.natAbs * t2.natAbs * 1152921504606846976) (sq4 t0 t1 t2 t3) k2 ∧ RootQ (t3.natAbs * t3.natAbs * 1152921504606846976) (sq4 t0 t1 t2 t3) k3 ∧ u0 = sgd t0 k0 ∧ u1 = sgd t1 k1 ∧ u2 = sgd t2 k2 ∧ u3 = sgd t3 k3
def UnitV (t0 t1 t2 u0 u1 u2 : Int) : Prop := ∃ k0 k1 k2 : Nat, RootQ (t0.natAbs * t0.natAbs * 1152921504606846976) (sq3 t0 t1 t2) k0 ∧ RootQ (t1.natAbs * t1.natAbs * 1152921504606846976) (sq3 t0 t1 t2) k1 ∧ RootQ (t2.natAbs * t2.natAbs * 1152921504606846976) (sq3 t0 t1 t2) k2 ∧ u0 = sgd t0 k0 ∧ u1 = sgd t1 k1 ∧ u2 = sgd t2 k2
theorem unitq_ex {a b c d : Int} (h : ¬ (a = 0 ∧ b = 0 ∧ c = 0 ∧ d = 0)) : ∃ u0 u1 u2 u3, UnitQ a b c d u0 u1 u2 u3 := by
  have n0 := sq4_pos h
  obtain ⟨k0, h0⟩ := rootQ_exists (a.natAbs * a.natAbs * 1152921504606846976) (sq4 a b c d) n0
  obtain ⟨k1, h1⟩ := rootQ_exists (b.natAbs * b.natAbs * 1152921504606846976) (sq4 a b c d) n0
  obtain ⟨k2, h2⟩ := rootQ_exists (c.natAbs * c.natAbs * 1152921504606846976) (sq4 a b c d) n0
  obtain ⟨k3, h3⟩ := rootQ_exists (d.natAbs * d.natAbs * 1152921504606846976) (sq4 a b c d) n0
  exact ⟨_, _, _, _, k0, k1, k2, k3, h0, h1, h2, h3, rfl, rfl, rfl, rfl⟩
theorem unitv_ex {a b c : Int} (h : ¬ (a = 0 ∧ b = 0 ∧ c = 0)) : ∃ u0 u1 u2, UnitV a b c u0 u1 u2 := by
  have n0 := sq3_zero a b c h
  obtain ⟨k0, h0⟩ := rootQ_exists (a.natAbs * a.natAbs * 1152921504606846976) (sq3 a b c) n0
  obtain ⟨k1, h1⟩ := rootQ_exists (b.natAbs * b.natAbs * 1152921504606846976) (sq3 a b c) n0
  obtain ⟨k2, h2⟩ := rootQ_exists (c.natAbs * c.natAbs * 1152921504606846976) (sq3 a b c) n0
  exact ⟨_, _, _, k0, k1, k2, h0, h1, h2, rfl, rfl, rfl⟩
theorem unitv_le {a b c u0 u1 u2 : Int} (h : ¬ (a = 0 ∧ b = 0 ∧ c = 0)) (hu : UnitV a b c u0 u1 u2) : (-1073741824 ≤ u0 ∧ u0 ≤ 1073741824) ∧ (-1073741824 ≤ u1 ∧ u1 ≤ 1073741824) ∧ (-1073741824 ≤ u2 ∧ u2 ≤ 1073741824) := by
  obtain ⟨k0, k1, k2, h0, h1, h2, e0, e1, e2⟩ := hu
  have n0 := sq3_zero a b c h
  obtain ⟨p0, p1, p2⟩ := sq3_parts a b c
  have q0 := unit_k_le n0 p0 h0
  have q1 := unit_k_le n0 p1 h1
  have q2 := unit_k_le n0 p2 h2
  have s0 := @sgd_le a k0
  have s1 := @sgd_le b k1
  have s2 := @sgd_le c k2
  rw [← e0] at s0; rw [← e1] at s1; rw [← e2] at s2
  omega
theorem unitq_le {a b c d u0 u1 u2 u3 : Int} (h : ¬ (a = 0 ∧ b = 0 ∧ c = 0 ∧ d = 0)) (hu : UnitQ a b c d u0 u1 u2 u3) : (-1073741824 ≤ u0 ∧ u0 ≤ 1073741824) ∧ (-1073741824 ≤ u1 ∧ u1 ≤ 1073741824) ∧ (-1073741824 ≤ u2 ∧ u2 ≤ 1073741824) ∧ (-1073741824 ≤ u3 ∧ u3 ≤ 1073741824) := by
  obtain ⟨k0, k1, k2, k3, h0, h1, h2, h3, e0, e1, e2, e3⟩ := hu
  have n0 := sq4_pos h
  obtain ⟨p0, p1, p2, p3⟩ := le_sq4 a b c d
  have q0 := unit_k_le n0 p0 h0
  have q1 := unit_k_le n0 p1 h1
  have q2 := unit_k_le n0 p2 h2
  have q3 := unit_k_le n0 p3 h3
  have s0 := @sgd_le a k0
  have s1 := @sgd_le b k1
  have s2 := @sgd_le c k2
  have s3 := @sgd_le d k3
  rw [← e0] at s0; rw [← e1] at s1; rw [← e2] at s2; rw [← e3] at s3
  omega
theorem sgd_sq (v : Int) (k : Nat) : sgd v k * sgd v k = ((k * k : Nat) : Int) := by
  unfold sgd
  split
  · rw [Int.neg_mul_neg, Int.natCast_mul]
  · rw [Int.natCast_mul]
theorem unitq_okO {a b c d u0 u1 u2 u3 : Int} (h : ¬ (a = 0 ∧ b = 0 ∧ c = 0 ∧ d = 0)) (hu : UnitQ a b c d u0 u1 u2 u3) : okO u0 u1 u2 u3 = true := by
  have hb := unitq_le h hu
  obtain ⟨k0, k1, k2, k3, h0, h1, h2, h3, e0, e1, e2, e3⟩ := hu
  have n0 := sq4_pos h
  have s := unit_sum (sq4 a b c d) _ _ _ _ k0 k1 k2 k3 n0 (by unfold sq4; rfl) h0 h1 h2 h3
  have f0 := sgd_sq a k0
  have f1 := sgd_sq b k1
  have f2 := sgd_sq c k2
  have f3 := sgd_sq d k3
  rw [← e0] at f0; rw [← e1] at f1; rw [← e2] at f2; rw [← e3] at f3
  refine okO_iff.2 ⟨⟨by omega, by omega⟩, ⟨by omega, by omega⟩, ⟨by omega, by omega⟩, ⟨by omega, by omega⟩, ?_, ?_⟩ <;> rw [f0, f1, f2, f3] <;> omega
theorem okO_ok4 {a b c d : Int} (h : okO a b c d = true) : ok4 a b c d = true := by
  have := okO_iff.1 h
  unfold ok4 okW
  simp only [Bool.and_eq_true, decide_eq_true_eq]
  omega
theorem okO_zero {a b c d : Int} (h : okO a b c d = true) : ¬ (a = 0 ∧ b = 0 ∧ c = 0 ∧ d = 0) := by
  rintro ⟨rfl, rfl, rfl, rfl⟩
  have := okO_iff.1 h
  omega
theorem rootQ_zero {n k : Nat} (hn : 0 < n) (h : RootQ 0 n k) : k = 0 := by
  rcases h.2.1 with h1 | h1
  · exact h1
  · apply Nat.eq_zero_of_not_pos
    intro hk
    have h2 : 1 * 1 ≤ (2 * k - 1) * (2 * k - 1) := Nat.mul_le_mul (by omega) (by omega)
    have h3 : 1 * n ≤ (2 * k - 1) * (2 * k - 1) * n := Nat.mul_le_mul_right _ (by omega)
    omega
theorem sq4_conj (a b c d : Int) : sq4 a (-b) (-c) (-d) = sq4 a b c d := by unfold sq4; simp only [Int.natAbs_neg]
theorem abs_of_sq {p m : Int} (hm : 0 ≤ m) (h : p * p ≤ m * m) : -m ≤ p ∧ p ≤ m := by
  have h1 : p * p < (m + 1) * (m + 1) := by
    have e : (m + 1) * (m + 1) = m * m + 2 * m + 1 := by grind
    omega
  have := lt_of_sq h1
  omega
theorem near_abs {p n B : Int} (hn : 0 < n) (h1 : -(n * B) ≤ p) (h2 : p ≤ n * B) : -B ≤ nearI p n ∧ nearI p n ≤ B := by
  obtain ⟨s1, s2, _⟩ := nearI_spec p n hn
  generalize nearI p n = z at *
  constructor
  · apply Int.le_of_not_gt
    intro hc
    have h3 : z * n ≤ (-B - 1) * n := Int.mul_le_mul_of_nonneg_right (by omega) (by omega)
    have e : (-B - 1) * n = -(n * B) - n := by grind
    omega
  · apply Int.le_of_not_gt
    intro hc
    have h3 : (B + 1) * n ≤ z * n := Int.mul_le_mul_of_nonneg_right (by omega) (by omega)
    have e : (B + 1) * n = n * B + n := by grind
    omega
theorem tn_bound {a b c d x y z B : Int} (hB : 0 ≤ B) (hn : 0 < sq4 a b c d) (hv : x * x + y * y + z * z ≤ B * B) :
    (-B ≤ nearI (tnx a b c d x y z) (sq4 a b c d) ∧ nearI (tnx a b c d x y z) (sq4 a b c d) ≤ B) ∧ (-B ≤ nearI (tny a b c d x y z) (sq4 a b c d) ∧ nearI (tny a b c d x y z) (sq4 a b c d) ≤ B) ∧ (-B ≤ nearI (tnz a b c d x y z) (sq4 a b c d) ∧ nearI (tnz a b c d x y z) (sq4 a b c d) ≤ B) := by
  have h := tn_sq a b c d x y z
  have e := sq4_int a b c d
  rw [e] at h
  have hn' : (0 : Int) < ((sq4 a b c d : Nat) : Int) := by omega
  generalize ((sq4 a b c d : Nat) : Int) = n at *
  generalize tnx a b c d x y z = X at *
  generalize tny a b c d x y z = Y at *
  generalize tnz a b c d x y z = Z at *
  have hx := sq_nonneg X
  have hy := sq_nonneg Y
  have hz := sq_nonneg Z
  have hnn : 0 ≤ n * n := sq_nonneg n
  have h2 : n * n * (x * x + y * y + z * z) ≤ n * n * (B * B) := Int.mul_le_mul_of_nonneg_left hv hnn
  have e2 : n * n * (B * B) = n * B * (n * B) := by grind
  have hnB : 0 ≤ n * B := Int.mul_nonneg (by omega) hB
  have gx := abs_of_sq (p := X) hnB (by omega)
  have gy := abs_of_sq (p := Y) hnB (by omega)
  have gz := abs_of_sq (p := Z) hnB (by omega)
  exact ⟨near_abs hn' gx.1 gx.2, near_abs hn' gy.1 gy.2, near_abs hn' gz.1 gz.2⟩
theorem nearQ_abs {p B : Int} (h1 : -(1073741824 * B) ≤ p) (h2 : p ≤ 1073741824 * B) : -B ≤ nearQ p ∧ nearQ p ≤ B := by
  have h := nearQ_IsNear p
  have e : nearQ p = nearI p 1073741824 := h.unique (by decide) (nearI_spec p 1073741824 (by decide))
  rw [e]
  exact near_abs (by decide) h1 h2
theorem okW_of {v : Int} (h1 : -35184372088832 < v) (h2 : v < 35184372088832) : okW v = true := by unfold okW; simp [h1, h2]
theorem mul_le_of {a b A B : Int} (h1 : -A ≤ a) (h2 : a ≤ A) (k1 : -B ≤ b) (k2 : b ≤ B) : -(A * B) ≤ a * b ∧ a * b ≤ A * B := by
  have hA : 0 ≤ A := by omega
  have hB : 0 ≤ B := by omega
  have e : (a * b).natAbs = a.natAbs * b.natAbs := Int.natAbs_mul a b
  have m : a.natAbs * b.natAbs ≤ A.natAbs * B.natAbs := Nat.mul_le_mul (by omega) (by omega)
  have e2 : (A * B).natAbs = A.natAbs * B.natAbs := Int.natAbs_mul A B
  have e3 : 0 ≤ A * B := Int.mul_nonneg hA hB
  omega
end Go.Proofs.YtoeecldhbabmbaaGreat
