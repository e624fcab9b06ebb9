/- quat: through, by inQ30. quat: Unit, Norm. Plain numbers: units, and products of units. -/
import Derived.Test.YtoeecldhbabmbaaGreatMg9
import Derived.Test.YtoeecldhbabmbaaGreatMg22
import Derived.Test.YtoeecldhbabmbaaGreatQ2m
import Derived.Test.YtoeecldhbabmbaaGreatMg11
import Derived.Test.YtoeecldhbabmbaaGreatW9m
open Go.Value renaming int → J, agg → zG
open Go.IntKind renaming i64 → zq, u64 → zu
open Go.Ending renaming returned → zR
open Go.Proofs.Tryz renaming prog → zP
namespace Go.Proofs.YtoeecldhbabmbaaGreat
open Go.RowKit Go.Shelf
set_option maxRecDepth 20000 in
set_option maxHeartbeats 8000000 in
theorem throughN_c (a0 a1 a2 a3 a4 a5 a6 a7 a8 a9 a10 a11 Z0 Z1 Z2 Z3 r0 e0 r1 e1 r2 e2 r3 e3 : Int) (w : World)
    (H0 : Hid (∀ w', Ext w w' → Calls zP 117 #[zG #[J zu a0, J zu a1, J zu a2]] w' fun e w'' => (∃ r, e = zR r ∧ IsW r Z0) ∧ Ext w' w''))
    (W0 : Hid (∀ t w', IsW t Z0 → Calls zP 145 #[t] w' fun e w'' => e = zR (.tuple #[J zq r0, J zq e0]) ∧ Ext w' w''))
    (H1 : Hid (∀ w', Ext w w' → Calls zP 117 #[zG #[J zu a3, J zu a4, J zu a5]] w' fun e w'' => (∃ r, e = zR r ∧ IsW r Z1) ∧ Ext w' w''))
    (W1 : Hid (∀ t w', IsW t Z1 → Calls zP 145 #[t] w' fun e w'' => e = zR (.tuple #[J zq r1, J zq e1]) ∧ Ext w' w''))
    (H2 : Hid (∀ w', Ext w w' → Calls zP 117 #[zG #[J zu a6, J zu a7, J zu a8]] w' fun e w'' => (∃ r, e = zR r ∧ IsW r Z2) ∧ Ext w' w''))
    (W2 : Hid (∀ t w', IsW t Z2 → Calls zP 145 #[t] w' fun e w'' => e = zR (.tuple #[J zq r2, J zq e2]) ∧ Ext w' w''))
    (H3 : Hid (∀ w', Ext w w' → Calls zP 117 #[zG #[J zu a9, J zu a10, J zu a11]] w' fun e w'' => (∃ r, e = zR r ∧ IsW r Z3) ∧ Ext w' w''))
    (W3 : Hid (∀ t w', IsW t Z3 → Calls zP 145 #[t] w' fun e w'' => e = zR (.tuple #[J zq r3, J zq e3]) ∧ Ext w' w'')) :
    Calls zP 114 #[zG #[J zu a0, J zu a1, J zu a2, J zu a3, J zu a4, J zu a5, J zu a6, J zu a7, J zu a8, J zu a9, J zu a10, J zu a11], .func (.func 117) #[] #[]] w fun e w' => e = zR (thr4 r0 e0 r1 e1 r2 e2 r3 e3) ∧ Ext w w' := by
  have i0 : ∀ w : World, (Instr.index 154 (zG #[J zu a0, J zu a1, J zu a2, J zu a3, J zu a4, J zu a5, J zu a6, J zu a7, J zu a8, J zu a9, J zu a10, J zu a11]) (J zq 0)).run zP w = .ok (zG #[J zu a0, J zu a1, J zu a2]) w := fun _ => by kernel_rfl
  have i1 : ∀ w : World, (Instr.index 154 (zG #[J zu a0, J zu a1, J zu a2, J zu a3, J zu a4, J zu a5, J zu a6, J zu a7, J zu a8, J zu a9, J zu a10, J zu a11]) (J zq 1)).run zP w = .ok (zG #[J zu a3, J zu a4, J zu a5]) w := fun _ => by kernel_rfl
  have i2 : ∀ w : World, (Instr.index 154 (zG #[J zu a0, J zu a1, J zu a2, J zu a3, J zu a4, J zu a5, J zu a6, J zu a7, J zu a8, J zu a9, J zu a10, J zu a11]) (J zq 2)).run zP w = .ok (zG #[J zu a6, J zu a7, J zu a8]) w := fun _ => by kernel_rfl
  have i3 : ∀ w : World, (Instr.index 154 (zG #[J zu a0, J zu a1, J zu a2, J zu a3, J zu a4, J zu a5, J zu a6, J zu a7, J zu a8, J zu a9, J zu a10, J zu a11]) (J zq 3)).run zP w = .ok (zG #[J zu a9, J zu a10, J zu a11]) w := fun _ => by kernel_rfl
  obtain ⟨R, hR⟩ : ∃ R, thr4 r0 e0 r1 e1 r2 e2 r3 e3 = R := ⟨_, rfl⟩
  rw [hR]
  have T0 : Hid (e0 ≠ 0 → R = .tuple #[zG #[J zq 0, J zq 0, J zq 0, J zq 0], J zq e0]) := fun a => by rw [← hR]; unfold thr4; rw [if_neg a]
  have T1 : Hid (e0 = 0 → e1 ≠ 0 → R = .tuple #[zG #[J zq 0, J zq 0, J zq 0, J zq 0], J zq e1]) := fun a b => by rw [← hR]; unfold thr4; rw [if_pos a, if_neg b]
  have T2 : Hid (e0 = 0 → e1 = 0 → e2 ≠ 0 → R = .tuple #[zG #[J zq 0, J zq 0, J zq 0, J zq 0], J zq e2]) := fun a b c => by rw [← hR]; unfold thr4; rw [if_pos a, if_pos b, if_neg c]
  have T3 : Hid (e0 = 0 → e1 = 0 → e2 = 0 → e3 ≠ 0 → R = .tuple #[zG #[J zq 0, J zq 0, J zq 0, J zq 0], J zq e3]) := fun a b c d => by rw [← hR]; unfold thr4; rw [if_pos a, if_pos b, if_pos c, if_neg d]
  have T4 : Hid (e0 = 0 → e1 = 0 → e2 = 0 → e3 = 0 → R = .tuple #[zG #[J zq r0, J zq r1, J zq r2, J zq r3], J zq 0]) := fun a b c d => by rw [← hR]; unfold thr4; rw [if_pos a, if_pos b, if_pos c, if_pos d]
  clear hR
  go_enter Tryz.func114, Tryz.ntmps114
  go_wp2_with fail
  refine wp_loop_rounds 5 ?_
  rw [rounds_succ]
  go_wp2_with fail
  refine (H0.out _ xa).mono ?_
  rintro e v0 ⟨⟨t0, rfl, h0⟩, y0⟩
  have MV0 : Hid (H4 v0 (w.heap.size + 1 + 1) (J zq 0) (J zq 0) (J zq 0) (J zq 0)) := (H4.alloc (h4_at (by simp)) _).ext y0
  have RV0 : Hid (H4 v0 (w.heap.size + 1) (J zq 0) (J zq 0) (J zq 0) (J zq 0)) := (H4.alloc (H4.alloc (h4_at (by simp)) _) _).ext y0
  have XV0 : Ext w v0 := Ext.trans xa y0
  clear y0
  go_wp2_with fail
  refine (W0.out _ _ h0).mono ?_
  rintro e w1 ⟨rfl, x1⟩
  have MM1 : Hid (H4 w1 (w.heap.size + 1 + 1) (J zq 0) (J zq 0) (J zq 0) (J zq 0)) := MV0.out.ext x1
  have RR1 : Hid (H4 w1 (w.heap.size + 1) (J zq 0) (J zq 0) (J zq 0) (J zq 0)) := RV0.out.ext x1
  have X1 : Ext w w1 := XV0.trans x1
  clear x1 XV0
  obtain ⟨m0, m1, m2, m3, m4, m5, m6, m7, m8⟩ := MM1.out
  obtain ⟨q0, q1, q2, q3, q4, q5, q6, q7, q8⟩ := RR1.out
  by_cases k0 : e0 = 0
  case neg =>
    have n0 : (e0 != 0) = true := by simpa using k0
    have hR := T0.out k0
    subst hR
    clear T0 T1 T2 T3 T4
    go_wp2_with fail
    exact bodyPost_ret (v := .tuple #[zG #[J zq 0, J zq 0, J zq 0, J zq 0], J zq e0]) (by simp [results, Tryz.results114, go_sem, q0, q1, q2, q3]) rfl ⟨rfl, xa⟩
  subst k0
  go_wp2_with fail
  rw [rounds_succ]
  go_wp2_with fail
  refine (H1.out _ xa).mono ?_
  rintro e v1 ⟨⟨t1, rfl, h1⟩, y1⟩
  have MV1 : Hid (H4 v1 (w.heap.size + 1 + 1) (J zq r0) (J zq 0) (J zq 0) (J zq 0)) := (H4.alloc (H4.set0 MM1.out _) _).ext y1
  have RV1 : Hid (H4 v1 (w.heap.size + 1) (J zq 0) (J zq 0) (J zq 0) (J zq 0)) := (H4.alloc (H4.far RR1.out (by omega)) _).ext y1
  have XV1 : Ext w v1 := Ext.trans xa y1
  clear y1
  clear m0 m1 m2 m3 m4 m5 m6 m7 m8 q0 q1 q2 q3 q4 q5 q6 q7 q8 X1
  go_wp2_with fail
  refine (W1.out _ _ h1).mono ?_
  rintro e w2 ⟨rfl, x2⟩
  have MM2 : Hid (H4 w2 (w.heap.size + 1 + 1) (J zq r0) (J zq 0) (J zq 0) (J zq 0)) := MV1.out.ext x2
  have RR2 : Hid (H4 w2 (w.heap.size + 1) (J zq 0) (J zq 0) (J zq 0) (J zq 0)) := RV1.out.ext x2
  have X2 : Ext w w2 := XV1.trans x2
  clear x2 XV1
  obtain ⟨m0, m1, m2, m3, m4, m5, m6, m7, m8⟩ := MM2.out
  obtain ⟨q0, q1, q2, q3, q4, q5, q6, q7, q8⟩ := RR2.out
  by_cases k1 : e1 = 0
  case neg =>
    have n1 : (e1 != 0) = true := by simpa using k1
    have hR := T1.out (by first | exact rfl | trivial) k1
    subst hR
    clear T0 T1 T2 T3 T4
    go_wp2_with fail
    exact bodyPost_ret (v := .tuple #[zG #[J zq 0, J zq 0, J zq 0, J zq 0], J zq e1]) (by simp [results, Tryz.results114, go_sem, q0, q1, q2, q3]) rfl ⟨rfl, xa⟩
  subst k1
  go_wp2_with fail
  rw [rounds_succ]
  go_wp2_with fail
  refine (H2.out _ xa).mono ?_
  rintro e v2 ⟨⟨t2, rfl, h2⟩, y2⟩
  have MV2 : Hid (H4 v2 (w.heap.size + 1 + 1) (J zq r0) (J zq r1) (J zq 0) (J zq 0)) := (H4.alloc (H4.set1 MM2.out _) _).ext y2
  have RV2 : Hid (H4 v2 (w.heap.size + 1) (J zq 0) (J zq 0) (J zq 0) (J zq 0)) := (H4.alloc (H4.far RR2.out (by omega)) _).ext y2
  have XV2 : Ext w v2 := Ext.trans xa y2
  clear y2
  clear m0 m1 m2 m3 m4 m5 m6 m7 m8 q0 q1 q2 q3 q4 q5 q6 q7 q8 X2
  go_wp2_with fail
  refine (W2.out _ _ h2).mono ?_
  rintro e w3 ⟨rfl, x3⟩
  have MM3 : Hid (H4 w3 (w.heap.size + 1 + 1) (J zq r0) (J zq r1) (J zq 0) (J zq 0)) := MV2.out.ext x3
  have RR3 : Hid (H4 w3 (w.heap.size + 1) (J zq 0) (J zq 0) (J zq 0) (J zq 0)) := RV2.out.ext x3
  have X3 : Ext w w3 := XV2.trans x3
  clear x3 XV2
  obtain ⟨m0, m1, m2, m3, m4, m5, m6, m7, m8⟩ := MM3.out
  obtain ⟨q0, q1, q2, q3, q4, q5, q6, q7, q8⟩ := RR3.out
  by_cases k2 : e2 = 0
  case neg =>
    have n2 : (e2 != 0) = true := by simpa using k2
    have hR := T2.out (by first | exact rfl | trivial) (by first | exact rfl | trivial) k2
    subst hR
    clear T0 T1 T2 T3 T4
    go_wp2_with fail
    exact bodyPost_ret (v := .tuple #[zG #[J zq 0, J zq 0, J zq 0, J zq 0], J zq e2]) (by simp [results, Tryz.results114, go_sem, q0, q1, q2, q3]) rfl ⟨rfl, xa⟩
  subst k2
  go_wp2_with fail
  rw [rounds_succ]
  go_wp2_with fail
  refine (H3.out _ xa).mono ?_
  rintro e v3 ⟨⟨t3, rfl, h3⟩, y3⟩
  have MV3 : Hid (H4 v3 (w.heap.size + 1 + 1) (J zq r0) (J zq r1) (J zq r2) (J zq 0)) := (H4.alloc (H4.set2 MM3.out _) _).ext y3
  have RV3 : Hid (H4 v3 (w.heap.size + 1) (J zq 0) (J zq 0) (J zq 0) (J zq 0)) := (H4.alloc (H4.far RR3.out (by omega)) _).ext y3
  have XV3 : Ext w v3 := Ext.trans xa y3
  clear y3
  clear m0 m1 m2 m3 m4 m5 m6 m7 m8 q0 q1 q2 q3 q4 q5 q6 q7 q8 X3
  go_wp2_with fail
  refine (W3.out _ _ h3).mono ?_
  rintro e w4 ⟨rfl, x4⟩
  have MM4 : Hid (H4 w4 (w.heap.size + 1 + 1) (J zq r0) (J zq r1) (J zq r2) (J zq 0)) := MV3.out.ext x4
  have RR4 : Hid (H4 w4 (w.heap.size + 1) (J zq 0) (J zq 0) (J zq 0) (J zq 0)) := RV3.out.ext x4
  have X4 : Ext w w4 := XV3.trans x4
  clear x4 XV3
  obtain ⟨m0, m1, m2, m3, m4, m5, m6, m7, m8⟩ := MM4.out
  obtain ⟨q0, q1, q2, q3, q4, q5, q6, q7, q8⟩ := RR4.out
  by_cases k3 : e3 = 0
  case neg =>
    have n3 : (e3 != 0) = true := by simpa using k3
    have hR := T3.out (by first | exact rfl | trivial) (by first | exact rfl | trivial) (by first | exact rfl | trivial) k3
    subst hR
    clear T0 T1 T2 T3 T4
    go_wp2_with fail
    exact bodyPost_ret (v := .tuple #[zG #[J zq 0, J zq 0, J zq 0, J zq 0], J zq e3]) (by simp [results, Tryz.results114, go_sem, q0, q1, q2, q3]) rfl ⟨rfl, xa⟩
  subst k3
  go_wp2_with fail
  rw [rounds_succ]
  go_wp2_with fail
  have hR := T4.out (by first | exact rfl | trivial) (by first | exact rfl | trivial) (by first | exact rfl | trivial) (by first | exact rfl | trivial)
  subst hR
  exact bodyPost_ret (v := .tuple #[zG #[J zq r0, J zq r1, J zq r2, J zq r3], J zq 0]) (by simp [results, Tryz.results114, go_sem, q0, q1, q2, q3]) rfl ⟨rfl, xa⟩
theorem throughN_any (a0 a1 a2 a3 a4 a5 a6 a7 a8 a9 a10 a11 Z0 Z1 Z2 Z3 : Int) (w : World) (z0 : InW Z0) (z1 : InW Z1) (z2 : InW Z2) (z3 : InW Z3)
    (H0 : ∀ w', Ext w w' → Calls zP 117 #[zG #[J zu a0, J zu a1, J zu a2]] w' fun e w'' => (∃ r, e = zR r ∧ IsW r Z0) ∧ Ext w' w'')
    (H1 : ∀ w', Ext w w' → Calls zP 117 #[zG #[J zu a3, J zu a4, J zu a5]] w' fun e w'' => (∃ r, e = zR r ∧ IsW r Z1) ∧ Ext w' w'')
    (H2 : ∀ w', Ext w w' → Calls zP 117 #[zG #[J zu a6, J zu a7, J zu a8]] w' fun e w'' => (∃ r, e = zR r ∧ IsW r Z2) ∧ Ext w' w'')
    (H3 : ∀ w', Ext w w' → Calls zP 117 #[zG #[J zu a9, J zu a10, J zu a11]] w' fun e w'' => (∃ r, e = zR r ∧ IsW r Z3) ∧ Ext w' w'') :
    Calls zP 114 #[zG #[J zu a0, J zu a1, J zu a2, J zu a3, J zu a4, J zu a5, J zu a6, J zu a7, J zu a8, J zu a9, J zu a10, J zu a11], .func (.func 117) #[] #[]] w fun e w' => e = zR (qres Z0 Z1 Z2 Z3) ∧ Ext w w' := by
  rw [← thr4_fit]
  unfold thr4
  have V0 : ∀ t w', IsW t Z0 → _ := fun t w' ht => wordw_any Z0 t w' ht z0
  have V1 : ∀ t w', IsW t Z1 → _ := fun t w' ht => wordw_any Z1 t w' ht z1
  have V2 : ∀ t w', IsW t Z2 → _ := fun t w' ht => wordw_any Z2 t w' ht z2
  have V3 : ∀ t w', IsW t Z3 → _ := fun t w' ht => wordw_any Z3 t w' ht z3
  exact throughN_c _ _ _ _ _ _ _ _ _ _ _ _ _ _ _ _ _ _ _ _ _ _ _ _ w H0 V0 H1 V1 H2 V2 H3 V3
set_option maxHeartbeats 4000000 in
theorem eqQ (x y z u a b c d : Int) (w : World) : (Op.equalIn 10000 24 (zG #[J zq x, J zq y, J zq z, J zq u]) (zG #[J zq a, J zq b, J zq c, J zq d])).run zP w = .ok (x == a && (y == b && (z == c && u == d))) w := by
  by_cases hx : x = a <;> by_cases hy : y = b <;> by_cases hz : z = c <;> by_cases hu : u = d <;> simp [go_sem, hx, hy, hz, hu]
set_option maxHeartbeats 2000000 in
theorem qunit1_raw (v b0 b1 b2 z : Int) (g : Nat) (w : World) (GB : H3 w g (J zu b0) (J zu b1) (J zu b2))
    (HO : Hid (∀ w', Calls zP 136 #[J zq v, zG #[J zu b0, J zu b1, J zu b2]] w' fun e w'' => (∃ r, e = zR r ∧ IsW r z) ∧ Ext w' w'')) :
    Calls zP 135 #[J zq v, .pointer (some ⟨g, 0, none⟩)] w fun e w' => (∃ r, e = zR r ∧ IsW r z) ∧ Ext w w' := by
  have hg := GB.2.2.2.2.2.2
  have GG := GB.alloc (.cells #[J zu 0, J zu 0, J zu 0] 152)
  obtain ⟨g0, g1, g2, g3, g4, g5, g6⟩ := GG
  clear GB
  go_enter Tryz.func135, Tryz.ntmps135
  go_wp2_with fail
  refine (HO.out _).mono ?_
  rintro e w1 ⟨⟨r, rfl, s0, s1, s2, rfl, hr⟩, x1⟩
  have HR : Hid _ := hr
  clear hr
  have X1 : Ext w w1 := Ext.trans xa x1
  obtain ⟨c0, c1, c2, c3, c4, c5, c6⟩ : H3 w1 w.heap.size _ _ _ := (h3_at rfl).ext x1
  clear x1 g0 g1 g2 g3 g4 g5 g6
  go_wp2_with fail
  exact bodyPost_ret (v := zG #[J zu s0, J zu s1, J zu s2]) (by simp [results, Tryz.results135, go_sem, c0, c1, c2]) rfl ⟨⟨_, rfl, _, _, _, rfl, HR.out⟩, xa⟩
set_option maxHeartbeats 2000000 in
theorem qinQ30_any (z : Int) (u : Value) (w : World) (hu : IsW u z) (hz : InW (z + 536870912)) (hz' : InW z) :
    Calls zP 117 #[u] w fun e w' => (∃ r, e = zR r ∧ IsW r (nearQ z)) ∧ Ext w w' := by
  have HO : Hid (∀ w', Calls zP 156 #[u, J zq 30] w' fun e w'' => (∃ r, e = zR r ∧ IsW r (nearQ z)) ∧ Ext w' w'') := fun w' => nearestw_any z u w' hu hz hz'
  obtain ⟨a0, a1, a2, rfl, ha⟩ := hu
  clear ha hz hz'
  go_enter Tryz.func117, Tryz.ntmps117
  go_wp2_with fail
  refine (HO.out _).mono ?_
  rintro e w1 ⟨⟨r, rfl, s0, s1, s2, rfl, hr⟩, x1⟩
  have HR : Hid _ := hr
  clear hr
  have X1 : Ext w w1 := Ext.trans xa x1
  obtain ⟨c0, c1, c2, c3, c4, c5, c6⟩ : H3 w1 (w.heap.size + 1) _ _ _ := (h3_at (by simp)).ext x1
  clear x1
  go_wp2_with fail
  exact bodyPost_ret (v := zG #[J zu s0, J zu s1, J zu s2]) (by simp [results, Tryz.results117, go_sem, c0, c1, c2]) rfl ⟨⟨_, rfl, _, _, _, rfl, HR.out⟩, xa⟩
set_option maxRecDepth 20000 in
set_option maxHeartbeats 4000000 in
theorem qunit_raw (a b c d N E0 E1 E2 E3 ee : Int) (w : World)
    (HS : Hid (∀ w', Calls zP 133 #[zG #[J zq a, J zq b, J zq c, J zq d]] w' fun e w'' => (∃ r, e = zR r ∧ IsW r N) ∧ Ext w' w''))
    (HT : Hid (∀ g b0 b1 b2 w', IsW (zG #[J zu b0, J zu b1, J zu b2]) N → H3 w' g (J zu b0) (J zu b1) (J zu b2) → Calls zP 134 #[zG #[J zq a, J zq b, J zq c, J zq d], .func (.func 135) #[] #[.pointer (some ⟨g, 0, none⟩)]] w' fun e w'' => e = zR (.tuple #[zG #[J zq E0, J zq E1, J zq E2, J zq E3], J zq ee]) ∧ Ext w' w'')) :
    Calls zP 106 #[zG #[J zq a, J zq b, J zq c, J zq d]] w fun e w' => e = zR (.tuple #[zG #[J zq E0, J zq E1, J zq E2, J zq E3], J zq ee]) ∧ Ext w w' := by
  go_enter Tryz.func106, Tryz.ntmps106
  go_wp2_with fail
  refine (HS.out _).mono ?_
  rintro e w1 ⟨⟨uN, rfl, b0, b1, b2, rfl, hN0⟩, x1⟩
  have HN : Hid (IsW (zG #[J zu b0, J zu b1, J zu b2]) N) := ⟨_, _, _, rfl, hN0⟩
  clear hN0
  have QB : Hid (H4 w1 w.heap.size (J zq a) (J zq b) (J zq c) (J zq d)) := (H4.alloc (h4_at rfl) _).ext x1
  have RB : Hid (H4 w1 (w.heap.size + 1) (J zq 0) (J zq 0) (J zq 0) (J zq 0)) := (h4_at (by simp)).ext x1
  have X1 : Ext w w1 := Ext.trans xa x1
  clear x1
  have d0 := fun o => (QB.out.alloc o).1
  have d1 := fun o => (QB.out.alloc o).2.1
  have d2 := fun o => (QB.out.alloc o).2.2.1
  have d3 := fun o => (QB.out.alloc o).2.2.2.1
  go_wp2_with fail
  refine (HT.out _ _ _ _ _ HN.out (h3_at rfl)).mono ?_
  rintro e w2 ⟨rfl, x2⟩
  have X2 : Ext w w2 := Ext.trans (X1.alloc _) x2
  obtain ⟨r0, r1, r2, r3, r4, r5, r6, r7, r8⟩ := (RB.out.alloc _).ext x2
  clear x2 X1 d0 d1 d2 d3
  go_wp2_with fail
  exact bodyPost_ret (v := .tuple #[zG #[J zq E0, J zq E1, J zq E2, J zq E3], J zq ee]) (by simp [results, Tryz.results106, go_sem, r0, r1, r2, r3]) rfl ⟨rfl, xa⟩
theorem le_sq4 (a b c d : Int) : a.natAbs * a.natAbs ≤ sq4 a b c d ∧ b.natAbs * b.natAbs ≤ sq4 a b c d ∧ c.natAbs * c.natAbs ≤ sq4 a b c d ∧ d.natAbs * d.natAbs ≤ sq4 a b c d := by
  unfold sq4; refine ⟨?_, ?_, ?_, ?_⟩ <;> omega
theorem word_abs {a : Int} (h : okW a = true) : a.natAbs < 35184372088832 := by unfold okW at h; simp at h; omega
theorem sgd_le {v : Int} {k : Nat} : (sgd v k).natAbs = k := by unfold sgd; split <;> omega
theorem unit_k_le {v : Int} {n k : Nat} (hn : 0 < n) (hv : v.natAbs * v.natAbs ≤ n) (hk : RootQ (v.natAbs * v.natAbs * 1152921504606846976) n k) : k ≤ 1073741824 := by
  apply Nat.le_of_not_lt
  intro hc
  rcases hk.2.1 with h | h
  · omega
  · have h1 : 2147483649 * 2147483649 ≤ (2 * k - 1) * (2 * k - 1) := Nat.mul_le_mul (by omega) (by omega)
    have h2 : 2147483649 * 2147483649 * n ≤ (2 * k - 1) * (2 * k - 1) * n := Nat.mul_le_mul_right _ h1
    have h3 : v.natAbs * v.natAbs * 1152921504606846976 ≤ n * 1152921504606846976 := Nat.mul_le_mul_right _ hv
    omega
theorem qunit_any (a b c d : Int) (k0 k1 k2 k3 : Nat) (w : World) (h : ok4 a b c d = true) (hq : ¬ (a = 0 ∧ b = 0 ∧ c = 0 ∧ d = 0))
    (q0 : RootQ (a.natAbs * a.natAbs * 1152921504606846976) (sq4 a b c d) k0) (q1 : RootQ (b.natAbs * b.natAbs * 1152921504606846976) (sq4 a b c d) k1) (q2 : RootQ (c.natAbs * c.natAbs * 1152921504606846976) (sq4 a b c d) k2) (q3 : RootQ (d.natAbs * d.natAbs * 1152921504606846976) (sq4 a b c d) k3) :
    Calls zP 106 #[zG #[J zq a, J zq b, J zq c, J zq d]] w fun e w' => e = zR (qres (sgd a k0) (sgd b k1) (sgd c k2) (sgd d k3)) ∧ Ext w w' := by
  have n0 := sq4_pos hq
  unfold ok4 at h
  simp only [Bool.and_eq_true] at h
  obtain ⟨ha, hb, hc, hd⟩ := h
  have n1 := sq4_lt ha hb hc hd
  obtain ⟨l0, l1, l2, l3⟩ := le_sq4 a b c d
  have m0 := unit_k_le n0 l0 q0; have m1 := unit_k_le n0 l1 q1; have m2 := unit_k_le n0 l2 q2; have m3 := unit_k_le n0 l3 q3
  obtain ⟨E0, E1, E2, E3, ee, hE⟩ := qres_shape (sgd a k0) (sgd b k1) (sgd c k2) (sgd d k3)
  rw [hE]
  refine qunit_raw a b c d _ E0 E1 E2 E3 ee w (fun w' => squares_any a b c d w' ha hb hc hd) ?_
  intro g b0 b1 b2 w' hN hG
  rw [← hE]
  have iw : ∀ (v : Int) (k : Nat), k ≤ 1073741824 → InW (sgd v k) := fun v k hk => inW_of (by rw [sgd_le]; omega)
  exact throughQ_any a b c d _ _ _ _ g w' (iw _ _ m0) (iw _ _ m1) (iw _ _ m2) (iw _ _ m3)
    (fun w2 hx => qunit1_raw a b0 b1 b2 _ g w2 (hG.ext hx) (fun w3 => unitw_any a _ k0 _ w3 hN n0 n1 (word_abs ha) l0 q0))
    (fun w2 hx => qunit1_raw b b0 b1 b2 _ g w2 (hG.ext hx) (fun w3 => unitw_any b _ k1 _ w3 hN n0 n1 (word_abs hb) l1 q1))
    (fun w2 hx => qunit1_raw c b0 b1 b2 _ g w2 (hG.ext hx) (fun w3 => unitw_any c _ k2 _ w3 hN n0 n1 (word_abs hc) l2 q2))
    (fun w2 hx => qunit1_raw d b0 b1 b2 _ g w2 (hG.ext hx) (fun w3 => unitw_any d _ k3 _ w3 hN n0 n1 (word_abs hd) l3 q3))
set_option maxRecDepth 20000 in
set_option maxHeartbeats 4000000 in
theorem qUnit_raw (a b c d E0 E1 E2 E3 ee : Int) (w : World) (hz : (a == 0 && (b == 0 && (c == 0 && d == 0))) = false)
    (HK : Hid (∀ w', Calls zP 104 #[zG #[J zq a, J zq b, J zq c, J zq d]] w' fun e w'' => e = zR (J zq 0) ∧ Ext w' w''))
    (HF : Hid (∀ w', Calls zP 89 #[zG #[J zq a, J zq b, J zq c, J zq d]] w' fun e w'' => e = zR (zG #[J zq a, J zq b, J zq c, J zq d]) ∧ Ext w' w''))
    (HU : Hid (∀ w', Calls zP 106 #[zG #[J zq a, J zq b, J zq c, J zq d]] w' fun e w'' => e = zR (.tuple #[zG #[J zq E0, J zq E1, J zq E2, J zq E3], J zq ee]) ∧ Ext w' w''))
    (HA : Hid (∀ w', Calls zP 105 #[zG #[J zq E0, J zq E1, J zq E2, J zq E3], J zq ee] w' fun e w'' => e = zR (.tuple #[zG #[J zq E0, J zq E1, J zq E2, J zq E3], J zq ee]) ∧ Ext w' w'')) :
    Calls zP 78 #[zG #[J zq a, J zq b, J zq c, J zq d]] w fun e w' => e = zR (.tuple #[zG #[J zq E0, J zq E1, J zq E2, J zq E3], J zq ee]) ∧ Ext w w' := by
  have he := eqQ a b c d 0 0 0 0
  rw [hz] at he
  clear hz
  go_enter Tryz.func78, Tryz.ntmps78
  go_wp2_with fail
  refine (HK.out _).mono ?_
  rintro e w1 ⟨rfl, x1⟩
  have QB : Hid (H4 w1 w.heap.size (J zq a) (J zq b) (J zq c) (J zq d)) := (H4.alloc (h4_at rfl) _).ext x1
  have RB : Hid (H4 w1 (w.heap.size + 1) (J zq 0) (J zq 0) (J zq 0) (J zq 0)) := (h4_at (by simp)).ext x1
  have X1 : Ext w w1 := Ext.trans xa x1
  clear x1
  obtain ⟨s0, s1, s2, s3, s4, s5, s6, s7, s8⟩ := QB.out
  go_wp2_with fail
  refine (HF.out _).mono ?_
  rintro e w2 ⟨rfl, x2⟩
  go_wp2_with fail
  refine (HU.out _).mono ?_
  rintro e w3 ⟨rfl, x3⟩
  go_wp2_with fail
  refine (HA.out _).mono ?_
  rintro e w4 ⟨rfl, x4⟩
  have X4 : Ext w w4 := ((X1.trans x2).trans x3).trans x4
  obtain ⟨r0, r1, r2, r3, r4, r5, r6, r7, r8⟩ := ((RB.out.ext x2).ext x3).ext x4
  clear x2 x3 x4 X1 s0 s1 s2 s3 s4 s5 s6 s7 s8
  go_wp2_with fail
  exact bodyPost_ret (v := .tuple #[zG #[J zq E0, J zq E1, J zq E2, J zq E3], J zq ee]) (by simp [results, Tryz.results78, go_sem, r0, r1, r2, r3]) rfl ⟨rfl, xa⟩
theorem chk4_y {a b c d : Int} (h : ok4 a b c d = true) : chk4 a b c d = 0 := by unfold chk4; rw [if_pos h]
theorem qUnit_yes (a b c d : Int) (k0 k1 k2 k3 : Nat) (w : World) (h : ok4 a b c d = true) (hq : ¬ (a = 0 ∧ b = 0 ∧ c = 0 ∧ d = 0))
    (q0 : RootQ (a.natAbs * a.natAbs * 1152921504606846976) (sq4 a b c d) k0) (q1 : RootQ (b.natAbs * b.natAbs * 1152921504606846976) (sq4 a b c d) k1) (q2 : RootQ (c.natAbs * c.natAbs * 1152921504606846976) (sq4 a b c d) k2) (q3 : RootQ (d.natAbs * d.natAbs * 1152921504606846976) (sq4 a b c d) k3) :
    Calls zP 78 #[zG #[J zq a, J zq b, J zq c, J zq d]] w fun e w' => e = zR (.tuple #[zG #[J zq (sgd a k0), J zq (sgd b k1), J zq (sgd c k2), J zq (sgd d k3)], J zq 0]) ∧ Ext w w' := by
  have n0 := sq4_pos hq
  obtain ⟨l0, l1, l2, l3⟩ := le_sq4 a b c d
  have m0 := unit_k_le n0 l0 q0; have m1 := unit_k_le n0 l1 q1; have m2 := unit_k_le n0 l2 q2; have m3 := unit_k_le n0 l3 q3
  have K := qCheck_any a b c d
  rw [chk4_y h] at K
  have U := fun w' => qunit_any a b c d k0 k1 k2 k3 w' h hq q0 q1 q2 q3
  have ow : ∀ (v : Int) (k : Nat), k ≤ 1073741824 → okW (sgd v k) = true := fun v k hk => by
    have := sgd_le (v := v) (k := k)
    unfold okW; simp; omega
  have e : qres (sgd a k0) (sgd b k1) (sgd c k2) (sgd d k3) = .tuple #[zG #[J zq (sgd a k0), J zq (sgd b k1), J zq (sgd c k2), J zq (sgd d k3)], J zq 0] := by
    unfold qres ok4; rw [ow _ _ m0, ow _ _ m1, ow _ _ m2, ow _ _ m3]; rfl
  rw [e] at U
  have hz : (a == 0 && (b == 0 && (c == 0 && d == 0))) = false := by
    cases hh : (a == 0 && (b == 0 && (c == 0 && d == 0)))
    · rfl
    · exfalso; simp at hh; exact hq hh
  exact qUnit_raw a b c d _ _ _ _ 0 w hz K (qof_any a b c d) U (asQuat_any _ _ _ _ _)
theorem unit_sum (n p0 p1 p2 p3 k0 k1 k2 k3 : Nat) (h0 : 0 < n) (hn : p0 + p1 + p2 + p3 = n)
    (q0 : RootQ (p0 * 1152921504606846976) n k0) (q1 : RootQ (p1 * 1152921504606846976) n k1) (q2 : RootQ (p2 * 1152921504606846976) n k2) (q3 : RootQ (p3 * 1152921504606846976) n k3) :
    1152921504606846976 ≤ k0 * k0 + k1 * k1 + k2 * k2 + k3 * k3 + 2147483657 ∧ k0 * k0 + k1 * k1 + k2 * k2 + k3 * k3 ≤ 1152921504606846976 + 2147483656 := by
  have up : 4 * 1152921504606846976 * n ≤ ((2 * k0 + 1) * (2 * k0 + 1) + (2 * k1 + 1) * (2 * k1 + 1) + (2 * k2 + 1) * (2 * k2 + 1) + (2 * k3 + 1) * (2 * k3 + 1)) * n := by
    have a0 := q0.1; have a1 := q1.1; have a2 := q2.1; have a3 := q3.1
    rw [Nat.add_mul, Nat.add_mul, Nat.add_mul]
    omega
  have up2 := Nat.le_of_mul_le_mul_right up h0
  have g : ∀ p k : Nat, RootQ (p * 1152921504606846976) n k → ((4 * (k * k) - 4 * k : Nat) : Nat) * n ≤ 4 * (p * 1152921504606846976) := by
    intro p k q
    rcases q.2.1 with h | h
    · subst h; simp
    · refine Nat.le_trans (Nat.mul_le_mul_right n ?_) h
      rcases k with _ | k
      · omega
      · have e : 2 * (k + 1) - 1 = 2 * k + 1 := by omega
        rw [e]
        have e2 : 4 * ((k + 1) * (k + 1)) = 4 * (k * k) + 8 * k + 4 := by grind
        have e3 : (2 * k + 1) * (2 * k + 1) = 4 * (k * k) + 4 * k + 1 := by grind
        omega
  have dn : ((4 * (k0 * k0) - 4 * k0) + (4 * (k1 * k1) - 4 * k1) + (4 * (k2 * k2) - 4 * k2) + (4 * (k3 * k3) - 4 * k3)) * n ≤ 4 * 1152921504606846976 * n := by
    have a0 := g _ _ q0; have a1 := g _ _ q1; have a2 := g _ _ q2; have a3 := g _ _ q3
    rw [Nat.add_mul, Nat.add_mul, Nat.add_mul]
    omega
  have dn2 := Nat.le_of_mul_le_mul_right dn h0
  have e0 : (2 * k0 + 1) * (2 * k0 + 1) = 4 * (k0 * k0) + 4 * k0 + 1 := by grind
  have e1 : (2 * k1 + 1) * (2 * k1 + 1) = 4 * (k1 * k1) + 4 * k1 + 1 := by grind
  have e2 : (2 * k2 + 1) * (2 * k2 + 1) = 4 * (k2 * k2) + 4 * k2 + 1 := by grind
  have e3 : (2 * k3 + 1) * (2 * k3 + 1) = 4 * (k3 * k3) + 4 * k3 + 1 := by grind
  rw [e0, e1, e2, e3] at up2
  have c : ((k0 : Int) + k1 + k2 + k3) * ((k0 : Int) + k1 + k2 + k3) ≤ 4 * ((k0 : Int) * k0 + (k1 : Int) * k1 + (k2 : Int) * k2 + (k3 : Int) * k3) := by
    have s1 := sq_nonneg ((k0 : Int) - k1); have s2 := sq_nonneg ((k0 : Int) - k2); have s3 := sq_nonneg ((k0 : Int) - k3)
    have s4 := sq_nonneg ((k1 : Int) - k2); have s5 := sq_nonneg ((k1 : Int) - k3); have s6 := sq_nonneg ((k2 : Int) - k3)
    have e : 4 * ((k0 : Int) * k0 + (k1 : Int) * k1 + (k2 : Int) * k2 + (k3 : Int) * k3) - ((k0 : Int) + k1 + k2 + k3) * ((k0 : Int) + k1 + k2 + k3) = ((k0 : Int) - k1) * ((k0 : Int) - k1) + ((k0 : Int) - k2) * ((k0 : Int) - k2) + ((k0 : Int) - k3) * ((k0 : Int) - k3) + ((k1 : Int) - k2) * ((k1 : Int) - k2) + ((k1 : Int) - k3) * ((k1 : Int) - k3) + ((k2 : Int) - k3) * ((k2 : Int) - k3) := by grind
    omega
  obtain ⟨S, hS⟩ : ∃ S : Nat, S = k0 + k1 + k2 + k3 := ⟨_, rfl⟩
  obtain ⟨K, hK⟩ : ∃ K : Nat, K = k0 * k0 + k1 * k1 + k2 * k2 + k3 * k3 := ⟨_, rfl⟩
  have c' : (S : Int) * S ≤ 4 * (K : Int) := by
    have eS : (S : Int) = (k0 : Int) + k1 + k2 + k3 := by omega
    have eK : (K : Int) = (k0 : Int) * k0 + (k1 : Int) * k1 + (k2 : Int) * k2 + (k3 : Int) * k3 := by rw [hK]; simp
    rw [eS, eK]; exact c
  have l1 : K ≤ 1152921504606846976 + S := by omega
  have l2 : 1152921504606846976 ≤ K + S + 1 := by omega
  have l3 : S ≤ 2147483656 := by
    apply Nat.le_of_not_lt
    intro hc
    have : (2147483657 : Int) * (2147483657 - 4) ≤ (S : Int) * ((S : Int) - 4) := Int.mul_le_mul (by omega) (by omega) (by omega) (by omega)
    have ee : (S : Int) * ((S : Int) - 4) = (S : Int) * S - 4 * S := by grind
    rw [ee] at this
    omega
  omega
theorem nearQ_IsNear (z : Int) : IsNear z 1073741824 (nearQ z) := by
  unfold IsNear nearQ oddQ; refine ⟨?_, ?_, ?_⟩ <;> omega
end Go.Proofs.YtoeecldhbabmbaaGreat
