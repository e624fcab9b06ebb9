/- quat: through, by unit. vec: unit, Unit. -/
import Derived.Test.YtoeecldhbabmbaaGreatMg9
import Derived.Test.YtoeecldhbabmbaaGreatV10m
open Go.Value renaming int → J, agg → zG
open Go.IntKind renaming i64 → zq, u64 → zu
open Go.Ending renaming returned → zR
open Go.Proofs.Tryz renaming prog → zP
namespace Go.Proofs.YtoeecldhbabmbaaGreat
open Go.RowKit Go.Shelf
set_option maxRecDepth 20000 in
set_option maxHeartbeats 8000000 in
theorem throughQ_c (a0 a1 a2 a3 Z0 Z1 Z2 Z3 r0 e0 r1 e1 r2 e2 r3 e3 : Int) (g : Nat) (w : World)
    (H0 : Hid (∀ w', Ext w w' → Calls zP 135 #[J zq a0, .pointer (some ⟨g, 0, none⟩)] w' fun e w'' => (∃ r, e = zR r ∧ IsW r Z0) ∧ Ext w' w''))
    (W0 : Hid (∀ t w', IsW t Z0 → Calls zP 145 #[t] w' fun e w'' => e = zR (.tuple #[J zq r0, J zq e0]) ∧ Ext w' w''))
    (H1 : Hid (∀ w', Ext w w' → Calls zP 135 #[J zq a1, .pointer (some ⟨g, 0, none⟩)] w' fun e w'' => (∃ r, e = zR r ∧ IsW r Z1) ∧ Ext w' w''))
    (W1 : Hid (∀ t w', IsW t Z1 → Calls zP 145 #[t] w' fun e w'' => e = zR (.tuple #[J zq r1, J zq e1]) ∧ Ext w' w''))
    (H2 : Hid (∀ w', Ext w w' → Calls zP 135 #[J zq a2, .pointer (some ⟨g, 0, none⟩)] w' fun e w'' => (∃ r, e = zR r ∧ IsW r Z2) ∧ Ext w' w''))
    (W2 : Hid (∀ t w', IsW t Z2 → Calls zP 145 #[t] w' fun e w'' => e = zR (.tuple #[J zq r2, J zq e2]) ∧ Ext w' w''))
    (H3 : Hid (∀ w', Ext w w' → Calls zP 135 #[J zq a3, .pointer (some ⟨g, 0, none⟩)] w' fun e w'' => (∃ r, e = zR r ∧ IsW r Z3) ∧ Ext w' w''))
    (W3 : Hid (∀ t w', IsW t Z3 → Calls zP 145 #[t] w' fun e w'' => e = zR (.tuple #[J zq r3, J zq e3]) ∧ Ext w' w'')) :
    Calls zP 134 #[zG #[J zq a0, J zq a1, J zq a2, J zq a3], .func (.func 135) #[] #[.pointer (some ⟨g, 0, none⟩)]] w fun e w' => e = zR (thr4 r0 e0 r1 e1 r2 e2 r3 e3) ∧ Ext w w' := by
  have i0 : ∀ w : World, (Instr.index 124 (zG #[J zq a0, J zq a1, J zq a2, J zq a3]) (J zq 0)).run zP w = .ok (J zq a0) w := fun _ => by kernel_rfl
  have i1 : ∀ w : World, (Instr.index 124 (zG #[J zq a0, J zq a1, J zq a2, J zq a3]) (J zq 1)).run zP w = .ok (J zq a1) w := fun _ => by kernel_rfl
  have i2 : ∀ w : World, (Instr.index 124 (zG #[J zq a0, J zq a1, J zq a2, J zq a3]) (J zq 2)).run zP w = .ok (J zq a2) w := fun _ => by kernel_rfl
  have i3 : ∀ w : World, (Instr.index 124 (zG #[J zq a0, J zq a1, J zq a2, J zq a3]) (J zq 3)).run zP w = .ok (J zq a3) w := fun _ => by kernel_rfl
  obtain ⟨R, hR⟩ : ∃ R, thr4 r0 e0 r1 e1 r2 e2 r3 e3 = R := ⟨_, rfl⟩
  rw [hR]
  have T0 : Hid (e0 ≠ 0 → R = .tuple #[zG #[J zq 0, J zq 0, J zq 0, J zq 0], J zq e0]) := fun a => by rw [← hR]; unfold thr4; rw [if_neg a]
  have T1 : Hid (e0 = 0 → e1 ≠ 0 → R = .tuple #[zG #[J zq 0, J zq 0, J zq 0, J zq 0], J zq e1]) := fun a b => by rw [← hR]; unfold thr4; rw [if_pos a, if_neg b]
  have T2 : Hid (e0 = 0 → e1 = 0 → e2 ≠ 0 → R = .tuple #[zG #[J zq 0, J zq 0, J zq 0, J zq 0], J zq e2]) := fun a b c => by rw [← hR]; unfold thr4; rw [if_pos a, if_pos b, if_neg c]
  have T3 : Hid (e0 = 0 → e1 = 0 → e2 = 0 → e3 ≠ 0 → R = .tuple #[zG #[J zq 0, J zq 0, J zq 0, J zq 0], J zq e3]) := fun a b c d => by rw [← hR]; unfold thr4; rw [if_pos a, if_pos b, if_pos c, if_neg d]
  have T4 : Hid (e0 = 0 → e1 = 0 → e2 = 0 → e3 = 0 → R = .tuple #[zG #[J zq r0, J zq r1, J zq r2, J zq r3], J zq 0]) := fun a b c d => by rw [← hR]; unfold thr4; rw [if_pos a, if_pos b, if_pos c, if_pos d]
  clear hR
  go_enter Tryz.func134, Tryz.ntmps134
  go_wp2_with fail
  refine wp_loop_rounds 5 ?_
  rw [rounds_succ]
  go_wp2_with fail
  refine (H0.out _ xa).mono ?_
  rintro e v0 ⟨⟨t0, rfl, h0⟩, y0⟩
  have MV0 : Hid (H4 v0 (w.heap.size + 1 + 1) (J zq 0) (J zq 0) (J zq 0) (J zq 0)) := (h4_at (by simp)).ext y0
  have RV0 : Hid (H4 v0 (w.heap.size + 1) (J zq 0) (J zq 0) (J zq 0) (J zq 0)) := (H4.alloc (h4_at (by simp)) _).ext y0
  have XV0 : Ext w v0 := Ext.trans xa y0
  clear y0
  go_wp2_with fail
  refine (W0.out _ _ h0).mono ?_
  rintro e w1 ⟨rfl, x1⟩
  have MM1 : Hid (H4 w1 (w.heap.size + 1 + 1) (J zq 0) (J zq 0) (J zq 0) (J zq 0)) := MV0.out.ext x1
  have RR1 : Hid (H4 w1 (w.heap.size + 1) (J zq 0) (J zq 0) (J zq 0) (J zq 0)) := RV0.out.ext x1
  have X1 : Ext w w1 := XV0.trans x1
  clear x1 XV0
  obtain ⟨m0, m1, m2, m3, m4, m5, m6, m7, m8⟩ := MM1.out
  obtain ⟨q0, q1, q2, q3, q4, q5, q6, q7, q8⟩ := RR1.out
  by_cases k0 : e0 = 0
  case neg =>
    have n0 : (e0 != 0) = true := by simpa using k0
    have hR := T0.out k0
    subst hR
    clear T0 T1 T2 T3 T4
    go_wp2_with fail
    exact bodyPost_ret (v := .tuple #[zG #[J zq 0, J zq 0, J zq 0, J zq 0], J zq e0]) (by simp [results, Tryz.results134, go_sem, q0, q1, q2, q3]) rfl ⟨rfl, xa⟩
  subst k0
  go_wp2_with fail
  rw [rounds_succ]
  go_wp2_with fail
  refine (H1.out _ xa).mono ?_
  rintro e v1 ⟨⟨t1, rfl, h1⟩, y1⟩
  have MV1 : Hid (H4 v1 (w.heap.size + 1 + 1) (J zq r0) (J zq 0) (J zq 0) (J zq 0)) := (H4.set0 MM1.out _).ext y1
  have RV1 : Hid (H4 v1 (w.heap.size + 1) (J zq 0) (J zq 0) (J zq 0) (J zq 0)) := (H4.far RR1.out (by omega)).ext y1
  have XV1 : Ext w v1 := Ext.trans xa y1
  clear y1
  clear m0 m1 m2 m3 m4 m5 m6 m7 m8 q0 q1 q2 q3 q4 q5 q6 q7 q8 X1
  go_wp2_with fail
  refine (W1.out _ _ h1).mono ?_
  rintro e w2 ⟨rfl, x2⟩
  have MM2 : Hid (H4 w2 (w.heap.size + 1 + 1) (J zq r0) (J zq 0) (J zq 0) (J zq 0)) := MV1.out.ext x2
  have RR2 : Hid (H4 w2 (w.heap.size + 1) (J zq 0) (J zq 0) (J zq 0) (J zq 0)) := RV1.out.ext x2
  have X2 : Ext w w2 := XV1.trans x2
  clear x2 XV1
  obtain ⟨m0, m1, m2, m3, m4, m5, m6, m7, m8⟩ := MM2.out
  obtain ⟨q0, q1, q2, q3, q4, q5, q6, q7, q8⟩ := RR2.out
  by_cases k1 : e1 = 0
  case neg =>
    have n1 : (e1 != 0) = true := by simpa using k1
    have hR := T1.out (by first | exact rfl | trivial) k1
    subst hR
    clear T0 T1 T2 T3 T4
    go_wp2_with fail
    exact bodyPost_ret (v := .tuple #[zG #[J zq 0, J zq 0, J zq 0, J zq 0], J zq e1]) (by simp [results, Tryz.results134, go_sem, q0, q1, q2, q3]) rfl ⟨rfl, xa⟩
  subst k1
  go_wp2_with fail
  rw [rounds_succ]
  go_wp2_with fail
  refine (H2.out _ xa).mono ?_
  rintro e v2 ⟨⟨t2, rfl, h2⟩, y2⟩
  have MV2 : Hid (H4 v2 (w.heap.size + 1 + 1) (J zq r0) (J zq r1) (J zq 0) (J zq 0)) := (H4.set1 MM2.out _).ext y2
  have RV2 : Hid (H4 v2 (w.heap.size + 1) (J zq 0) (J zq 0) (J zq 0) (J zq 0)) := (H4.far RR2.out (by omega)).ext y2
  have XV2 : Ext w v2 := Ext.trans xa y2
  clear y2
  clear m0 m1 m2 m3 m4 m5 m6 m7 m8 q0 q1 q2 q3 q4 q5 q6 q7 q8 X2
  go_wp2_with fail
  refine (W2.out _ _ h2).mono ?_
  rintro e w3 ⟨rfl, x3⟩
  have MM3 : Hid (H4 w3 (w.heap.size + 1 + 1) (J zq r0) (J zq r1) (J zq 0) (J zq 0)) := MV2.out.ext x3
  have RR3 : Hid (H4 w3 (w.heap.size + 1) (J zq 0) (J zq 0) (J zq 0) (J zq 0)) := RV2.out.ext x3
  have X3 : Ext w w3 := XV2.trans x3
  clear x3 XV2
  obtain ⟨m0, m1, m2, m3, m4, m5, m6, m7, m8⟩ := MM3.out
  obtain ⟨q0, q1, q2, q3, q4, q5, q6, q7, q8⟩ := RR3.out
  by_cases k2 : e2 = 0
  case neg =>
    have n2 : (e2 != 0) = true := by simpa using k2
    have hR := T2.out (by first | exact rfl | trivial) (by first | exact rfl | trivial) k2
    subst hR
    clear T0 T1 T2 T3 T4
    go_wp2_with fail
    exact bodyPost_ret (v := .tuple #[zG #[J zq 0, J zq 0, J zq 0, J zq 0], J zq e2]) (by simp [results, Tryz.results134, go_sem, q0, q1, q2, q3]) rfl ⟨rfl, xa⟩
  subst k2
  go_wp2_with fail
  rw [rounds_succ]
  go_wp2_with fail
  refine (H3.out _ xa).mono ?_
  rintro e v3 ⟨⟨t3, rfl, h3⟩, y3⟩
  have MV3 : Hid (H4 v3 (w.heap.size + 1 + 1) (J zq r0) (J zq r1) (J zq r2) (J zq 0)) := (H4.set2 MM3.out _).ext y3
  have RV3 : Hid (H4 v3 (w.heap.size + 1) (J zq 0) (J zq 0) (J zq 0) (J zq 0)) := (H4.far RR3.out (by omega)).ext y3
  have XV3 : Ext w v3 := Ext.trans xa y3
  clear y3
  clear m0 m1 m2 m3 m4 m5 m6 m7 m8 q0 q1 q2 q3 q4 q5 q6 q7 q8 X3
  go_wp2_with fail
  refine (W3.out _ _ h3).mono ?_
  rintro e w4 ⟨rfl, x4⟩
  have MM4 : Hid (H4 w4 (w.heap.size + 1 + 1) (J zq r0) (J zq r1) (J zq r2) (J zq 0)) := MV3.out.ext x4
  have RR4 : Hid (H4 w4 (w.heap.size + 1) (J zq 0) (J zq 0) (J zq 0) (J zq 0)) := RV3.out.ext x4
  have X4 : Ext w w4 := XV3.trans x4
  clear x4 XV3
  obtain ⟨m0, m1, m2, m3, m4, m5, m6, m7, m8⟩ := MM4.out
  obtain ⟨q0, q1, q2, q3, q4, q5, q6, q7, q8⟩ := RR4.out
  by_cases k3 : e3 = 0
  case neg =>
    have n3 : (e3 != 0) = true := by simpa using k3
    have hR := T3.out (by first | exact rfl | trivial) (by first | exact rfl | trivial) (by first | exact rfl | trivial) k3
    subst hR
    clear T0 T1 T2 T3 T4
    go_wp2_with fail
    exact bodyPost_ret (v := .tuple #[zG #[J zq 0, J zq 0, J zq 0, J zq 0], J zq e3]) (by simp [results, Tryz.results134, go_sem, q0, q1, q2, q3]) rfl ⟨rfl, xa⟩
  subst k3
  go_wp2_with fail
  rw [rounds_succ]
  go_wp2_with fail
  have hR := T4.out (by first | exact rfl | trivial) (by first | exact rfl | trivial) (by first | exact rfl | trivial) (by first | exact rfl | trivial)
  subst hR
  exact bodyPost_ret (v := .tuple #[zG #[J zq r0, J zq r1, J zq r2, J zq r3], J zq 0]) (by simp [results, Tryz.results134, go_sem, q0, q1, q2, q3]) rfl ⟨rfl, xa⟩
theorem throughQ_any (a0 a1 a2 a3 Z0 Z1 Z2 Z3 : Int) (g : Nat) (w : World) (z0 : InW Z0) (z1 : InW Z1) (z2 : InW Z2) (z3 : InW Z3)
    (H0 : ∀ w', Ext w w' → Calls zP 135 #[J zq a0, .pointer (some ⟨g, 0, none⟩)] w' fun e w'' => (∃ r, e = zR r ∧ IsW r Z0) ∧ Ext w' w'')
    (H1 : ∀ w', Ext w w' → Calls zP 135 #[J zq a1, .pointer (some ⟨g, 0, none⟩)] w' fun e w'' => (∃ r, e = zR r ∧ IsW r Z1) ∧ Ext w' w'')
    (H2 : ∀ w', Ext w w' → Calls zP 135 #[J zq a2, .pointer (some ⟨g, 0, none⟩)] w' fun e w'' => (∃ r, e = zR r ∧ IsW r Z2) ∧ Ext w' w'')
    (H3 : ∀ w', Ext w w' → Calls zP 135 #[J zq a3, .pointer (some ⟨g, 0, none⟩)] w' fun e w'' => (∃ r, e = zR r ∧ IsW r Z3) ∧ Ext w' w'') :
    Calls zP 134 #[zG #[J zq a0, J zq a1, J zq a2, J zq a3], .func (.func 135) #[] #[.pointer (some ⟨g, 0, none⟩)]] w fun e w' => e = zR (qres Z0 Z1 Z2 Z3) ∧ Ext w w' := by
  rw [← thr4_fit]
  unfold thr4
  have V0 : ∀ t w', IsW t Z0 → _ := fun t w' ht => wordw_any Z0 t w' ht z0
  have V1 : ∀ t w', IsW t Z1 → _ := fun t w' ht => wordw_any Z1 t w' ht z1
  have V2 : ∀ t w', IsW t Z2 → _ := fun t w' ht => wordw_any Z2 t w' ht z2
  have V3 : ∀ t w', IsW t Z3 → _ := fun t w' ht => wordw_any Z3 t w' ht z3
  exact throughQ_c _ _ _ _ _ _ _ _ _ _ _ _ _ _ _ _ g w H0 V0 H1 V1 H2 V2 H3 V3
theorem sq_lt {v : Int} (h : okW v = true) : v.natAbs * v.natAbs < 1237940039285380274899124224 := by
  have b := okW_bounds h
  have m : v.natAbs * v.natAbs ≤ 35184372088831 * 35184372088831 := Nat.mul_le_mul (by omega) (by omega)
  omega
theorem unit1_any (v y0 y1 y2 : Int) (n k g : Nat) (w : World) (hv : okW v = true) (GB : Hid (H3 w g (J zu y0) (J zu y1) (J zu y2))) (hI : IsW (zG #[J zu y0, J zu y1, J zu y2]) (n : Int)) (h0 : 0 < n) (hn : n < 4951760157141521099596496896) (hvn : v.natAbs * v.natAbs ≤ n) (hk : RootQ (v.natAbs * v.natAbs * 1152921504606846976) n k) :
    Calls zP 147 #[J zq v, .pointer (some ⟨g, 0, none⟩)] w fun e w' => e = zR (.tuple #[J zq (fitR (sgd v k)).1, J zq (fitR (sgd v k)).2]) ∧ Ext w w' := by
  have hl := sq_lt hv
  have hb := word64 hv
  have kb : k ≤ 1073741824 := rootQ_le hk h0 (by
    have e : 1073741824 * 1073741824 = 1152921504606846976 := by decide
    rw [e, Nat.mul_comm 1152921504606846976]
    exact Nat.mul_le_mul_right _ hvn)
  have hvb := okW_bounds hv
  exact vunit1_raw v y0 y1 y2 (sgd v k) _ _ g w GB.out (fun w' => unitw_any v n k _ w' hI h0 hn (by omega) hvn hk) (fun t w' ht => wordw_any _ t w' ht (by unfold InW sgd; split <;> omega))
set_option maxHeartbeats 4000000 in
theorem unit_raw (a0 a1 a2 x y z e D : Int) (w : World)
    (HS : Hid (∀ w', Calls zP 143 #[zG #[J zq a0, J zq a1, J zq a2], zG #[J zq a0, J zq a1, J zq a2]] w' fun e w'' => (∃ r, e = zR r ∧ IsW r D) ∧ Ext w' w''))
    (HT : Hid (∀ (y0 y1 y2 : Int) (g : Nat) (w' : World), IsW (zG #[J zu y0, J zu y1, J zu y2]) D → H3 w' g (J zu y0) (J zu y1) (J zu y2) → Calls zP 146 #[zG #[J zq a0, J zq a1, J zq a2], .func (.func 147) #[] #[.pointer (some ⟨g, 0, none⟩)]] w' fun e' w'' => e' = zR (.tuple #[zG #[J zq x, J zq y, J zq z], J zq e]) ∧ Ext w' w'')) :
    Calls zP 110 #[zG #[J zq a0, J zq a1, J zq a2]] w fun e' w' => e' = zR (.tuple #[zG #[J zq x, J zq y, J zq z], J zq e]) ∧ Ext w w' := by
  go_enter Tryz.func110, Tryz.ntmps110
  go_wp2_with fail
  refine (HS.out _).mono ?_
  rintro e' w1 ⟨⟨u1, rfl, y0, y1, y2, rfl, hr⟩, x1⟩
  have HI : Hid (IsW (zG #[J zu y0, J zu y1, J zu y2]) D) := ⟨_, _, _, rfl, hr⟩
  clear hr
  have PB : Hid (H3 w1 w.heap.size (J zq a0) (J zq a1) (J zq a2)) := (H3.alloc (h3_at rfl) _).ext x1
  have RB : Hid (H3 w1 (w.heap.size + 1) (J zq 0) (J zq 0) (J zq 0)) := (h3_at (by simp)).ext x1
  have E1 : Ext w w1 := Ext.trans (((Ext.refl _).alloc _).alloc _) x1
  have d0 := fun o => (PB.out.alloc o).1
  have d1 := fun o => (PB.out.alloc o).2.1
  have d2 := fun o => (PB.out.alloc o).2.2.1
  clear x1
  go_wp2_with fail
  refine (HT.out _ _ _ _ _ HI.out (h3_at rfl)).mono ?_
  rintro e' w2 ⟨rfl, x2⟩
  obtain ⟨m0, m1, m2, m3, m4, m5, m6⟩ := (RB.out.alloc _).ext x2
  have E2 : Ext w w2 := (E1.alloc _).trans x2
  clear x2 E1 d0 d1 d2
  go_wp2_with fail
  exact bodyPost_ret (v := .tuple #[zG #[J zq x, J zq y, J zq z], J zq e]) (by simp [results, Tryz.results110, go_sem, m0, m1, m2]) rfl ⟨rfl, xa⟩
theorem sq3_parts (a0 a1 a2 : Int) : a0.natAbs * a0.natAbs ≤ sq3 a0 a1 a2 ∧ a1.natAbs * a1.natAbs ≤ sq3 a0 a1 a2 ∧ a2.natAbs * a2.natAbs ≤ sq3 a0 a1 a2 := by unfold sq3; omega
theorem unit_any (a0 a1 a2 : Int) (k0 k1 k2 : Nat) (w : World) (h : ok3 a0 a1 a2 = true) (h0 : 0 < sq3 a0 a1 a2)
    (q0 : RootQ (a0.natAbs * a0.natAbs * 1152921504606846976) (sq3 a0 a1 a2) k0) (q1 : RootQ (a1.natAbs * a1.natAbs * 1152921504606846976) (sq3 a0 a1 a2) k1) (q2 : RootQ (a2.natAbs * a2.natAbs * 1152921504606846976) (sq3 a0 a1 a2) k2) :
    Calls zP 110 #[zG #[J zq a0, J zq a1, J zq a2]] w fun e w' => e = zR (vres (sgd a0 k0) (sgd a1 k1) (sgd a2 k2)) ∧ Ext w w' := by
  obtain ⟨g0, g1, g2⟩ := ok3_parts h
  have hl := sq3_lt h
  obtain ⟨s0, s1, s2⟩ := sq3_parts a0 a1 a2
  have HS : ∀ w', Calls zP 143 #[zG #[J zq a0, J zq a1, J zq a2], zG #[J zq a0, J zq a1, J zq a2]] w' fun e w'' => (∃ r, e = zR r ∧ IsW r ((sq3 a0 a1 a2 : Nat) : Int)) ∧ Ext w' w'' := fun w' => by
    rw [← sq3_dot]
    exact sum_any a0 a1 a2 a0 a1 a2 w' g0 g1 g2 g0 g1 g2
  have HT : ∀ (y0 y1 y2 : Int) (g : Nat) (w' : World), IsW (zG #[J zu y0, J zu y1, J zu y2]) ((sq3 a0 a1 a2 : Nat) : Int) → H3 w' g (J zu y0) (J zu y1) (J zu y2) → Calls zP 146 #[zG #[J zq a0, J zq a1, J zq a2], .func (.func 147) #[] #[.pointer (some ⟨g, 0, none⟩)]] w' fun e' w'' => e' = zR (vres (sgd a0 k0) (sgd a1 k1) (sgd a2 k2)) ∧ Ext w' w'' := by
    intro y0 y1 y2 g w' hI hg
    have t := throughU_any a0 a1 a2 _ _ _ _ _ _ g w' (fun w'' hx => unit1_any a0 y0 y1 y2 _ k0 g w'' g0 (hg.ext hx) hI h0 (by omega) s0 q0) (fun w'' hx => unit1_any a1 y0 y1 y2 _ k1 g w'' g1 (hg.ext hx) hI h0 (by omega) s1 q1) (fun w'' hx => unit1_any a2 y0 y1 y2 _ k2 g w'' g2 (hg.ext hx) hI h0 (by omega) s2 q2)
    rw [thr_fit] at t
    exact t
  obtain ⟨x, y, z, e, hr⟩ := vres_shape (sgd a0 k0) (sgd a1 k1) (sgd a2 k2)
  rw [hr] at HT ⊢
  exact unit_raw a0 a1 a2 x y z e _ w HS HT
set_option maxHeartbeats 4000000 in
theorem Unit_yes0 (a0 a1 a2 x y z e : Int) (w : World) (hz : (a0 == 0) = false)
    (HK : Hid (∀ (W : World) (n : Nat) (T : TypeId), W.heap.size = n → Calls zP 75 #[.slice (some ⟨n, 0, none⟩) 1 1] (W.alloc (.cells #[J zq a0, J zq a1, J zq a2] T)) fun e w' => e = zR (J zq 0) ∧ Ext (W.alloc (.cells #[J zq a0, J zq a1, J zq a2] T)) w'))
    (HU : Hid (∀ w', Calls zP 110 #[zG #[J zq a0, J zq a1, J zq a2]] w' fun e' w'' => e' = zR (.tuple #[zG #[J zq x, J zq y, J zq z], J zq e]) ∧ Ext w' w'')) :
    Calls zP 84 #[zG #[J zq a0, J zq a1, J zq a2]] w fun e' w' => e' = zR (.tuple #[zG #[J zq x, J zq y, J zq z], J zq e]) ∧ Ext w w' := by
  have HA : Hid (∀ w', Calls zP 76 #[zG #[J zq a0, J zq a1, J zq a2]] w' fun e w'' => e = zR (zG #[J zq a0, J zq a1, J zq a2]) ∧ Ext w' w'') := fun w' => of_any a0 a1 a2 w'
  go_enter Tryz.func84, Tryz.ntmps84
  go_wp2_with fail
  refine (HA.out _).mono ?_
  rintro e' w1 ⟨rfl, x1⟩
  go_wp2_with fail
  refine (HK.out _ _ _ rfl).mono ?_
  rintro e' w2 ⟨rfl, x20⟩
  have x2 := x1.trans (Ext.trans ((Ext.refl _).alloc _) x20)
  clear x20 x1
  have E8 : Ext w w2 := Ext.trans (((Ext.refl _).alloc _).alloc _) x2
  have PB : Hid (H3 w2 w.heap.size (J zq a0) (J zq a1) (J zq a2)) := (H3.alloc (h3_at rfl) _).ext x2
  have RB : Hid (H3 w2 (w.heap.size + 1) (J zq 0) (J zq 0) (J zq 0)) := (h3_at (by simp)).ext x2
  clear x2
  obtain ⟨p0, p1, p2, p3, p4, p5, p6⟩ := PB.out
  obtain ⟨m0, m1, m2, m3, m4, m5, m6⟩ := RB.out
  go_wp2_with fail
  refine (HA.out _).mono ?_
  rintro e' w3 ⟨rfl, x3⟩
  have E3 : Ext w w3 := E8.trans x3
  clear p0 p1 p2 p3 p4 p5 p6 m0 m1 m2 m3 m4 m5 m6
  go_wp2_with fail
  refine (HU.out _).mono ?_
  rintro e' w4 ⟨rfl, x4⟩
  have E4 : Ext w w4 := E3.trans x4
  obtain ⟨m0, m1, m2, m3, m4, m5, m6⟩ := (RB.out.ext x3).ext x4
  clear x3 x4 E8 E3
  go_wp2_with fail
  exact bodyPost_ret (v := .tuple #[zG #[J zq x, J zq y, J zq z], J zq e]) (by simp [results, Tryz.results84, go_sem, m0, m1, m2]) rfl ⟨rfl, xa⟩
set_option maxHeartbeats 4000000 in
theorem Unit_yes1 (a1 a2 x y z e : Int) (w : World) (hz : (a1 == 0) = false)
    (HK : Hid (∀ (W : World) (n : Nat) (T : TypeId), W.heap.size = n → Calls zP 75 #[.slice (some ⟨n, 0, none⟩) 1 1] (W.alloc (.cells #[J zq 0, J zq a1, J zq a2] T)) fun e w' => e = zR (J zq 0) ∧ Ext (W.alloc (.cells #[J zq 0, J zq a1, J zq a2] T)) w'))
    (HU : Hid (∀ w', Calls zP 110 #[zG #[J zq 0, J zq a1, J zq a2]] w' fun e' w'' => e' = zR (.tuple #[zG #[J zq x, J zq y, J zq z], J zq e]) ∧ Ext w' w'')) :
    Calls zP 84 #[zG #[J zq 0, J zq a1, J zq a2]] w fun e' w' => e' = zR (.tuple #[zG #[J zq x, J zq y, J zq z], J zq e]) ∧ Ext w w' := by
  have HA : Hid (∀ w', Calls zP 76 #[zG #[J zq 0, J zq a1, J zq a2]] w' fun e w'' => e = zR (zG #[J zq 0, J zq a1, J zq a2]) ∧ Ext w' w'') := fun w' => of_any 0 a1 a2 w'
  go_enter Tryz.func84, Tryz.ntmps84
  go_wp2_with fail
  refine (HA.out _).mono ?_
  rintro e' w1 ⟨rfl, x1⟩
  go_wp2_with fail
  refine (HK.out _ _ _ rfl).mono ?_
  rintro e' w2 ⟨rfl, x20⟩
  have x2 := x1.trans (Ext.trans ((Ext.refl _).alloc _) x20)
  clear x20 x1
  have E8 : Ext w w2 := Ext.trans (((Ext.refl _).alloc _).alloc _) x2
  have PB : Hid (H3 w2 w.heap.size (J zq 0) (J zq a1) (J zq a2)) := (H3.alloc (h3_at rfl) _).ext x2
  have RB : Hid (H3 w2 (w.heap.size + 1) (J zq 0) (J zq 0) (J zq 0)) := (h3_at (by simp)).ext x2
  clear x2
  obtain ⟨p0, p1, p2, p3, p4, p5, p6⟩ := PB.out
  obtain ⟨m0, m1, m2, m3, m4, m5, m6⟩ := RB.out
  go_wp2_with fail
  refine (HA.out _).mono ?_
  rintro e' w3 ⟨rfl, x3⟩
  have E3 : Ext w w3 := E8.trans x3
  clear p0 p1 p2 p3 p4 p5 p6 m0 m1 m2 m3 m4 m5 m6
  go_wp2_with fail
  refine (HU.out _).mono ?_
  rintro e' w4 ⟨rfl, x4⟩
  have E4 : Ext w w4 := E3.trans x4
  obtain ⟨m0, m1, m2, m3, m4, m5, m6⟩ := (RB.out.ext x3).ext x4
  clear x3 x4 E8 E3
  go_wp2_with fail
  exact bodyPost_ret (v := .tuple #[zG #[J zq x, J zq y, J zq z], J zq e]) (by simp [results, Tryz.results84, go_sem, m0, m1, m2]) rfl ⟨rfl, xa⟩
set_option maxHeartbeats 4000000 in
theorem Unit_yes2 (a2 x y z e : Int) (w : World) (hz : (a2 == 0) = false)
    (HK : Hid (∀ (W : World) (n : Nat) (T : TypeId), W.heap.size = n → Calls zP 75 #[.slice (some ⟨n, 0, none⟩) 1 1] (W.alloc (.cells #[J zq 0, J zq 0, J zq a2] T)) fun e w' => e = zR (J zq 0) ∧ Ext (W.alloc (.cells #[J zq 0, J zq 0, J zq a2] T)) w'))
    (HU : Hid (∀ w', Calls zP 110 #[zG #[J zq 0, J zq 0, J zq a2]] w' fun e' w'' => e' = zR (.tuple #[zG #[J zq x, J zq y, J zq z], J zq e]) ∧ Ext w' w'')) :
    Calls zP 84 #[zG #[J zq 0, J zq 0, J zq a2]] w fun e' w' => e' = zR (.tuple #[zG #[J zq x, J zq y, J zq z], J zq e]) ∧ Ext w w' := by
  have HA : Hid (∀ w', Calls zP 76 #[zG #[J zq 0, J zq 0, J zq a2]] w' fun e w'' => e = zR (zG #[J zq 0, J zq 0, J zq a2]) ∧ Ext w' w'') := fun w' => of_any 0 0 a2 w'
  go_enter Tryz.func84, Tryz.ntmps84
  go_wp2_with fail
  refine (HA.out _).mono ?_
  rintro e' w1 ⟨rfl, x1⟩
  go_wp2_with fail
  refine (HK.out _ _ _ rfl).mono ?_
  rintro e' w2 ⟨rfl, x20⟩
  have x2 := x1.trans (Ext.trans ((Ext.refl _).alloc _) x20)
  clear x20 x1
  have E8 : Ext w w2 := Ext.trans (((Ext.refl _).alloc _).alloc _) x2
  have PB : Hid (H3 w2 w.heap.size (J zq 0) (J zq 0) (J zq a2)) := (H3.alloc (h3_at rfl) _).ext x2
  have RB : Hid (H3 w2 (w.heap.size + 1) (J zq 0) (J zq 0) (J zq 0)) := (h3_at (by simp)).ext x2
  clear x2
  obtain ⟨p0, p1, p2, p3, p4, p5, p6⟩ := PB.out
  obtain ⟨m0, m1, m2, m3, m4, m5, m6⟩ := RB.out
  go_wp2_with fail
  refine (HA.out _).mono ?_
  rintro e' w3 ⟨rfl, x3⟩
  have E3 : Ext w w3 := E8.trans x3
  clear p0 p1 p2 p3 p4 p5 p6 m0 m1 m2 m3 m4 m5 m6
  go_wp2_with fail
  refine (HU.out _).mono ?_
  rintro e' w4 ⟨rfl, x4⟩
  have E4 : Ext w w4 := E3.trans x4
  obtain ⟨m0, m1, m2, m3, m4, m5, m6⟩ := (RB.out.ext x3).ext x4
  clear x3 x4 E8 E3
  go_wp2_with fail
  exact bodyPost_ret (v := .tuple #[zG #[J zq x, J zq y, J zq z], J zq e]) (by simp [results, Tryz.results84, go_sem, m0, m1, m2]) rfl ⟨rfl, xa⟩
theorem sq3_zero (a0 a1 a2 : Int) (h : ¬ (a0 = 0 ∧ a1 = 0 ∧ a2 = 0)) : 0 < sq3 a0 a1 a2 := by
  unfold sq3
  by_cases h0 : a0 = 0
  · by_cases h1 : a1 = 0
    · have h2 : 0 < a2.natAbs := by omega
      have := Nat.mul_pos h2 h2
      omega
    · have h2 : 0 < a1.natAbs := by omega
      have := Nat.mul_pos h2 h2
      omega
  · have h2 : 0 < a0.natAbs := by omega
    have := Nat.mul_pos h2 h2
    omega
theorem vUnit_yes (a0 a1 a2 : Int) (k0 k1 k2 : Nat) (w : World) (h : ok3 a0 a1 a2 = true) (hz : ¬ (a0 = 0 ∧ a1 = 0 ∧ a2 = 0))
    (q0 : RootQ (a0.natAbs * a0.natAbs * 1152921504606846976) (sq3 a0 a1 a2) k0) (q1 : RootQ (a1.natAbs * a1.natAbs * 1152921504606846976) (sq3 a0 a1 a2) k1) (q2 : RootQ (a2.natAbs * a2.natAbs * 1152921504606846976) (sq3 a0 a1 a2) k2) :
    Calls zP 84 #[zG #[J zq a0, J zq a1, J zq a2]] w fun e w' => e = zR (vres (sgd a0 k0) (sgd a1 k1) (sgd a2 k2)) ∧ Ext w w' := by
  have hu := fun w' => unit_any a0 a1 a2 k0 k1 k2 w' h (sq3_zero a0 a1 a2 hz) q0 q1 q2
  have hk := fun W n T hn => check1_yes a0 a1 a2 W n T hn h
  obtain ⟨x, y, z, e, hr⟩ := vres_shape (sgd a0 k0) (sgd a1 k1) (sgd a2 k2)
  rw [hr] at hu ⊢
  clear hr q0 q1 q2
  by_cases h0 : a0 = 0
  · subst h0
    by_cases h1 : a1 = 0
    · subst h1
      exact Unit_yes2 a2 x y z e w (by rw [beq_eq_false_iff_ne]; intro h2; exact hz ⟨rfl, rfl, h2⟩) hk hu
    · exact Unit_yes1 a1 a2 x y z e w (by rw [beq_eq_false_iff_ne]; exact h1) hk hu
  · exact Unit_yes0 a0 a1 a2 x y z e w (by rw [beq_eq_false_iff_ne]; exact h0) hk hu
end Go.Proofs.YtoeecldhbabmbaaGreat
