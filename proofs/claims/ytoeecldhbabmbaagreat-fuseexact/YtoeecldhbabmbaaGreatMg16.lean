/- vec: sums of three products. vec: the words of sums of products. vec: Add, Sub, Neg, Scale. vec: through. -/
import Derived.Test.YtoeecldhbabmbaaGreatV1m
import Derived.Test.YtoeecldhbabmbaaGreatMg2
import Derived.Test.YtoeecldhbabmbaaGreatMg6
import Derived.Test.YtoeecldhbabmbaaGreatMg10
import Derived.Test.YtoeecldhbabmbaaGreatMg15
open Go.Value renaming int → J, agg → zG
open Go.IntKind renaming i64 → zq, u64 → zu
open Go.Ending renaming returned → zR
open Go.Proofs.Tryz renaming prog → zP
namespace Go.Proofs.YtoeecldhbabmbaaGreat
open Go.RowKit Go.Shelf
theorem word64 {a : Int} (h : okW a = true) : -9223372036854775808 ≤ a ∧ a ≤ 9223372036854775807 := by
  have := okW_bounds h; omega
theorem sum3_any (A B : Nat) (x0 x1 x2 y0 y1 y2 : Int) (w : World) (hA : H3 w A (J zq x0) (J zq x1) (J zq x2)) (hB : H3 w B (J zq y0) (J zq y1) (J zq y2))
    (hx0 : -9223372036854775808 ≤ x0 ∧ x0 ≤ 9223372036854775807) (hx1 : -9223372036854775808 ≤ x1 ∧ x1 ≤ 9223372036854775807) (hx2 : -9223372036854775808 ≤ x2 ∧ x2 ≤ 9223372036854775807) (hy0 : -9223372036854775808 ≤ y0 ∧ y0 ≤ 9223372036854775807) (hy1 : -9223372036854775808 ≤ y1 ∧ y1 ≤ 9223372036854775807) (hy2 : -9223372036854775808 ≤ y2 ∧ y2 ≤ 9223372036854775807) :
    Calls zP 154 #[.slice (some ⟨A, 0, none⟩) 3 3, .slice (some ⟨B, 0, none⟩) 3 3, .func (.func 116) #[] #[]] w fun e w' => (∃ r, e = zR r ∧ IsW r (x0 * y0 + x1 * y1 + x2 * y2)) ∧ Ext w w' := by
  obtain ⟨c0, c1, c2, f0, f1, f2, hb⟩ := hA
  obtain ⟨d0, d1, d2, g0, g1, g2, hc⟩ := hB
  have h := sum64_raw 3 A B (fun i => if i = 0 then x0 else if i = 1 then x1 else x2) (fun i => if i = 0 then y0 else if i = 1 then y1 else y2) (fun i => if i = 0 then x0 * y0 else if i = 1 then x1 * y1 else x2 * y2) w (by omega) (fun i hi => by
    obtain rfl | rfl | rfl : i = 0 ∨ i = 1 ∨ i = 2 := by omega
    · exact ⟨c0, hb⟩
    · exact ⟨c1, hb⟩
    · exact ⟨c2, hb⟩) (fun i hi => by
    obtain rfl | rfl | rfl : i = 0 ∨ i = 1 ∨ i = 2 := by omega
    · exact ⟨d0, hc⟩
    · exact ⟨d1, hc⟩
    · exact ⟨d2, hc⟩) (fun i w' hi => by
    obtain rfl | rfl | rfl : i = 0 ∨ i = 1 ∨ i = 2 := by omega
    · exact productw_any x0 y0 w' hx0.1 hx0.2 hy0.1 hy0.2
    · exact productw_any x1 y1 w' hx1.1 hx1.2 hy1.1 hy1.2
    · exact productw_any x2 y2 w' hx2.1 hx2.2 hy2.1 hy2.2) (fun u v p q w' hu hv => plus_any p q u v w' hu hv)
  have e : sumTo (fun i => if i = 0 then x0 * y0 else if i = 1 then x1 * y1 else x2 * y2) 3 = x0 * y0 + x1 * y1 + x2 * y2 := by
    simp [sumTo]
  rw [e] at h
  exact h
set_option maxRecDepth 20000 in
set_option maxHeartbeats 4000000 in
theorem sum_raw (a0 a1 a2 b0 b1 b2 z : Int) (w : World)
    (HS : Hid (∀ A B w', H3 w' A (J zq a0) (J zq a1) (J zq a2) → H3 w' B (J zq b0) (J zq b1) (J zq b2) → Calls zP 154 #[.slice (some ⟨A, 0, none⟩) 3 3, .slice (some ⟨B, 0, none⟩) 3 3, .func (.func 116) #[] #[]] w' fun e w'' => (∃ r, e = zR r ∧ IsW r z) ∧ Ext w' w'')) :
    Calls zP 143 #[zG #[J zq a0, J zq a1, J zq a2], zG #[J zq b0, J zq b1, J zq b2]] w fun e w' => (∃ r, e = zR r ∧ IsW r z) ∧ Ext w w' := by
  go_enter Tryz.func143, Tryz.ntmps143
  go_wp2_with fail
  go_region_with (go_at_call 154; refine (HS.out _ _ _ (H3.drew (H3.alloc (H3.alloc (h3_at rfl) _) _)) (H3.drew (H3.alloc (h3_at (by simp)) _))).mono ?_; rintro e w1 ⟨⟨u, rfl, m0, m1, m2, rfl, hr⟩, x1⟩; have HRr : Hid _ := hr; clear hr; obtain ⟨c0, c1, c2, c3, c4, c5, c6⟩ : H3 w1 (w.heap.size + 1 + 1) (J zu 0) (J zu 0) (J zu 0) := (H3.drew (h3_at (by simp))).ext x1; have X1 : Ext w w1 := Ext.trans xa x1; clear x1)
  all_goals
    go_wp2_with fail
    exact bodyPost_ret (v := zG #[J zu m0, J zu m1, J zu m2]) (by simp [results, Tryz.results143, go_sem, c0, c1, c2]) rfl ⟨⟨_, rfl, _, _, _, rfl, HRr.out⟩, xa⟩
theorem sum_any (a0 a1 a2 b0 b1 b2 : Int) (w : World) (h0 : okW a0 = true) (h1 : okW a1 = true) (h2 : okW a2 = true) (k0 : okW b0 = true) (k1 : okW b1 = true) (k2 : okW b2 = true) :
    Calls zP 143 #[zG #[J zq a0, J zq a1, J zq a2], zG #[J zq b0, J zq b1, J zq b2]] w fun e w' => (∃ r, e = zR r ∧ IsW r (a0 * b0 + a1 * b1 + a2 * b2)) ∧ Ext w w' :=
  sum_raw a0 a1 a2 b0 b1 b2 _ w (fun A B w' hA hB => sum3_any A B a0 a1 a2 b0 b1 b2 w' hA hB (word64 h0) (word64 h1) (word64 h2) (word64 k0) (word64 k1) (word64 k2))
theorem prod_abs {a b : Int} (h : okW a = true) (k : okW b = true) : -1237940039285380274899124224 < a * b ∧ a * b < 1237940039285380274899124224 := by
  have := okW_bounds h
  have := okW_bounds k
  have e := Int.natAbs_mul a b
  have h1 : a.natAbs * b.natAbs ≤ 35184372088831 * 35184372088831 := Nat.mul_le_mul (by omega) (by omega)
  omega
def dot3 (a0 a1 a2 b0 b1 b2 : Int) : Int := a0 * b0 + a1 * b1 + a2 * b2
theorem nearQ_spec (z : Int) : IsNear z 1073741824 (nearQ z) := by
  unfold IsNear nearQ oddQ
  omega
set_option maxHeartbeats 2000000 in
theorem inQ30_any (a0 a1 a2 b0 b1 b2 : Int) (w : World) (h0 : okW a0 = true) (h1 : okW a1 = true) (h2 : okW a2 = true) (k0 : okW b0 = true) (k1 : okW b1 = true) (k2 : okW b2 = true) :
    Calls zP 150 #[zG #[J zq a0, J zq a1, J zq a2], zG #[J zq b0, J zq b1, J zq b2]] w fun e w' => e = zR (.tuple #[J zq (fitR (nearQ (dot3 a0 a1 a2 b0 b1 b2))).1, J zq (fitR (nearQ (dot3 a0 a1 a2 b0 b1 b2))).2]) ∧ Ext w w' := by
  have p0 := prod_abs h0 k0
  have p1 := prod_abs h1 k1
  have p2 := prod_abs h2 k2
  have HS : Hid (∀ w', Calls zP 143 #[zG #[J zq a0, J zq a1, J zq a2], zG #[J zq b0, J zq b1, J zq b2]] w' fun e w'' => (∃ r, e = zR r ∧ IsW r (dot3 a0 a1 a2 b0 b1 b2)) ∧ Ext w' w'') := fun w' => sum_any a0 a1 a2 b0 b1 b2 w' h0 h1 h2 k0 k1 k2
  have HN : Hid (∀ u w', IsW u (dot3 a0 a1 a2 b0 b1 b2) → Calls zP 156 #[u, J zq 30] w' fun e w'' => (∃ r, e = zR r ∧ IsW r (nearQ (dot3 a0 a1 a2 b0 b1 b2))) ∧ Ext w' w'') := fun u w' hu => nearestw_any _ u w' hu (by unfold InW dot3; omega) (by unfold InW dot3; omega)
  have HW : Hid (∀ u w', IsW u (nearQ (dot3 a0 a1 a2 b0 b1 b2)) → Calls zP 145 #[u] w' fun e w'' => e = zR (.tuple #[J zq (fitR (nearQ (dot3 a0 a1 a2 b0 b1 b2))).1, J zq (fitR (nearQ (dot3 a0 a1 a2 b0 b1 b2))).2]) ∧ Ext w' w'') := fun u w' hu => wordw_any _ u w' hu (by
    have hn := nearQ_spec (dot3 a0 a1 a2 b0 b1 b2)
    unfold IsNear at hn
    unfold dot3 at hn ⊢
    unfold InW
    omega)
  clear p0 p1 p2 h0 h1 h2 k0 k1 k2
  generalize dot3 a0 a1 a2 b0 b1 b2 = D at *
  generalize nearQ D = N at *
  generalize (fitR N).1 = o1 at *
  generalize (fitR N).2 = o2 at *
  go_enter Tryz.func150, Tryz.ntmps150
  go_wp2_with fail
  refine (HS.out _).mono ?_
  rintro e w1 ⟨⟨u1, rfl, hu1⟩, x1⟩
  go_wp2_with fail
  refine (HN.out _ _ hu1).mono ?_
  rintro e w2 ⟨⟨u2, rfl, hu2⟩, x2⟩
  go_wp2_with fail
  refine (HW.out _ _ hu2).mono ?_
  rintro e w3 ⟨rfl, x3⟩
  go_wp2_with fail
  go_ret2
  exact ⟨rfl, ((Ext.trans (((Ext.refl _).alloc _).alloc _) x1).trans x2).trans x3⟩
theorem mulw (a b : Int) (h1 : okW a = true) (h2 : okW b = true) (w : World) : Calls zP 90 #[J zq a, J zq b] w fun e w' => e = zR (.tuple #[J zq (fitR (nearQ (a * b))).1, J zq (fitR (nearQ (a * b))).2]) ∧ Ext w w' := by
  have h := mul_any a b w
  have e : mulR a b = fitR (nearQ (a * b)) := by
    unfold mulR prodV
    rw [if_pos (by rw [h1, h2]; rfl), share_word a b 1073741824 (nearQ (a * b)) (by omega) (by unfold over; rw [if_neg (by omega)]; exact nearQ_spec _)]
    rfl
  rw [e] at h; exact h
set_option maxHeartbeats 4000000 in
theorem faceScale_raw (a0 a1 a2 k x y z e : Int) (w : World)
    (HP : Hid (∀ w', Calls zP 113 #[zG #[J zq a0, J zq a1, J zq a2], zG #[J zq k, J zq k, J zq k], .func (.func 90) #[] #[]] w' fun e' w'' => e' = zR (.tuple #[zG #[J zq x, J zq y, J zq z], J zq e]) ∧ Ext w' w'')) :
    Calls zP 86 #[zG #[J zq a0, J zq a1, J zq a2], J zq k] w fun e' w' => e' = zR (.tuple #[zG #[J zq x, J zq y, J zq z], J zq e]) ∧ Ext w w' := by
  have HA : Hid (∀ w', Calls zP 76 #[zG #[J zq a0, J zq a1, J zq a2]] w' fun e w'' => e = zR (zG #[J zq a0, J zq a1, J zq a2]) ∧ Ext w' w'') := fun w' => of_any a0 a1 a2 w'
  go_enter Tryz.func86, Tryz.ntmps86
  go_wp2_with fail
  refine (HA.out _).mono ?_
  rintro e' w1 ⟨rfl, x1⟩
  go_wp2_with fail
  refine (HP.out _).mono ?_
  rintro e' w2 ⟨rfl, x2⟩
  obtain ⟨m0, m1, m2, m3, m4, m5, m6⟩ : H3 w2 (w.heap.size + 1) (J zq 0) (J zq 0) (J zq 0) := (h3_at (by simp)).ext (x1.trans x2)
  have E8 : Ext w w2 := Ext.trans (((Ext.refl _).alloc _).alloc _) (x1.trans x2)
  clear x1 x2
  go_wp2_with fail
  exact bodyPost_ret (v := .tuple #[zG #[J zq x, J zq y, J zq z], J zq e]) (by simp [results, Tryz.results86, go_sem, m0, m1, m2]) rfl ⟨rfl, xa⟩
theorem vScale_yes (a0 a1 a2 k : Int) (w : World) (h1 : ok3 a0 a1 a2 = true) (h2 : okW k = true) :
    Calls zP 86 #[zG #[J zq a0, J zq a1, J zq a2], J zq k] w fun e w' => e = zR (vres (nearQ (a0 * k)) (nearQ (a1 * k)) (nearQ (a2 * k))) ∧ Ext w w' := by
  obtain ⟨g0, g1, g2⟩ := ok3_parts h1
  have hp := fun w' => pairwise_Mul a0 a1 a2 k k k _ _ _ _ _ _ w' h1 (by unfold ok3; rw [h2]; rfl) (fun w => mulw a0 k g0 h2 w) (fun w => mulw a1 k g1 h2 w) (fun w => mulw a2 k g2 h2 w)
  rw [thr_fit] at hp
  obtain ⟨x, y, z, e, hr⟩ := vres_shape (nearQ (a0 * k)) (nearQ (a1 * k)) (nearQ (a2 * k))
  rw [hr] at hp ⊢
  exact faceScale_raw a0 a1 a2 k x y z e w hp
set_option maxRecDepth 20000 in
set_option maxHeartbeats 8000000 in
theorem throughR_any (a0 a1 a2 a3 a4 a5 a6 a7 a8 r0 e0 r1 e1 r2 e2 : Int) (g : Nat) (w : World)
    (H0 : Hid (∀ w', Ext w w' → Calls zP 149 #[zG #[J zq a0, J zq a1, J zq a2], .pointer (some ⟨g, 0, none⟩)] w' fun e w'' => e = zR (.tuple #[J zq r0, J zq e0]) ∧ Ext w' w''))
    (H1 : Hid (∀ w', Ext w w' → Calls zP 149 #[zG #[J zq a3, J zq a4, J zq a5], .pointer (some ⟨g, 0, none⟩)] w' fun e w'' => e = zR (.tuple #[J zq r1, J zq e1]) ∧ Ext w' w''))
    (H2 : Hid (∀ w', Ext w w' → Calls zP 149 #[zG #[J zq a6, J zq a7, J zq a8], .pointer (some ⟨g, 0, none⟩)] w' fun e w'' => e = zR (.tuple #[J zq r2, J zq e2]) ∧ Ext w' w'')) :
    Calls zP 148 #[zG #[J zq a0, J zq a1, J zq a2, J zq a3, J zq a4, J zq a5, J zq a6, J zq a7, J zq a8], .func (.func 149) #[] #[.pointer (some ⟨g, 0, none⟩)]] w fun e w' => e = zR (thr r0 e0 r1 e1 r2 e2) ∧ Ext w w' := by
  have i0 : ∀ w : World, (Instr.index 147 (zG #[J zq a0, J zq a1, J zq a2, J zq a3, J zq a4, J zq a5, J zq a6, J zq a7, J zq a8]) (J zq 0)).run zP w = .ok (zG #[J zq a0, J zq a1, J zq a2]) w := fun _ => by kernel_rfl
  have i1 : ∀ w : World, (Instr.index 147 (zG #[J zq a0, J zq a1, J zq a2, J zq a3, J zq a4, J zq a5, J zq a6, J zq a7, J zq a8]) (J zq 1)).run zP w = .ok (zG #[J zq a3, J zq a4, J zq a5]) w := fun _ => by kernel_rfl
  have i2 : ∀ w : World, (Instr.index 147 (zG #[J zq a0, J zq a1, J zq a2, J zq a3, J zq a4, J zq a5, J zq a6, J zq a7, J zq a8]) (J zq 2)).run zP w = .ok (zG #[J zq a6, J zq a7, J zq a8]) w := fun _ => by kernel_rfl
  obtain ⟨R, hR⟩ : ∃ R, thr r0 e0 r1 e1 r2 e2 = R := ⟨_, rfl⟩
  rw [hR]
  have T0 : Hid (e0 ≠ 0 → R = .tuple #[zG #[J zq 0, J zq 0, J zq 0], J zq e0]) := fun a => by rw [← hR]; unfold thr; rw [if_neg a]
  have T1 : Hid (e0 = 0 → e1 ≠ 0 → R = .tuple #[zG #[J zq 0, J zq 0, J zq 0], J zq e1]) := fun a b => by rw [← hR]; unfold thr; rw [if_pos a, if_neg b]
  have T2 : Hid (e0 = 0 → e1 = 0 → e2 ≠ 0 → R = .tuple #[zG #[J zq 0, J zq 0, J zq 0], J zq e2]) := fun a b c => by rw [← hR]; unfold thr; rw [if_pos a, if_pos b, if_neg c]
  have T3 : Hid (e0 = 0 → e1 = 0 → e2 = 0 → R = .tuple #[zG #[J zq r0, J zq r1, J zq r2], J zq 0]) := fun a b c => by rw [← hR]; unfold thr; rw [if_pos a, if_pos b, if_pos c]
  clear hR
  go_enter Tryz.func148, Tryz.ntmps148
  go_wp2_with fail
  refine wp_loop_rounds 4 ?_
  rw [rounds_succ]
  go_wp2_with fail
  refine (H0.out _ xa).mono ?_
  rintro e w1 ⟨rfl, x1⟩
  have MM1 : Hid (H3 w1 (w.heap.size + 1 + 1) (J zq 0) (J zq 0) (J zq 0)) := (H3.alloc (h3_at (by simp)) _).ext x1
  have RR1 : Hid (H3 w1 (w.heap.size + 1) (J zq 0) (J zq 0) (J zq 0)) := (H3.alloc (H3.alloc (h3_at (by simp)) _) _).ext x1
  have X1 : Ext w w1 := Ext.trans xa x1
  clear x1
  obtain ⟨m0, m1, m2, m3, m4, m5, m6⟩ := MM1.out
  obtain ⟨q0, q1, q2, q3, q4, q5, q6⟩ := RR1.out
  by_cases k0 : e0 = 0
  case neg =>
    have n0 : (e0 != 0) = true := by simpa using k0
    have hR := T0.out k0
    subst hR
    clear T0 T1 T2 T3
    go_wp2_with fail
    exact bodyPost_ret (v := .tuple #[zG #[J zq 0, J zq 0, J zq 0], J zq e0]) (by simp [results, Tryz.results148, go_sem, q0, q1, q2]) rfl ⟨rfl, xa⟩
  subst k0
  go_wp2_with fail
  rw [rounds_succ]
  go_wp2_with fail
  refine (H1.out _ xa).mono ?_
  rintro e w2 ⟨rfl, x2⟩
  have MM2 : Hid (H3 w2 (w.heap.size + 1 + 1) (J zq r0) (J zq 0) (J zq 0)) := (H3.alloc (H3.set0 MM1.out _) _).ext x2
  have RR2 : Hid (H3 w2 (w.heap.size + 1) (J zq 0) (J zq 0) (J zq 0)) := (H3.alloc (H3.farA RR1.out (by omega)) _).ext x2
  have X2 : Ext w w2 := Ext.trans xa x2
  clear m0 m1 m2 m3 m4 m5 m6 q0 q1 q2 q3 q4 q5 q6 X1
  clear x2
  obtain ⟨m0, m1, m2, m3, m4, m5, m6⟩ := MM2.out
  obtain ⟨q0, q1, q2, q3, q4, q5, q6⟩ := RR2.out
  by_cases k1 : e1 = 0
  case neg =>
    have n1 : (e1 != 0) = true := by simpa using k1
    have hR := T1.out (by first | exact rfl | trivial) k1
    subst hR
    clear T0 T1 T2 T3
    go_wp2_with fail
    exact bodyPost_ret (v := .tuple #[zG #[J zq 0, J zq 0, J zq 0], J zq e1]) (by simp [results, Tryz.results148, go_sem, q0, q1, q2]) rfl ⟨rfl, xa⟩
  subst k1
  go_wp2_with fail
  rw [rounds_succ]
  go_wp2_with fail
  refine (H2.out _ xa).mono ?_
  rintro e w3 ⟨rfl, x3⟩
  have MM3 : Hid (H3 w3 (w.heap.size + 1 + 1) (J zq r0) (J zq r1) (J zq 0)) := (H3.alloc (H3.set1 MM2.out _) _).ext x3
  have RR3 : Hid (H3 w3 (w.heap.size + 1) (J zq 0) (J zq 0) (J zq 0)) := (H3.alloc (H3.farA RR2.out (by omega)) _).ext x3
  have X3 : Ext w w3 := Ext.trans xa x3
  clear m0 m1 m2 m3 m4 m5 m6 q0 q1 q2 q3 q4 q5 q6 X2
  clear x3
  obtain ⟨m0, m1, m2, m3, m4, m5, m6⟩ := MM3.out
  obtain ⟨q0, q1, q2, q3, q4, q5, q6⟩ := RR3.out
  by_cases k2 : e2 = 0
  case neg =>
    have n2 : (e2 != 0) = true := by simpa using k2
    have hR := T2.out (by first | exact rfl | trivial) (by first | exact rfl | trivial) k2
    subst hR
    clear T0 T1 T2 T3
    go_wp2_with fail
    exact bodyPost_ret (v := .tuple #[zG #[J zq 0, J zq 0, J zq 0], J zq e2]) (by simp [results, Tryz.results148, go_sem, q0, q1, q2]) rfl ⟨rfl, xa⟩
  subst k2
  go_wp2_with fail
  rw [rounds_succ]
  go_wp2_with fail
  have hR := T3.out (by first | exact rfl | trivial) (by first | exact rfl | trivial) (by first | exact rfl | trivial)
  subst hR
  exact bodyPost_ret (v := .tuple #[zG #[J zq r0, J zq r1, J zq r2], J zq 0]) (by simp [results, Tryz.results148, go_sem, q0, q1, q2]) rfl ⟨rfl, xa⟩
end Go.Proofs.YtoeecldhbabmbaaGreat
