/- vec: Norm. vec: through. -/
import Derived.Test.YtoeecldhbabmbaaGreatV1m
import Derived.Test.YtoeecldhbabmbaaGreatMg16
import Derived.Test.YtoeecldhbabmbaaGreatW9m
import Derived.Test.YtoeecldhbabmbaaGreatMg10
open Go.Value renaming int → J, agg → zG
open Go.IntKind renaming i64 → zq
open Go.Ending renaming returned → zR
open Go.Proofs.Tryz renaming prog → zP
namespace Go.Proofs.YtoeecldhbabmbaaGreat
open Go.RowKit Go.Shelf
set_option maxHeartbeats 4000000 in
theorem norm_yes (a0 a1 a2 r s : Int) (w : World)
    (HK : Hid (∀ (W : World) (n : Nat) (T : TypeId), W.heap.size = n → Calls zP 75 #[.slice (some ⟨n, 0, none⟩) 1 1] (W.alloc (.cells #[J zq a0, J zq a1, J zq a2] T)) fun e w' => e = zR (J zq 0) ∧ Ext (W.alloc (.cells #[J zq a0, J zq a1, J zq a2] T)) w'))
    (HL : Hid (∀ w', Calls zP 108 #[zG #[J zq a0, J zq a1, J zq a2]] w' fun e w'' => e = zR (.tuple #[J zq r, J zq s]) ∧ Ext w' w'')) :
    Calls zP 82 #[zG #[J zq a0, J zq a1, J zq a2]] w fun e' w' => e' = zR (.tuple #[J zq r, J zq s]) ∧ Ext w w' := by
  have HA : Hid (∀ w', Calls zP 76 #[zG #[J zq a0, J zq a1, J zq a2]] w' fun e w'' => e = zR (zG #[J zq a0, J zq a1, J zq a2]) ∧ Ext w' w'') := fun w' => of_any a0 a1 a2 w'
  go_enter Tryz.func82, Tryz.ntmps82
  go_wp2_with fail
  refine (HA.out _).mono ?_
  rintro e' w1 ⟨rfl, x1⟩
  go_wp2_with fail
  refine (HK.out _ _ _ rfl).mono ?_
  rintro e' w2 ⟨rfl, x20⟩
  have x2 := x1.trans (Ext.trans ((Ext.refl _).alloc _) x20)
  clear x20 x1
  have E8 : Ext w w2 := Ext.trans ((Ext.refl _).alloc _) x2
  obtain ⟨p0, p1, p2, p3, p4, p5, p6⟩ : H3 w2 w.heap.size (J zq a0) (J zq a1) (J zq a2) := (h3_at rfl).ext x2
  clear x2
  go_wp2_with fail
  refine (HA.out _).mono ?_
  rintro e' w3 ⟨rfl, x3⟩
  go_wp2_with fail
  refine (HL.out _).mono ?_
  rintro e' w4 ⟨rfl, x4⟩
  go_wp2_with fail
  go_ret2
  exact ⟨rfl, (E8.trans x3).trans x4⟩
theorem rootQ_exists (p n : Nat) (h0 : 0 < n) : ∃ k, RootQ p n k := by
  obtain ⟨k, k1, k2⟩ := exists_sqrt (p / n)
  have hm : k * k * n ≤ p := by rw [← Nat.le_div_iff_mul_le h0]; exact k1
  have hM : p < (k + 1) * (k + 1) * n := by rw [← Nat.div_lt_iff_lt_mul h0]; exact k2
  by_cases h : (2 * k + 1) * (2 * k + 1) * n < 4 * p ∨ (2 * k + 1) * (2 * k + 1) * n = 4 * p ∧ k % 2 = 1
  · exact ⟨k + 1, rootQ_up hM h⟩
  · exact ⟨k, rootQ_down h0 hm (by omega)⟩
theorem rootQ_le {p n k B : Nat} (h : RootQ p n k) (hn : 0 < n) (hp : p ≤ B * B * n) : k ≤ B := by
  obtain ⟨_, h2, _, h4⟩ := h
  apply Decidable.byContradiction
  intro hh
  have h5 : (2 * B + 1) * (2 * B + 1) * n ≤ (2 * k - 1) * (2 * k - 1) * n := Nat.mul_le_mul_right n (Nat.mul_le_mul (by omega) (by omega))
  have h6 : (2 * B + 1) * (2 * B + 1) * n = 4 * (B * B * n) + 4 * (B * n) + n := by
    have : (2 * B + 1) * (2 * B + 1) = 4 * (B * B) + 4 * B + 1 := by
      simp only [Nat.mul_add, Nat.add_mul, Nat.mul_one, Nat.one_mul]
      have : 2 * B * (2 * B) = 4 * (B * B) := by rw [Nat.mul_mul_mul_comm]
      omega
    rw [this, Nat.add_mul, Nat.add_mul, Nat.mul_assoc 4, Nat.mul_assoc 4, Nat.one_mul]
  omega
def sq3 (a0 a1 a2 : Int) : Nat := a0.natAbs * a0.natAbs + a1.natAbs * a1.natAbs + a2.natAbs * a2.natAbs
theorem sq3_dot (a0 a1 a2 : Int) : dot3 a0 a1 a2 a0 a1 a2 = (sq3 a0 a1 a2 : Int) := by
  unfold dot3 sq3
  rw [Int.natCast_add, Int.natCast_add, Int.natAbs_mul_self, Int.natAbs_mul_self, Int.natAbs_mul_self]
theorem sq3_lt {a0 a1 a2 : Int} (h : ok3 a0 a1 a2 = true) : sq3 a0 a1 a2 < 3713820117856140824697372672 := by
  obtain ⟨g0, g1, g2⟩ := ok3_parts h
  have b0 := okW_bounds g0
  have b1 := okW_bounds g1
  have b2 := okW_bounds g2
  have m0 : a0.natAbs * a0.natAbs ≤ 35184372088831 * 35184372088831 := Nat.mul_le_mul (by omega) (by omega)
  have m1 : a1.natAbs * a1.natAbs ≤ 35184372088831 * 35184372088831 := Nat.mul_le_mul (by omega) (by omega)
  have m2 : a2.natAbs * a2.natAbs ≤ 35184372088831 * 35184372088831 := Nat.mul_le_mul (by omega) (by omega)
  unfold sq3
  omega
set_option maxHeartbeats 4000000 in
theorem length_any (a0 a1 a2 : Int) (k : Nat) (w : World) (h : ok3 a0 a1 a2 = true) (hk : RootQ (sq3 a0 a1 a2) 1 k) :
    Calls zP 108 #[zG #[J zq a0, J zq a1, J zq a2]] w fun e w' => e = zR (.tuple #[J zq (fitR k).1, J zq (fitR k).2]) ∧ Ext w w' := by
  obtain ⟨g0, g1, g2⟩ := ok3_parts h
  have hl := sq3_lt h
  have kb : k ≤ 70368744177664 := rootQ_le hk (by omega) (by omega)
  have HS : Hid (∀ w', Calls zP 143 #[zG #[J zq a0, J zq a1, J zq a2], zG #[J zq a0, J zq a1, J zq a2]] w' fun e w'' => (∃ r, e = zR r ∧ IsW r (sq3 a0 a1 a2 : Nat)) ∧ Ext w' w'') := fun w' => by
    rw [← sq3_dot]
    exact sum_any a0 a1 a2 a0 a1 a2 w' g0 g1 g2 g0 g1 g2
  have HO : Hid (∀ w', Calls zP 144 #[J zq 1] w' fun e w'' => (∃ r, e = zR r ∧ IsW r ((1 : Nat) : Int)) ∧ Ext w' w'') := fun w' => ofw_any 1 w' (by omega) (by omega)
  have HR : Hid (∀ u v w', IsW u (sq3 a0 a1 a2 : Nat) → IsW v ((1 : Nat) : Int) → Calls zP 142 #[u, v] w' fun e w'' => (∃ r, e = zR r ∧ IsW r (k : Int)) ∧ Ext w' w'') := fun u v w' hu hv => rootw_det _ 1 k u v w' hk hu hv (by omega) (by omega) (by rw [Nat.div_one]; omega) (by omega)
  have HW : Hid (∀ u w', IsW u (k : Int) → Calls zP 145 #[u] w' fun e w'' => e = zR (.tuple #[J zq (fitR k).1, J zq (fitR k).2]) ∧ Ext w' w'') := fun u w' hu => wordw_any _ u w' hu (by unfold InW; omega)
  clear g0 g1 g2 hl kb hk h
  generalize sq3 a0 a1 a2 = D at *
  generalize (fitR (k : Int)).1 = o1 at *
  generalize (fitR (k : Int)).2 = o2 at *
  go_enter Tryz.func108, Tryz.ntmps108
  go_wp2_with fail
  refine (HS.out _).mono ?_
  rintro e w1 ⟨⟨u1, rfl, hu1⟩, x1⟩
  go_wp2_with fail
  refine (HO.out _).mono ?_
  rintro e w2 ⟨⟨u2, rfl, hu2⟩, x2⟩
  go_wp2_with fail
  refine (HR.out _ _ _ hu1 hu2).mono ?_
  rintro e w3 ⟨⟨u3, rfl, hu3⟩, x3⟩
  go_wp2_with fail
  refine (HW.out _ _ hu3).mono ?_
  rintro e w4 ⟨rfl, x4⟩
  go_wp2_with fail
  go_ret2
  exact ⟨rfl, (((Ext.trans ((Ext.refl _).alloc _) x1).trans x2).trans x3).trans x4⟩
theorem vNorm_yes (a0 a1 a2 : Int) (k : Nat) (w : World) (h : ok3 a0 a1 a2 = true) (hk : RootQ (sq3 a0 a1 a2) 1 k) :
    Calls zP 82 #[zG #[J zq a0, J zq a1, J zq a2]] w fun e w' => e = zR (.tuple #[J zq (fitR k).1, J zq (fitR k).2]) ∧ Ext w w' :=
  norm_yes a0 a1 a2 _ _ w (fun W n T hn => check1_yes a0 a1 a2 W n T hn h) (fun w' => length_any a0 a1 a2 k w' h hk)
set_option maxRecDepth 20000 in
set_option maxHeartbeats 8000000 in
theorem throughU_any (a0 a1 a2 r0 e0 r1 e1 r2 e2 : Int) (g : Nat) (w : World)
    (H0 : Hid (∀ w', Ext w w' → Calls zP 147 #[J zq a0, .pointer (some ⟨g, 0, none⟩)] w' fun e w'' => e = zR (.tuple #[J zq r0, J zq e0]) ∧ Ext w' w''))
    (H1 : Hid (∀ w', Ext w w' → Calls zP 147 #[J zq a1, .pointer (some ⟨g, 0, none⟩)] w' fun e w'' => e = zR (.tuple #[J zq r1, J zq e1]) ∧ Ext w' w''))
    (H2 : Hid (∀ w', Ext w w' → Calls zP 147 #[J zq a2, .pointer (some ⟨g, 0, none⟩)] w' fun e w'' => e = zR (.tuple #[J zq r2, J zq e2]) ∧ Ext w' w'')) :
    Calls zP 146 #[zG #[J zq a0, J zq a1, J zq a2], .func (.func 147) #[] #[.pointer (some ⟨g, 0, none⟩)]] w fun e w' => e = zR (thr r0 e0 r1 e1 r2 e2) ∧ Ext w w' := by
  have i0 : ∀ w : World, (Instr.index 110 (zG #[J zq a0, J zq a1, J zq a2]) (J zq 0)).run zP w = .ok (J zq a0) w := fun _ => by kernel_rfl
  have i1 : ∀ w : World, (Instr.index 110 (zG #[J zq a0, J zq a1, J zq a2]) (J zq 1)).run zP w = .ok (J zq a1) w := fun _ => by kernel_rfl
  have i2 : ∀ w : World, (Instr.index 110 (zG #[J zq a0, J zq a1, J zq a2]) (J zq 2)).run zP w = .ok (J zq a2) w := fun _ => by kernel_rfl
  obtain ⟨R, hR⟩ : ∃ R, thr r0 e0 r1 e1 r2 e2 = R := ⟨_, rfl⟩
  rw [hR]
  have T0 : Hid (e0 ≠ 0 → R = .tuple #[zG #[J zq 0, J zq 0, J zq 0], J zq e0]) := fun a => by rw [← hR]; unfold thr; rw [if_neg a]
  have T1 : Hid (e0 = 0 → e1 ≠ 0 → R = .tuple #[zG #[J zq 0, J zq 0, J zq 0], J zq e1]) := fun a b => by rw [← hR]; unfold thr; rw [if_pos a, if_neg b]
  have T2 : Hid (e0 = 0 → e1 = 0 → e2 ≠ 0 → R = .tuple #[zG #[J zq 0, J zq 0, J zq 0], J zq e2]) := fun a b c => by rw [← hR]; unfold thr; rw [if_pos a, if_pos b, if_neg c]
  have T3 : Hid (e0 = 0 → e1 = 0 → e2 = 0 → R = .tuple #[zG #[J zq r0, J zq r1, J zq r2], J zq 0]) := fun a b c => by rw [← hR]; unfold thr; rw [if_pos a, if_pos b, if_pos c]
  clear hR
  go_enter Tryz.func146, Tryz.ntmps146
  go_wp2_with fail
  refine wp_loop_rounds 4 ?_
  rw [rounds_succ]
  go_wp2_with fail
  refine (H0.out _ xa).mono ?_
  rintro e w1 ⟨rfl, x1⟩
  have MM1 : Hid (H3 w1 (w.heap.size + 1 + 1) (J zq 0) (J zq 0) (J zq 0)) := (h3_at (by simp)).ext x1
  have RR1 : Hid (H3 w1 (w.heap.size + 1) (J zq 0) (J zq 0) (J zq 0)) := (H3.alloc (h3_at (by simp)) _).ext x1
  have X1 : Ext w w1 := Ext.trans xa x1
  clear x1
  obtain ⟨m0, m1, m2, m3, m4, m5, m6⟩ := MM1.out
  obtain ⟨q0, q1, q2, q3, q4, q5, q6⟩ := RR1.out
  by_cases k0 : e0 = 0
  case neg =>
    have n0 : (e0 != 0) = true := by simpa using k0
    have hR := T0.out k0
    subst hR
    clear T0 T1 T2 T3
    go_wp2_with fail
    exact bodyPost_ret (v := .tuple #[zG #[J zq 0, J zq 0, J zq 0], J zq e0]) (by simp [results, Tryz.results146, go_sem, q0, q1, q2]) rfl ⟨rfl, xa⟩
  subst k0
  go_wp2_with fail
  rw [rounds_succ]
  go_wp2_with fail
  refine (H1.out _ xa).mono ?_
  rintro e w2 ⟨rfl, x2⟩
  have MM2 : Hid (H3 w2 (w.heap.size + 1 + 1) (J zq r0) (J zq 0) (J zq 0)) := (H3.set0 MM1.out _).ext x2
  have RR2 : Hid (H3 w2 (w.heap.size + 1) (J zq 0) (J zq 0) (J zq 0)) := (H3.farA RR1.out (by omega)).ext x2
  have X2 : Ext w w2 := Ext.trans xa x2
  clear m0 m1 m2 m3 m4 m5 m6 q0 q1 q2 q3 q4 q5 q6 X1
  clear x2
  obtain ⟨m0, m1, m2, m3, m4, m5, m6⟩ := MM2.out
  obtain ⟨q0, q1, q2, q3, q4, q5, q6⟩ := RR2.out
  by_cases k1 : e1 = 0
  case neg =>
    have n1 : (e1 != 0) = true := by simpa using k1
    have hR := T1.out (by first | exact rfl | trivial) k1
    subst hR
    clear T0 T1 T2 T3
    go_wp2_with fail
    exact bodyPost_ret (v := .tuple #[zG #[J zq 0, J zq 0, J zq 0], J zq e1]) (by simp [results, Tryz.results146, go_sem, q0, q1, q2]) rfl ⟨rfl, xa⟩
  subst k1
  go_wp2_with fail
  rw [rounds_succ]
  go_wp2_with fail
  refine (H2.out _ xa).mono ?_
  rintro e w3 ⟨rfl, x3⟩
  have MM3 : Hid (H3 w3 (w.heap.size + 1 + 1) (J zq r0) (J zq r1) (J zq 0)) := (H3.set1 MM2.out _).ext x3
  have RR3 : Hid (H3 w3 (w.heap.size + 1) (J zq 0) (J zq 0) (J zq 0)) := (H3.farA RR2.out (by omega)).ext x3
  have X3 : Ext w w3 := Ext.trans xa x3
  clear m0 m1 m2 m3 m4 m5 m6 q0 q1 q2 q3 q4 q5 q6 X2
  clear x3
  obtain ⟨m0, m1, m2, m3, m4, m5, m6⟩ := MM3.out
  obtain ⟨q0, q1, q2, q3, q4, q5, q6⟩ := RR3.out
  by_cases k2 : e2 = 0
  case neg =>
    have n2 : (e2 != 0) = true := by simpa using k2
    have hR := T2.out (by first | exact rfl | trivial) (by first | exact rfl | trivial) k2
    subst hR
    clear T0 T1 T2 T3
    go_wp2_with fail
    exact bodyPost_ret (v := .tuple #[zG #[J zq 0, J zq 0, J zq 0], J zq e2]) (by simp [results, Tryz.results146, go_sem, q0, q1, q2]) rfl ⟨rfl, xa⟩
  subst k2
  go_wp2_with fail
  rw [rounds_succ]
  go_wp2_with fail
  have hR := T3.out (by first | exact rfl | trivial) (by first | exact rfl | trivial) (by first | exact rfl | trivial)
  subst hR
  exact bodyPost_ret (v := .tuple #[zG #[J zq r0, J zq r1, J zq r2], J zq 0]) (by simp [results, Tryz.results146, go_sem, q0, q1, q2]) rfl ⟨rfl, xa⟩
end Go.Proofs.YtoeecldhbabmbaaGreat
