/- vec: Norm. vec: through. -/
import Derived.Test.YtfmalpnlencmbaaGreatV1m
import Derived.Test.YtfmalpnlencmbaaGreatMg16
import Derived.Test.YtfmalpnlencmbaaGreatW9m
import Derived.Test.YtfmalpnlencmbaaGreatMg10
namespace Go.Proofs.YtfmalpnlencmbaaGreat
open Go.RowKit Go.Shelf

set_option maxHeartbeats 4000000 in
theorem norm_no (a0 a1 a2 : Int) (w : World)
    (HK : Hid (∀ (W : World) (n : Nat) (T : TypeId), W.heap.size = n → Calls Tryz.prog 72 #[.slice (some ⟨n, 0, none⟩) 1 1] (W.alloc (.cells #[.int .i64 a0, .int .i64 a1, .int .i64 a2] T)) fun e w' => e = .returned (.int .i64 1) ∧ Ext (W.alloc (.cells #[.int .i64 a0, .int .i64 a1, .int .i64 a2] T)) w')) :
    Calls Tryz.prog 78 #[.agg #[.int .i64 a0, .int .i64 a1, .int .i64 a2]] w fun e' w' => e' = .returned (.tuple #[.int .i64 0, .int .i64 1]) ∧ Ext w w' := by
  have HA : Hid (∀ w', Calls Tryz.prog 70 #[.agg #[.int .i64 a0, .int .i64 a1, .int .i64 a2]] w' fun e w'' => e = .returned (.agg #[.int .i64 a0, .int .i64 a1, .int .i64 a2]) ∧ Ext w' w'') := fun w' => of_any a0 a1 a2 w'
  go_enter Tryz.func78, Tryz.ntmps78
  go_wp2_with fail
  refine (HA.out _).mono ?_
  rintro e' w1 ⟨rfl, x1⟩
  go_wp2_with fail
  refine (HK.out _ _ _ rfl).mono ?_
  rintro e' w2 ⟨rfl, x20⟩
  have x2 := x1.trans (Ext.trans ((Ext.refl _).alloc _) x20)
  clear x20 x1
  have E8 : Ext w w2 := Ext.trans ((Ext.refl _).alloc _) x2
  clear x2
  go_wp2_with fail
  go_ret2
  exact ⟨rfl, E8⟩
set_option maxHeartbeats 4000000 in
theorem norm_yes (a0 a1 a2 r s : Int) (w : World)
    (HK : Hid (∀ (W : World) (n : Nat) (T : TypeId), W.heap.size = n → Calls Tryz.prog 72 #[.slice (some ⟨n, 0, none⟩) 1 1] (W.alloc (.cells #[.int .i64 a0, .int .i64 a1, .int .i64 a2] T)) fun e w' => e = .returned (.int .i64 0) ∧ Ext (W.alloc (.cells #[.int .i64 a0, .int .i64 a1, .int .i64 a2] T)) w'))
    (HL : Hid (∀ w', Calls Tryz.prog 142 #[.agg #[.int .i64 a0, .int .i64 a1, .int .i64 a2]] w' fun e w'' => e = .returned (.tuple #[.int .i64 r, .int .i64 s]) ∧ Ext w' w'')) :
    Calls Tryz.prog 78 #[.agg #[.int .i64 a0, .int .i64 a1, .int .i64 a2]] w fun e' w' => e' = .returned (.tuple #[.int .i64 r, .int .i64 s]) ∧ Ext w w' := by
  have HA : Hid (∀ w', Calls Tryz.prog 70 #[.agg #[.int .i64 a0, .int .i64 a1, .int .i64 a2]] w' fun e w'' => e = .returned (.agg #[.int .i64 a0, .int .i64 a1, .int .i64 a2]) ∧ Ext w' w'') := fun w' => of_any a0 a1 a2 w'
  go_enter Tryz.func78, Tryz.ntmps78
  go_wp2_with fail
  refine (HA.out _).mono ?_
  rintro e' w1 ⟨rfl, x1⟩
  go_wp2_with fail
  refine (HK.out _ _ _ rfl).mono ?_
  rintro e' w2 ⟨rfl, x20⟩
  have x2 := x1.trans (Ext.trans ((Ext.refl _).alloc _) x20)
  clear x20 x1
  have E8 : Ext w w2 := Ext.trans ((Ext.refl _).alloc _) x2
  obtain ⟨p0, p1, p2, p3, p4, p5, p6⟩ : H3 w2 w.heap.size (.int .i64 a0) (.int .i64 a1) (.int .i64 a2) := (h3_at rfl).ext x2
  clear x2
  go_wp2_with fail
  refine (HA.out _).mono ?_
  rintro e' w3 ⟨rfl, x3⟩
  go_wp2_with fail
  refine (HL.out _).mono ?_
  rintro e' w4 ⟨rfl, x4⟩
  go_wp2_with fail
  go_ret2
  exact ⟨rfl, (E8.trans x3).trans x4⟩
theorem rootQ_exists (p n : Nat) (h0 : 0 < n) : ∃ k, RootQ p n k := by
  obtain ⟨k, k1, k2⟩ := exists_sqrt (p / n)
  have hm : k * k * n ≤ p := by rw [← Nat.le_div_iff_mul_le h0]; exact k1
  have hM : p < (k + 1) * (k + 1) * n := by rw [← Nat.div_lt_iff_lt_mul h0]; exact k2
  by_cases h : (2 * k + 1) * (2 * k + 1) * n < 4 * p ∨ (2 * k + 1) * (2 * k + 1) * n = 4 * p ∧ k % 2 = 1
  · exact ⟨k + 1, rootQ_up hM h⟩
  · exact ⟨k, rootQ_down h0 hm (by omega)⟩
theorem rootQ_le {p n k B : Nat} (h : RootQ p n k) (hn : 0 < n) (hp : p ≤ B * B * n) : k ≤ B := by
  obtain ⟨_, h2, _, h4⟩ := h
  apply Decidable.byContradiction
  intro hh
  have h5 : (2 * B + 1) * (2 * B + 1) * n ≤ (2 * k - 1) * (2 * k - 1) * n := Nat.mul_le_mul_right n (Nat.mul_le_mul (by omega) (by omega))
  have h6 : (2 * B + 1) * (2 * B + 1) * n = 4 * (B * B * n) + 4 * (B * n) + n := by
    have : (2 * B + 1) * (2 * B + 1) = 4 * (B * B) + 4 * B + 1 := by
      simp only [Nat.mul_add, Nat.add_mul, Nat.mul_one, Nat.one_mul]
      have : 2 * B * (2 * B) = 4 * (B * B) := by rw [Nat.mul_mul_mul_comm]
      omega
    rw [this, Nat.add_mul, Nat.add_mul, Nat.mul_assoc 4, Nat.mul_assoc 4, Nat.one_mul]
  omega
/-- the sum of the squares -/
def sq3 (a0 a1 a2 : Int) : Nat := a0.natAbs * a0.natAbs + a1.natAbs * a1.natAbs + a2.natAbs * a2.natAbs
theorem sq3_dot (a0 a1 a2 : Int) : dot3 a0 a1 a2 a0 a1 a2 = (sq3 a0 a1 a2 : Int) := by
  unfold dot3 sq3
  rw [Int.natCast_add, Int.natCast_add, Int.natAbs_mul_self, Int.natAbs_mul_self, Int.natAbs_mul_self]
theorem sq3_lt {a0 a1 a2 : Int} (h : ok3 a0 a1 a2 = true) : sq3 a0 a1 a2 < 3713820117856140824697372672 := by
  obtain ⟨g0, g1, g2⟩ := ok3_parts h
  have b0 := okW_bounds g0
  have b1 := okW_bounds g1
  have b2 := okW_bounds g2
  have m0 : a0.natAbs * a0.natAbs ≤ 35184372088831 * 35184372088831 := Nat.mul_le_mul (by omega) (by omega)
  have m1 : a1.natAbs * a1.natAbs ≤ 35184372088831 * 35184372088831 := Nat.mul_le_mul (by omega) (by omega)
  have m2 : a2.natAbs * a2.natAbs ≤ 35184372088831 * 35184372088831 := Nat.mul_le_mul (by omega) (by omega)
  unfold sq3
  omega
set_option maxHeartbeats 4000000 in
theorem length_any (a0 a1 a2 : Int) (k : Nat) (w : World) (h : ok3 a0 a1 a2 = true) (hk : RootQ (sq3 a0 a1 a2) 1 k) :
    Calls Tryz.prog 142 #[.agg #[.int .i64 a0, .int .i64 a1, .int .i64 a2]] w fun e w' => e = .returned (.tuple #[.int .i64 (fitR k).1, .int .i64 (fitR k).2]) ∧ Ext w w' := by
  obtain ⟨g0, g1, g2⟩ := ok3_parts h
  have hl := sq3_lt h
  have kb : k ≤ 70368744177664 := rootQ_le hk (by omega) (by omega)
  have HS : Hid (∀ w', Calls Tryz.prog 138 #[.agg #[.int .i64 a0, .int .i64 a1, .int .i64 a2], .agg #[.int .i64 a0, .int .i64 a1, .int .i64 a2]] w' fun e w'' => (∃ r, e = .returned r ∧ IsW r (sq3 a0 a1 a2 : Nat)) ∧ Ext w' w'') := fun w' => by
    rw [← sq3_dot]
    exact sum_any a0 a1 a2 a0 a1 a2 w' g0 g1 g2 g0 g1 g2
  have HO : Hid (∀ w', Calls Tryz.prog 147 #[.int .i64 1] w' fun e w'' => (∃ r, e = .returned r ∧ IsW r ((1 : Nat) : Int)) ∧ Ext w' w'') := fun w' => ofw_any 1 w' (by omega) (by omega)
  have HR : Hid (∀ u v w', IsW u (sq3 a0 a1 a2 : Nat) → IsW v ((1 : Nat) : Int) → Calls Tryz.prog 174 #[u, v] w' fun e w'' => (∃ r, e = .returned r ∧ IsW r (k : Int)) ∧ Ext w' w'') := fun u v w' hu hv => rootw_det _ 1 k u v w' hk hu hv (by omega) (by omega) (by rw [Nat.div_one]; omega) (by omega)
  have HW : Hid (∀ u w', IsW u (k : Int) → Calls Tryz.prog 96 #[u] w' fun e w'' => e = .returned (.tuple #[.int .i64 (fitR k).1, .int .i64 (fitR k).2]) ∧ Ext w' w'') := fun u w' hu => wordw_any _ u w' hu (by unfold InW; omega)
  clear g0 g1 g2 hl kb hk h
  generalize sq3 a0 a1 a2 = D at *
  generalize (fitR (k : Int)).1 = o1 at *
  generalize (fitR (k : Int)).2 = o2 at *
  go_enter Tryz.func142, Tryz.ntmps142
  go_wp2_with fail
  refine (HS.out _).mono ?_
  rintro e w1 ⟨⟨u1, rfl, hu1⟩, x1⟩
  go_wp2_with fail
  refine (HO.out _).mono ?_
  rintro e w2 ⟨⟨u2, rfl, hu2⟩, x2⟩
  go_wp2_with fail
  refine (HR.out _ _ _ hu1 hu2).mono ?_
  rintro e w3 ⟨⟨u3, rfl, hu3⟩, x3⟩
  go_wp2_with fail
  refine (HW.out _ _ hu3).mono ?_
  rintro e w4 ⟨rfl, x4⟩
  go_wp2_with fail
  go_ret2
  exact ⟨rfl, (((Ext.trans ((Ext.refl _).alloc _) x1).trans x2).trans x3).trans x4⟩
theorem vNorm_yes (a0 a1 a2 : Int) (k : Nat) (w : World) (h : ok3 a0 a1 a2 = true) (hk : RootQ (sq3 a0 a1 a2) 1 k) :
    Calls Tryz.prog 78 #[.agg #[.int .i64 a0, .int .i64 a1, .int .i64 a2]] w fun e w' => e = .returned (.tuple #[.int .i64 (fitR k).1, .int .i64 (fitR k).2]) ∧ Ext w w' :=
  norm_yes a0 a1 a2 _ _ w (fun W n T hn => check1_yes a0 a1 a2 W n T hn h) (fun w' => length_any a0 a1 a2 k w' h hk)
theorem vNorm_no (a0 a1 a2 : Int) (w : World) (h : ok3 a0 a1 a2 = false) :
    Calls Tryz.prog 78 #[.agg #[.int .i64 a0, .int .i64 a1, .int .i64 a2]] w fun e w' => e = .returned (.tuple #[.int .i64 0, .int .i64 1]) ∧ Ext w w' :=
  norm_no a0 a1 a2 w (fun W n T hn => check1_no a0 a1 a2 W n T hn h)
end Go.Proofs.YtfmalpnlencmbaaGreat

namespace Go.Proofs.YtfmalpnlencmbaaGreat
open Go.RowKit Go.Shelf

set_option maxRecDepth 20000 in
set_option maxHeartbeats 4000000 in
theorem throughU_0 (a0 a1 a2 r0 e0 r1 e1 r2 e2 : Int) (g : Nat) (w : World) (n0 : (e0 != 0) = true)
    (H0 : Hid (∀ w', Ext w w' → Calls Tryz.prog 140 #[.int .i64 a0, .pointer (some ⟨g, 0, none⟩)] w' fun e w'' => e = .returned (.tuple #[.int .i64 r0, .int .i64 e0]) ∧ Ext w' w''))
    (_H1 : Hid (∀ w', Ext w w' → Calls Tryz.prog 140 #[.int .i64 a1, .pointer (some ⟨g, 0, none⟩)] w' fun e w'' => e = .returned (.tuple #[.int .i64 r1, .int .i64 e1]) ∧ Ext w' w''))
    (_H2 : Hid (∀ w', Ext w w' → Calls Tryz.prog 140 #[.int .i64 a2, .pointer (some ⟨g, 0, none⟩)] w' fun e w'' => e = .returned (.tuple #[.int .i64 r2, .int .i64 e2]) ∧ Ext w' w'')) :
    Calls Tryz.prog 139 #[.agg #[.int .i64 a0, .int .i64 a1, .int .i64 a2], .func (.func 140) #[] #[.pointer (some ⟨g, 0, none⟩)]] w fun e w' => e = .returned (.tuple #[.agg #[.int .i64 0, .int .i64 0, .int .i64 0], .int .i64 e0]) ∧ Ext w w' := by
  have i0 : ∀ w : World, (Instr.index 103 (.agg #[.int .i64 a0, .int .i64 a1, .int .i64 a2]) (.int .i64 0)).run Tryz.prog w = .ok (.int .i64 a0) w := fun _ => by kernel_rfl
  go_enter Tryz.func139, Tryz.ntmps139
  go_wp2_with fail
  refine wp_loop_rounds 4 ?_
  rw [rounds_succ]
  go_wp2_with fail
  refine (H0.out _ (by repeat (first | with_reducible assumption | with_reducible exact Ext.refl _ | with_reducible refine Ext.drew ?_ | with_reducible refine Ext.drewN ?_ _ | with_reducible refine Ext.alloc ?_ _ | with_reducible refine Ext.set ?_ (by first | exact Nat.le_refl _ | (dsimp only; omega) | (simp; done)) _))).mono ?_
  rintro e w1 ⟨rfl, x1⟩
  have MM1 : Hid (H3 w1 (w.heap.size + 1 + 1) (.int .i64 0) (.int .i64 0) (.int .i64 0)) := (h3_at (by simp)).ext x1
  have RR1 : Hid (H3 w1 (w.heap.size + 1) (.int .i64 0) (.int .i64 0) (.int .i64 0)) := (H3.alloc (h3_at (by simp)) _).ext x1
  have X1 : Ext w w1 := Ext.trans (by repeat (first | with_reducible assumption | with_reducible exact Ext.refl _ | with_reducible refine Ext.drew ?_ | with_reducible refine Ext.drewN ?_ _ | with_reducible refine Ext.alloc ?_ _ | with_reducible refine Ext.set ?_ (by first | exact Nat.le_refl _ | (dsimp only; omega) | (simp; done)) _)) x1
  clear x1
  obtain ⟨m0, m1, m2, m3, m4, m5, m6⟩ := MM1.out
  obtain ⟨q0, q1, q2, q3, q4, q5, q6⟩ := RR1.out
  go_wp2_with fail
  exact bodyPost_ret (v := .tuple #[.agg #[.int .i64 0, .int .i64 0, .int .i64 0], .int .i64 e0]) (by simp [results, Tryz.results139, go_sem, q0, q1, q2]) rfl ⟨rfl, by repeat (first | with_reducible assumption | with_reducible exact Ext.refl _ | with_reducible refine Ext.drew ?_ | with_reducible refine Ext.drewN ?_ _ | with_reducible refine Ext.alloc ?_ _ | with_reducible refine Ext.set ?_ (by first | exact Nat.le_refl _ | (dsimp only; omega) | (simp; done)) _)⟩

set_option maxRecDepth 20000 in
set_option maxHeartbeats 4000000 in
theorem throughU_1 (a0 a1 a2 r0 e0 r1 e1 r2 e2 : Int) (g : Nat) (w : World) (k0 : e0 = 0) (n1 : (e1 != 0) = true)
    (H0 : Hid (∀ w', Ext w w' → Calls Tryz.prog 140 #[.int .i64 a0, .pointer (some ⟨g, 0, none⟩)] w' fun e w'' => e = .returned (.tuple #[.int .i64 r0, .int .i64 e0]) ∧ Ext w' w''))
    (H1 : Hid (∀ w', Ext w w' → Calls Tryz.prog 140 #[.int .i64 a1, .pointer (some ⟨g, 0, none⟩)] w' fun e w'' => e = .returned (.tuple #[.int .i64 r1, .int .i64 e1]) ∧ Ext w' w''))
    (_H2 : Hid (∀ w', Ext w w' → Calls Tryz.prog 140 #[.int .i64 a2, .pointer (some ⟨g, 0, none⟩)] w' fun e w'' => e = .returned (.tuple #[.int .i64 r2, .int .i64 e2]) ∧ Ext w' w'')) :
    Calls Tryz.prog 139 #[.agg #[.int .i64 a0, .int .i64 a1, .int .i64 a2], .func (.func 140) #[] #[.pointer (some ⟨g, 0, none⟩)]] w fun e w' => e = .returned (.tuple #[.agg #[.int .i64 0, .int .i64 0, .int .i64 0], .int .i64 e1]) ∧ Ext w w' := by
  have i0 : ∀ w : World, (Instr.index 103 (.agg #[.int .i64 a0, .int .i64 a1, .int .i64 a2]) (.int .i64 0)).run Tryz.prog w = .ok (.int .i64 a0) w := fun _ => by kernel_rfl
  have i1 : ∀ w : World, (Instr.index 103 (.agg #[.int .i64 a0, .int .i64 a1, .int .i64 a2]) (.int .i64 1)).run Tryz.prog w = .ok (.int .i64 a1) w := fun _ => by kernel_rfl
  subst k0
  go_enter Tryz.func139, Tryz.ntmps139
  go_wp2_with fail
  refine wp_loop_rounds 4 ?_
  rw [rounds_succ]
  go_wp2_with fail
  refine (H0.out _ (by repeat (first | with_reducible assumption | with_reducible exact Ext.refl _ | with_reducible refine Ext.drew ?_ | with_reducible refine Ext.drewN ?_ _ | with_reducible refine Ext.alloc ?_ _ | with_reducible refine Ext.set ?_ (by first | exact Nat.le_refl _ | (dsimp only; omega) | (simp; done)) _))).mono ?_
  rintro e w1 ⟨rfl, x1⟩
  have MM1 : Hid (H3 w1 (w.heap.size + 1 + 1) (.int .i64 0) (.int .i64 0) (.int .i64 0)) := (h3_at (by simp)).ext x1
  have RR1 : Hid (H3 w1 (w.heap.size + 1) (.int .i64 0) (.int .i64 0) (.int .i64 0)) := (H3.alloc (h3_at (by simp)) _).ext x1
  have X1 : Ext w w1 := Ext.trans (by repeat (first | with_reducible assumption | with_reducible exact Ext.refl _ | with_reducible refine Ext.drew ?_ | with_reducible refine Ext.drewN ?_ _ | with_reducible refine Ext.alloc ?_ _ | with_reducible refine Ext.set ?_ (by first | exact Nat.le_refl _ | (dsimp only; omega) | (simp; done)) _)) x1
  clear x1
  obtain ⟨m0, m1, m2, m3, m4, m5, m6⟩ := MM1.out
  obtain ⟨q0, q1, q2, q3, q4, q5, q6⟩ := RR1.out
  go_wp2_with fail
  rw [rounds_succ]
  go_wp2_with fail
  refine (H1.out _ (by repeat (first | with_reducible assumption | with_reducible exact Ext.refl _ | with_reducible refine Ext.drew ?_ | with_reducible refine Ext.drewN ?_ _ | with_reducible refine Ext.alloc ?_ _ | with_reducible refine Ext.set ?_ (by first | exact Nat.le_refl _ | (dsimp only; omega) | (simp; done)) _))).mono ?_
  rintro e w2 ⟨rfl, x2⟩
  have MM2 : Hid (H3 w2 (w.heap.size + 1 + 1) (.int .i64 r0) (.int .i64 0) (.int .i64 0)) := (H3.set0 MM1.out _).ext x2
  have RR2 : Hid (H3 w2 (w.heap.size + 1) (.int .i64 0) (.int .i64 0) (.int .i64 0)) := (H3.farA RR1.out (by omega)).ext x2
  have X2 : Ext w w2 := Ext.trans (by repeat (first | with_reducible assumption | with_reducible exact Ext.refl _ | with_reducible refine Ext.drew ?_ | with_reducible refine Ext.drewN ?_ _ | with_reducible refine Ext.alloc ?_ _ | with_reducible refine Ext.set ?_ (by first | exact Nat.le_refl _ | (dsimp only; omega) | (simp; done)) _)) x2
  clear m0 m1 m2 m3 m4 m5 m6 q0 q1 q2 q3 q4 q5 q6 X1
  clear x2
  obtain ⟨m0, m1, m2, m3, m4, m5, m6⟩ := MM2.out
  obtain ⟨q0, q1, q2, q3, q4, q5, q6⟩ := RR2.out
  go_wp2_with fail
  exact bodyPost_ret (v := .tuple #[.agg #[.int .i64 0, .int .i64 0, .int .i64 0], .int .i64 e1]) (by simp [results, Tryz.results139, go_sem, q0, q1, q2]) rfl ⟨rfl, by repeat (first | with_reducible assumption | with_reducible exact Ext.refl _ | with_reducible refine Ext.drew ?_ | with_reducible refine Ext.drewN ?_ _ | with_reducible refine Ext.alloc ?_ _ | with_reducible refine Ext.set ?_ (by first | exact Nat.le_refl _ | (dsimp only; omega) | (simp; done)) _)⟩

set_option maxRecDepth 20000 in
set_option maxHeartbeats 4000000 in
theorem throughU_2 (a0 a1 a2 r0 e0 r1 e1 r2 e2 : Int) (g : Nat) (w : World) (k0 : e0 = 0) (k1 : e1 = 0) (n2 : (e2 != 0) = true)
    (H0 : Hid (∀ w', Ext w w' → Calls Tryz.prog 140 #[.int .i64 a0, .pointer (some ⟨g, 0, none⟩)] w' fun e w'' => e = .returned (.tuple #[.int .i64 r0, .int .i64 e0]) ∧ Ext w' w''))
    (H1 : Hid (∀ w', Ext w w' → Calls Tryz.prog 140 #[.int .i64 a1, .pointer (some ⟨g, 0, none⟩)] w' fun e w'' => e = .returned (.tuple #[.int .i64 r1, .int .i64 e1]) ∧ Ext w' w''))
    (H2 : Hid (∀ w', Ext w w' → Calls Tryz.prog 140 #[.int .i64 a2, .pointer (some ⟨g, 0, none⟩)] w' fun e w'' => e = .returned (.tuple #[.int .i64 r2, .int .i64 e2]) ∧ Ext w' w'')) :
    Calls Tryz.prog 139 #[.agg #[.int .i64 a0, .int .i64 a1, .int .i64 a2], .func (.func 140) #[] #[.pointer (some ⟨g, 0, none⟩)]] w fun e w' => e = .returned (.tuple #[.agg #[.int .i64 0, .int .i64 0, .int .i64 0], .int .i64 e2]) ∧ Ext w w' := by
  have i0 : ∀ w : World, (Instr.index 103 (.agg #[.int .i64 a0, .int .i64 a1, .int .i64 a2]) (.int .i64 0)).run Tryz.prog w = .ok (.int .i64 a0) w := fun _ => by kernel_rfl
  have i1 : ∀ w : World, (Instr.index 103 (.agg #[.int .i64 a0, .int .i64 a1, .int .i64 a2]) (.int .i64 1)).run Tryz.prog w = .ok (.int .i64 a1) w := fun _ => by kernel_rfl
  have i2 : ∀ w : World, (Instr.index 103 (.agg #[.int .i64 a0, .int .i64 a1, .int .i64 a2]) (.int .i64 2)).run Tryz.prog w = .ok (.int .i64 a2) w := fun _ => by kernel_rfl
  subst k0
  subst k1
  go_enter Tryz.func139, Tryz.ntmps139
  go_wp2_with fail
  refine wp_loop_rounds 4 ?_
  rw [rounds_succ]
  go_wp2_with fail
  refine (H0.out _ (by repeat (first | with_reducible assumption | with_reducible exact Ext.refl _ | with_reducible refine Ext.drew ?_ | with_reducible refine Ext.drewN ?_ _ | with_reducible refine Ext.alloc ?_ _ | with_reducible refine Ext.set ?_ (by first | exact Nat.le_refl _ | (dsimp only; omega) | (simp; done)) _))).mono ?_
  rintro e w1 ⟨rfl, x1⟩
  have MM1 : Hid (H3 w1 (w.heap.size + 1 + 1) (.int .i64 0) (.int .i64 0) (.int .i64 0)) := (h3_at (by simp)).ext x1
  have RR1 : Hid (H3 w1 (w.heap.size + 1) (.int .i64 0) (.int .i64 0) (.int .i64 0)) := (H3.alloc (h3_at (by simp)) _).ext x1
  have X1 : Ext w w1 := Ext.trans (by repeat (first | with_reducible assumption | with_reducible exact Ext.refl _ | with_reducible refine Ext.drew ?_ | with_reducible refine Ext.drewN ?_ _ | with_reducible refine Ext.alloc ?_ _ | with_reducible refine Ext.set ?_ (by first | exact Nat.le_refl _ | (dsimp only; omega) | (simp; done)) _)) x1
  clear x1
  obtain ⟨m0, m1, m2, m3, m4, m5, m6⟩ := MM1.out
  obtain ⟨q0, q1, q2, q3, q4, q5, q6⟩ := RR1.out
  go_wp2_with fail
  rw [rounds_succ]
  go_wp2_with fail
  refine (H1.out _ (by repeat (first | with_reducible assumption | with_reducible exact Ext.refl _ | with_reducible refine Ext.drew ?_ | with_reducible refine Ext.drewN ?_ _ | with_reducible refine Ext.alloc ?_ _ | with_reducible refine Ext.set ?_ (by first | exact Nat.le_refl _ | (dsimp only; omega) | (simp; done)) _))).mono ?_
  rintro e w2 ⟨rfl, x2⟩
  have MM2 : Hid (H3 w2 (w.heap.size + 1 + 1) (.int .i64 r0) (.int .i64 0) (.int .i64 0)) := (H3.set0 MM1.out _).ext x2
  have RR2 : Hid (H3 w2 (w.heap.size + 1) (.int .i64 0) (.int .i64 0) (.int .i64 0)) := (H3.farA RR1.out (by omega)).ext x2
  have X2 : Ext w w2 := Ext.trans (by repeat (first | with_reducible assumption | with_reducible exact Ext.refl _ | with_reducible refine Ext.drew ?_ | with_reducible refine Ext.drewN ?_ _ | with_reducible refine Ext.alloc ?_ _ | with_reducible refine Ext.set ?_ (by first | exact Nat.le_refl _ | (dsimp only; omega) | (simp; done)) _)) x2
  clear m0 m1 m2 m3 m4 m5 m6 q0 q1 q2 q3 q4 q5 q6 X1
  clear x2
  obtain ⟨m0, m1, m2, m3, m4, m5, m6⟩ := MM2.out
  obtain ⟨q0, q1, q2, q3, q4, q5, q6⟩ := RR2.out
  go_wp2_with fail
  rw [rounds_succ]
  go_wp2_with fail
  refine (H2.out _ (by repeat (first | with_reducible assumption | with_reducible exact Ext.refl _ | with_reducible refine Ext.drew ?_ | with_reducible refine Ext.drewN ?_ _ | with_reducible refine Ext.alloc ?_ _ | with_reducible refine Ext.set ?_ (by first | exact Nat.le_refl _ | (dsimp only; omega) | (simp; done)) _))).mono ?_
  rintro e w3 ⟨rfl, x3⟩
  have MM3 : Hid (H3 w3 (w.heap.size + 1 + 1) (.int .i64 r0) (.int .i64 r1) (.int .i64 0)) := (H3.set1 MM2.out _).ext x3
  have RR3 : Hid (H3 w3 (w.heap.size + 1) (.int .i64 0) (.int .i64 0) (.int .i64 0)) := (H3.farA RR2.out (by omega)).ext x3
  have X3 : Ext w w3 := Ext.trans (by repeat (first | with_reducible assumption | with_reducible exact Ext.refl _ | with_reducible refine Ext.drew ?_ | with_reducible refine Ext.drewN ?_ _ | with_reducible refine Ext.alloc ?_ _ | with_reducible refine Ext.set ?_ (by first | exact Nat.le_refl _ | (dsimp only; omega) | (simp; done)) _)) x3
  clear m0 m1 m2 m3 m4 m5 m6 q0 q1 q2 q3 q4 q5 q6 X2
  clear x3
  obtain ⟨m0, m1, m2, m3, m4, m5, m6⟩ := MM3.out
  obtain ⟨q0, q1, q2, q3, q4, q5, q6⟩ := RR3.out
  go_wp2_with fail
  exact bodyPost_ret (v := .tuple #[.agg #[.int .i64 0, .int .i64 0, .int .i64 0], .int .i64 e2]) (by simp [results, Tryz.results139, go_sem, q0, q1, q2]) rfl ⟨rfl, by repeat (first | with_reducible assumption | with_reducible exact Ext.refl _ | with_reducible refine Ext.drew ?_ | with_reducible refine Ext.drewN ?_ _ | with_reducible refine Ext.alloc ?_ _ | with_reducible refine Ext.set ?_ (by first | exact Nat.le_refl _ | (dsimp only; omega) | (simp; done)) _)⟩

set_option maxRecDepth 20000 in
set_option maxHeartbeats 4000000 in
theorem throughU_3 (a0 a1 a2 r0 e0 r1 e1 r2 e2 : Int) (g : Nat) (w : World) (k0 : e0 = 0) (k1 : e1 = 0) (k2 : e2 = 0)
    (H0 : Hid (∀ w', Ext w w' → Calls Tryz.prog 140 #[.int .i64 a0, .pointer (some ⟨g, 0, none⟩)] w' fun e w'' => e = .returned (.tuple #[.int .i64 r0, .int .i64 e0]) ∧ Ext w' w''))
    (H1 : Hid (∀ w', Ext w w' → Calls Tryz.prog 140 #[.int .i64 a1, .pointer (some ⟨g, 0, none⟩)] w' fun e w'' => e = .returned (.tuple #[.int .i64 r1, .int .i64 e1]) ∧ Ext w' w''))
    (H2 : Hid (∀ w', Ext w w' → Calls Tryz.prog 140 #[.int .i64 a2, .pointer (some ⟨g, 0, none⟩)] w' fun e w'' => e = .returned (.tuple #[.int .i64 r2, .int .i64 e2]) ∧ Ext w' w'')) :
    Calls Tryz.prog 139 #[.agg #[.int .i64 a0, .int .i64 a1, .int .i64 a2], .func (.func 140) #[] #[.pointer (some ⟨g, 0, none⟩)]] w fun e w' => e = .returned (.tuple #[.agg #[.int .i64 r0, .int .i64 r1, .int .i64 r2], .int .i64 0]) ∧ Ext w w' := by
  have i0 : ∀ w : World, (Instr.index 103 (.agg #[.int .i64 a0, .int .i64 a1, .int .i64 a2]) (.int .i64 0)).run Tryz.prog w = .ok (.int .i64 a0) w := fun _ => by kernel_rfl
  have i1 : ∀ w : World, (Instr.index 103 (.agg #[.int .i64 a0, .int .i64 a1, .int .i64 a2]) (.int .i64 1)).run Tryz.prog w = .ok (.int .i64 a1) w := fun _ => by kernel_rfl
  have i2 : ∀ w : World, (Instr.index 103 (.agg #[.int .i64 a0, .int .i64 a1, .int .i64 a2]) (.int .i64 2)).run Tryz.prog w = .ok (.int .i64 a2) w := fun _ => by kernel_rfl
  subst k0
  subst k1
  subst k2
  go_enter Tryz.func139, Tryz.ntmps139
  go_wp2_with fail
  refine wp_loop_rounds 4 ?_
  rw [rounds_succ]
  go_wp2_with fail
  refine (H0.out _ (by repeat (first | with_reducible assumption | with_reducible exact Ext.refl _ | with_reducible refine Ext.drew ?_ | with_reducible refine Ext.drewN ?_ _ | with_reducible refine Ext.alloc ?_ _ | with_reducible refine Ext.set ?_ (by first | exact Nat.le_refl _ | (dsimp only; omega) | (simp; done)) _))).mono ?_
  rintro e w1 ⟨rfl, x1⟩
  have MM1 : Hid (H3 w1 (w.heap.size + 1 + 1) (.int .i64 0) (.int .i64 0) (.int .i64 0)) := (h3_at (by simp)).ext x1
  have RR1 : Hid (H3 w1 (w.heap.size + 1) (.int .i64 0) (.int .i64 0) (.int .i64 0)) := (H3.alloc (h3_at (by simp)) _).ext x1
  have X1 : Ext w w1 := Ext.trans (by repeat (first | with_reducible assumption | with_reducible exact Ext.refl _ | with_reducible refine Ext.drew ?_ | with_reducible refine Ext.drewN ?_ _ | with_reducible refine Ext.alloc ?_ _ | with_reducible refine Ext.set ?_ (by first | exact Nat.le_refl _ | (dsimp only; omega) | (simp; done)) _)) x1
  clear x1
  obtain ⟨m0, m1, m2, m3, m4, m5, m6⟩ := MM1.out
  obtain ⟨q0, q1, q2, q3, q4, q5, q6⟩ := RR1.out
  go_wp2_with fail
  rw [rounds_succ]
  go_wp2_with fail
  refine (H1.out _ (by repeat (first | with_reducible assumption | with_reducible exact Ext.refl _ | with_reducible refine Ext.drew ?_ | with_reducible refine Ext.drewN ?_ _ | with_reducible refine Ext.alloc ?_ _ | with_reducible refine Ext.set ?_ (by first | exact Nat.le_refl _ | (dsimp only; omega) | (simp; done)) _))).mono ?_
  rintro e w2 ⟨rfl, x2⟩
  have MM2 : Hid (H3 w2 (w.heap.size + 1 + 1) (.int .i64 r0) (.int .i64 0) (.int .i64 0)) := (H3.set0 MM1.out _).ext x2
  have RR2 : Hid (H3 w2 (w.heap.size + 1) (.int .i64 0) (.int .i64 0) (.int .i64 0)) := (H3.farA RR1.out (by omega)).ext x2
  have X2 : Ext w w2 := Ext.trans (by repeat (first | with_reducible assumption | with_reducible exact Ext.refl _ | with_reducible refine Ext.drew ?_ | with_reducible refine Ext.drewN ?_ _ | with_reducible refine Ext.alloc ?_ _ | with_reducible refine Ext.set ?_ (by first | exact Nat.le_refl _ | (dsimp only; omega) | (simp; done)) _)) x2
  clear m0 m1 m2 m3 m4 m5 m6 q0 q1 q2 q3 q4 q5 q6 X1
  clear x2
  obtain ⟨m0, m1, m2, m3, m4, m5, m6⟩ := MM2.out
  obtain ⟨q0, q1, q2, q3, q4, q5, q6⟩ := RR2.out
  go_wp2_with fail
  rw [rounds_succ]
  go_wp2_with fail
  refine (H2.out _ (by repeat (first | with_reducible assumption | with_reducible exact Ext.refl _ | with_reducible refine Ext.drew ?_ | with_reducible refine Ext.drewN ?_ _ | with_reducible refine Ext.alloc ?_ _ | with_reducible refine Ext.set ?_ (by first | exact Nat.le_refl _ | (dsimp only; omega) | (simp; done)) _))).mono ?_
  rintro e w3 ⟨rfl, x3⟩
  have MM3 : Hid (H3 w3 (w.heap.size + 1 + 1) (.int .i64 r0) (.int .i64 r1) (.int .i64 0)) := (H3.set1 MM2.out _).ext x3
  have RR3 : Hid (H3 w3 (w.heap.size + 1) (.int .i64 0) (.int .i64 0) (.int .i64 0)) := (H3.farA RR2.out (by omega)).ext x3
  have X3 : Ext w w3 := Ext.trans (by repeat (first | with_reducible assumption | with_reducible exact Ext.refl _ | with_reducible refine Ext.drew ?_ | with_reducible refine Ext.drewN ?_ _ | with_reducible refine Ext.alloc ?_ _ | with_reducible refine Ext.set ?_ (by first | exact Nat.le_refl _ | (dsimp only; omega) | (simp; done)) _)) x3
  clear m0 m1 m2 m3 m4 m5 m6 q0 q1 q2 q3 q4 q5 q6 X2
  clear x3
  obtain ⟨m0, m1, m2, m3, m4, m5, m6⟩ := MM3.out
  obtain ⟨q0, q1, q2, q3, q4, q5, q6⟩ := RR3.out
  go_wp2_with fail
  rw [rounds_succ]
  go_wp2_with fail
  exact bodyPost_ret (v := .tuple #[.agg #[.int .i64 r0, .int .i64 r1, .int .i64 r2], .int .i64 0]) (by simp [results, Tryz.results139, go_sem, q0, q1, q2]) rfl ⟨rfl, by repeat (first | with_reducible assumption | with_reducible exact Ext.refl _ | with_reducible refine Ext.drew ?_ | with_reducible refine Ext.drewN ?_ _ | with_reducible refine Ext.alloc ?_ _ | with_reducible refine Ext.set ?_ (by first | exact Nat.le_refl _ | (dsimp only; omega) | (simp; done)) _)⟩

theorem throughU_any (a0 a1 a2 r0 e0 r1 e1 r2 e2 : Int) (g : Nat) (w : World)
    (H0 : Hid (∀ w', Ext w w' → Calls Tryz.prog 140 #[.int .i64 a0, .pointer (some ⟨g, 0, none⟩)] w' fun e w'' => e = .returned (.tuple #[.int .i64 r0, .int .i64 e0]) ∧ Ext w' w''))
    (H1 : Hid (∀ w', Ext w w' → Calls Tryz.prog 140 #[.int .i64 a1, .pointer (some ⟨g, 0, none⟩)] w' fun e w'' => e = .returned (.tuple #[.int .i64 r1, .int .i64 e1]) ∧ Ext w' w''))
    (H2 : Hid (∀ w', Ext w w' → Calls Tryz.prog 140 #[.int .i64 a2, .pointer (some ⟨g, 0, none⟩)] w' fun e w'' => e = .returned (.tuple #[.int .i64 r2, .int .i64 e2]) ∧ Ext w' w'')) :
    Calls Tryz.prog 139 #[.agg #[.int .i64 a0, .int .i64 a1, .int .i64 a2], .func (.func 140) #[] #[.pointer (some ⟨g, 0, none⟩)]] w fun e w' => e = .returned (thr r0 e0 r1 e1 r2 e2) ∧ Ext w w' := by
  unfold thr
  by_cases n0 : e0 = 0
  · rw [if_pos n0]
    by_cases n1 : e1 = 0
    · rw [if_pos n1]
      by_cases n2 : e2 = 0
      · rw [if_pos n2]
        exact throughU_3 a0 a1 a2 r0 e0 r1 e1 r2 e2 g w n0 n1 n2 H0 H1 H2
      · rw [if_neg n2]
        exact throughU_2 a0 a1 a2 r0 e0 r1 e1 r2 e2 g w n0 n1 (by simpa using n2) H0 H1 H2
    · rw [if_neg n1]
      exact throughU_1 a0 a1 a2 r0 e0 r1 e1 r2 e2 g w n0 (by simpa using n1) H0 H1 H2
  · rw [if_neg n0]
    exact throughU_0 a0 a1 a2 r0 e0 r1 e1 r2 e2 g w (by simpa using n0) H0 H1 H2
end Go.Proofs.YtfmalpnlencmbaaGreat
