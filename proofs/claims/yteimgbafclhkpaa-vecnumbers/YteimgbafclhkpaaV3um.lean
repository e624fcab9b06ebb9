/- vec: through. -/
import Derived.Test.YteimgbafclhkpaaMg6
namespace Go.Proofs.Yteimgbafclhkpaa
open Go.RowKit Go.Shelf

set_option maxRecDepth 20000 in
set_option maxHeartbeats 4000000 in
theorem throughU_0 (a0 a1 a2 r0 e0 r1 e1 r2 e2 : Int) (g : Nat) (w : World) (n0 : (e0 != 0) = true)
    (H0 : Hid (∀ w', Ext w w' → Calls Try.prog 33 #[.int .i64 a0, .pointer (some ⟨g, 0, none⟩)] w' fun e w'' => e = .returned (.tuple #[.int .i64 r0, .int .i64 e0]) ∧ Ext w' w''))
    (_H1 : Hid (∀ w', Ext w w' → Calls Try.prog 33 #[.int .i64 a1, .pointer (some ⟨g, 0, none⟩)] w' fun e w'' => e = .returned (.tuple #[.int .i64 r1, .int .i64 e1]) ∧ Ext w' w''))
    (_H2 : Hid (∀ w', Ext w w' → Calls Try.prog 33 #[.int .i64 a2, .pointer (some ⟨g, 0, none⟩)] w' fun e w'' => e = .returned (.tuple #[.int .i64 r2, .int .i64 e2]) ∧ Ext w' w'')) :
    Calls Try.prog 32 #[.agg #[.int .i64 a0, .int .i64 a1, .int .i64 a2], .func (.func 33) #[] #[.pointer (some ⟨g, 0, none⟩)]] w fun e w' => e = .returned (.tuple #[.agg #[.int .i64 0, .int .i64 0, .int .i64 0], .int .i64 e0]) ∧ Ext w w' := by
  have i0 : ∀ w : World, (Instr.index 46 (.agg #[.int .i64 a0, .int .i64 a1, .int .i64 a2]) (.int .i64 0)).run Try.prog w = .ok (.int .i64 a0) w := fun _ => by kernel_rfl
  go_enter Try.func32, Try.ntmps32
  go_wp2_with fail
  refine wp_loop_rounds 4 ?_
  rw [rounds_succ]
  go_wp2_with fail
  refine (H0.out _ (by repeat (first | with_reducible assumption | with_reducible exact Ext.refl _ | with_reducible refine Ext.drew ?_ | with_reducible refine Ext.drewN ?_ _ | with_reducible refine Ext.alloc ?_ _ | with_reducible refine Ext.set ?_ (by first | exact Nat.le_refl _ | (dsimp only; omega) | (simp; done)) _))).mono ?_
  rintro e w1 ⟨rfl, x1⟩
  have MM1 : Hid (H3 w1 (w.heap.size + 1 + 1) (.int .i64 0) (.int .i64 0) (.int .i64 0)) := (h3_at (by simp)).ext x1
  have RR1 : Hid (H3 w1 (w.heap.size + 1) (.int .i64 0) (.int .i64 0) (.int .i64 0)) := (H3.alloc (h3_at (by simp)) _).ext x1
  have X1 : Ext w w1 := Ext.trans (by repeat (first | with_reducible assumption | with_reducible exact Ext.refl _ | with_reducible refine Ext.drew ?_ | with_reducible refine Ext.drewN ?_ _ | with_reducible refine Ext.alloc ?_ _ | with_reducible refine Ext.set ?_ (by first | exact Nat.le_refl _ | (dsimp only; omega) | (simp; done)) _)) x1
  clear x1
  obtain ⟨m0, m1, m2, m3, m4, m5, m6⟩ := MM1.out
  obtain ⟨q0, q1, q2, q3, q4, q5, q6⟩ := RR1.out
  go_wp2_with fail
  exact bodyPost_ret (v := .tuple #[.agg #[.int .i64 0, .int .i64 0, .int .i64 0], .int .i64 e0]) (by simp [results, Try.results32, go_sem, q0, q1, q2]) rfl ⟨rfl, by repeat (first | with_reducible assumption | with_reducible exact Ext.refl _ | with_reducible refine Ext.drew ?_ | with_reducible refine Ext.drewN ?_ _ | with_reducible refine Ext.alloc ?_ _ | with_reducible refine Ext.set ?_ (by first | exact Nat.le_refl _ | (dsimp only; omega) | (simp; done)) _)⟩

set_option maxRecDepth 20000 in
set_option maxHeartbeats 4000000 in
theorem throughU_1 (a0 a1 a2 r0 e0 r1 e1 r2 e2 : Int) (g : Nat) (w : World) (k0 : e0 = 0) (n1 : (e1 != 0) = true)
    (H0 : Hid (∀ w', Ext w w' → Calls Try.prog 33 #[.int .i64 a0, .pointer (some ⟨g, 0, none⟩)] w' fun e w'' => e = .returned (.tuple #[.int .i64 r0, .int .i64 e0]) ∧ Ext w' w''))
    (H1 : Hid (∀ w', Ext w w' → Calls Try.prog 33 #[.int .i64 a1, .pointer (some ⟨g, 0, none⟩)] w' fun e w'' => e = .returned (.tuple #[.int .i64 r1, .int .i64 e1]) ∧ Ext w' w''))
    (_H2 : Hid (∀ w', Ext w w' → Calls Try.prog 33 #[.int .i64 a2, .pointer (some ⟨g, 0, none⟩)] w' fun e w'' => e = .returned (.tuple #[.int .i64 r2, .int .i64 e2]) ∧ Ext w' w'')) :
    Calls Try.prog 32 #[.agg #[.int .i64 a0, .int .i64 a1, .int .i64 a2], .func (.func 33) #[] #[.pointer (some ⟨g, 0, none⟩)]] w fun e w' => e = .returned (.tuple #[.agg #[.int .i64 0, .int .i64 0, .int .i64 0], .int .i64 e1]) ∧ Ext w w' := by
  have i0 : ∀ w : World, (Instr.index 46 (.agg #[.int .i64 a0, .int .i64 a1, .int .i64 a2]) (.int .i64 0)).run Try.prog w = .ok (.int .i64 a0) w := fun _ => by kernel_rfl
  have i1 : ∀ w : World, (Instr.index 46 (.agg #[.int .i64 a0, .int .i64 a1, .int .i64 a2]) (.int .i64 1)).run Try.prog w = .ok (.int .i64 a1) w := fun _ => by kernel_rfl
  subst k0
  go_enter Try.func32, Try.ntmps32
  go_wp2_with fail
  refine wp_loop_rounds 4 ?_
  rw [rounds_succ]
  go_wp2_with fail
  refine (H0.out _ (by repeat (first | with_reducible assumption | with_reducible exact Ext.refl _ | with_reducible refine Ext.drew ?_ | with_reducible refine Ext.drewN ?_ _ | with_reducible refine Ext.alloc ?_ _ | with_reducible refine Ext.set ?_ (by first | exact Nat.le_refl _ | (dsimp only; omega) | (simp; done)) _))).mono ?_
  rintro e w1 ⟨rfl, x1⟩
  have MM1 : Hid (H3 w1 (w.heap.size + 1 + 1) (.int .i64 0) (.int .i64 0) (.int .i64 0)) := (h3_at (by simp)).ext x1
  have RR1 : Hid (H3 w1 (w.heap.size + 1) (.int .i64 0) (.int .i64 0) (.int .i64 0)) := (H3.alloc (h3_at (by simp)) _).ext x1
  have X1 : Ext w w1 := Ext.trans (by repeat (first | with_reducible assumption | with_reducible exact Ext.refl _ | with_reducible refine Ext.drew ?_ | with_reducible refine Ext.drewN ?_ _ | with_reducible refine Ext.alloc ?_ _ | with_reducible refine Ext.set ?_ (by first | exact Nat.le_refl _ | (dsimp only; omega) | (simp; done)) _)) x1
  clear x1
  obtain ⟨m0, m1, m2, m3, m4, m5, m6⟩ := MM1.out
  obtain ⟨q0, q1, q2, q3, q4, q5, q6⟩ := RR1.out
  go_wp2_with fail
  rw [rounds_succ]
  go_wp2_with fail
  refine (H1.out _ (by repeat (first | with_reducible assumption | with_reducible exact Ext.refl _ | with_reducible refine Ext.drew ?_ | with_reducible refine Ext.drewN ?_ _ | with_reducible refine Ext.alloc ?_ _ | with_reducible refine Ext.set ?_ (by first | exact Nat.le_refl _ | (dsimp only; omega) | (simp; done)) _))).mono ?_
  rintro e w2 ⟨rfl, x2⟩
  have MM2 : Hid (H3 w2 (w.heap.size + 1 + 1) (.int .i64 r0) (.int .i64 0) (.int .i64 0)) := (H3.set0 MM1.out _).ext x2
  have RR2 : Hid (H3 w2 (w.heap.size + 1) (.int .i64 0) (.int .i64 0) (.int .i64 0)) := (H3.farA RR1.out (by omega)).ext x2
  have X2 : Ext w w2 := Ext.trans (by repeat (first | with_reducible assumption | with_reducible exact Ext.refl _ | with_reducible refine Ext.drew ?_ | with_reducible refine Ext.drewN ?_ _ | with_reducible refine Ext.alloc ?_ _ | with_reducible refine Ext.set ?_ (by first | exact Nat.le_refl _ | (dsimp only; omega) | (simp; done)) _)) x2
  clear m0 m1 m2 m3 m4 m5 m6 q0 q1 q2 q3 q4 q5 q6 X1
  clear x2
  obtain ⟨m0, m1, m2, m3, m4, m5, m6⟩ := MM2.out
  obtain ⟨q0, q1, q2, q3, q4, q5, q6⟩ := RR2.out
  go_wp2_with fail
  exact bodyPost_ret (v := .tuple #[.agg #[.int .i64 0, .int .i64 0, .int .i64 0], .int .i64 e1]) (by simp [results, Try.results32, go_sem, q0, q1, q2]) rfl ⟨rfl, by repeat (first | with_reducible assumption | with_reducible exact Ext.refl _ | with_reducible refine Ext.drew ?_ | with_reducible refine Ext.drewN ?_ _ | with_reducible refine Ext.alloc ?_ _ | with_reducible refine Ext.set ?_ (by first | exact Nat.le_refl _ | (dsimp only; omega) | (simp; done)) _)⟩

set_option maxRecDepth 20000 in
set_option maxHeartbeats 4000000 in
theorem throughU_2 (a0 a1 a2 r0 e0 r1 e1 r2 e2 : Int) (g : Nat) (w : World) (k0 : e0 = 0) (k1 : e1 = 0) (n2 : (e2 != 0) = true)
    (H0 : Hid (∀ w', Ext w w' → Calls Try.prog 33 #[.int .i64 a0, .pointer (some ⟨g, 0, none⟩)] w' fun e w'' => e = .returned (.tuple #[.int .i64 r0, .int .i64 e0]) ∧ Ext w' w''))
    (H1 : Hid (∀ w', Ext w w' → Calls Try.prog 33 #[.int .i64 a1, .pointer (some ⟨g, 0, none⟩)] w' fun e w'' => e = .returned (.tuple #[.int .i64 r1, .int .i64 e1]) ∧ Ext w' w''))
    (H2 : Hid (∀ w', Ext w w' → Calls Try.prog 33 #[.int .i64 a2, .pointer (some ⟨g, 0, none⟩)] w' fun e w'' => e = .returned (.tuple #[.int .i64 r2, .int .i64 e2]) ∧ Ext w' w'')) :
    Calls Try.prog 32 #[.agg #[.int .i64 a0, .int .i64 a1, .int .i64 a2], .func (.func 33) #[] #[.pointer (some ⟨g, 0, none⟩)]] w fun e w' => e = .returned (.tuple #[.agg #[.int .i64 0, .int .i64 0, .int .i64 0], .int .i64 e2]) ∧ Ext w w' := by
  have i0 : ∀ w : World, (Instr.index 46 (.agg #[.int .i64 a0, .int .i64 a1, .int .i64 a2]) (.int .i64 0)).run Try.prog w = .ok (.int .i64 a0) w := fun _ => by kernel_rfl
  have i1 : ∀ w : World, (Instr.index 46 (.agg #[.int .i64 a0, .int .i64 a1, .int .i64 a2]) (.int .i64 1)).run Try.prog w = .ok (.int .i64 a1) w := fun _ => by kernel_rfl
  have i2 : ∀ w : World, (Instr.index 46 (.agg #[.int .i64 a0, .int .i64 a1, .int .i64 a2]) (.int .i64 2)).run Try.prog w = .ok (.int .i64 a2) w := fun _ => by kernel_rfl
  subst k0
  subst k1
  go_enter Try.func32, Try.ntmps32
  go_wp2_with fail
  refine wp_loop_rounds 4 ?_
  rw [rounds_succ]
  go_wp2_with fail
  refine (H0.out _ (by repeat (first | with_reducible assumption | with_reducible exact Ext.refl _ | with_reducible refine Ext.drew ?_ | with_reducible refine Ext.drewN ?_ _ | with_reducible refine Ext.alloc ?_ _ | with_reducible refine Ext.set ?_ (by first | exact Nat.le_refl _ | (dsimp only; omega) | (simp; done)) _))).mono ?_
  rintro e w1 ⟨rfl, x1⟩
  have MM1 : Hid (H3 w1 (w.heap.size + 1 + 1) (.int .i64 0) (.int .i64 0) (.int .i64 0)) := (h3_at (by simp)).ext x1
  have RR1 : Hid (H3 w1 (w.heap.size + 1) (.int .i64 0) (.int .i64 0) (.int .i64 0)) := (H3.alloc (h3_at (by simp)) _).ext x1
  have X1 : Ext w w1 := Ext.trans (by repeat (first | with_reducible assumption | with_reducible exact Ext.refl _ | with_reducible refine Ext.drew ?_ | with_reducible refine Ext.drewN ?_ _ | with_reducible refine Ext.alloc ?_ _ | with_reducible refine Ext.set ?_ (by first | exact Nat.le_refl _ | (dsimp only; omega) | (simp; done)) _)) x1
  clear x1
  obtain ⟨m0, m1, m2, m3, m4, m5, m6⟩ := MM1.out
  obtain ⟨q0, q1, q2, q3, q4, q5, q6⟩ := RR1.out
  go_wp2_with fail
  rw [rounds_succ]
  go_wp2_with fail
  refine (H1.out _ (by repeat (first | with_reducible assumption | with_reducible exact Ext.refl _ | with_reducible refine Ext.drew ?_ | with_reducible refine Ext.drewN ?_ _ | with_reducible refine Ext.alloc ?_ _ | with_reducible refine Ext.set ?_ (by first | exact Nat.le_refl _ | (dsimp only; omega) | (simp; done)) _))).mono ?_
  rintro e w2 ⟨rfl, x2⟩
  have MM2 : Hid (H3 w2 (w.heap.size + 1 + 1) (.int .i64 r0) (.int .i64 0) (.int .i64 0)) := (H3.set0 MM1.out _).ext x2
  have RR2 : Hid (H3 w2 (w.heap.size + 1) (.int .i64 0) (.int .i64 0) (.int .i64 0)) := (H3.farA RR1.out (by omega)).ext x2
  have X2 : Ext w w2 := Ext.trans (by repeat (first | with_reducible assumption | with_reducible exact Ext.refl _ | with_reducible refine Ext.drew ?_ | with_reducible refine Ext.drewN ?_ _ | with_reducible refine Ext.alloc ?_ _ | with_reducible refine Ext.set ?_ (by first | exact Nat.le_refl _ | (dsimp only; omega) | (simp; done)) _)) x2
  clear m0 m1 m2 m3 m4 m5 m6 q0 q1 q2 q3 q4 q5 q6 X1
  clear x2
  obtain ⟨m0, m1, m2, m3, m4, m5, m6⟩ := MM2.out
  obtain ⟨q0, q1, q2, q3, q4, q5, q6⟩ := RR2.out
  go_wp2_with fail
  rw [rounds_succ]
  go_wp2_with fail
  refine (H2.out _ (by repeat (first | with_reducible assumption | with_reducible exact Ext.refl _ | with_reducible refine Ext.drew ?_ | with_reducible refine Ext.drewN ?_ _ | with_reducible refine Ext.alloc ?_ _ | with_reducible refine Ext.set ?_ (by first | exact Nat.le_refl _ | (dsimp only; omega) | (simp; done)) _))).mono ?_
  rintro e w3 ⟨rfl, x3⟩
  have MM3 : Hid (H3 w3 (w.heap.size + 1 + 1) (.int .i64 r0) (.int .i64 r1) (.int .i64 0)) := (H3.set1 MM2.out _).ext x3
  have RR3 : Hid (H3 w3 (w.heap.size + 1) (.int .i64 0) (.int .i64 0) (.int .i64 0)) := (H3.farA RR2.out (by omega)).ext x3
  have X3 : Ext w w3 := Ext.trans (by repeat (first | with_reducible assumption | with_reducible exact Ext.refl _ | with_reducible refine Ext.drew ?_ | with_reducible refine Ext.drewN ?_ _ | with_reducible refine Ext.alloc ?_ _ | with_reducible refine Ext.set ?_ (by first | exact Nat.le_refl _ | (dsimp only; omega) | (simp; done)) _)) x3
  clear m0 m1 m2 m3 m4 m5 m6 q0 q1 q2 q3 q4 q5 q6 X2
  clear x3
  obtain ⟨m0, m1, m2, m3, m4, m5, m6⟩ := MM3.out
  obtain ⟨q0, q1, q2, q3, q4, q5, q6⟩ := RR3.out
  go_wp2_with fail
  exact bodyPost_ret (v := .tuple #[.agg #[.int .i64 0, .int .i64 0, .int .i64 0], .int .i64 e2]) (by simp [results, Try.results32, go_sem, q0, q1, q2]) rfl ⟨rfl, by repeat (first | with_reducible assumption | with_reducible exact Ext.refl _ | with_reducible refine Ext.drew ?_ | with_reducible refine Ext.drewN ?_ _ | with_reducible refine Ext.alloc ?_ _ | with_reducible refine Ext.set ?_ (by first | exact Nat.le_refl _ | (dsimp only; omega) | (simp; done)) _)⟩

set_option maxRecDepth 20000 in
set_option maxHeartbeats 4000000 in
theorem throughU_3 (a0 a1 a2 r0 e0 r1 e1 r2 e2 : Int) (g : Nat) (w : World) (k0 : e0 = 0) (k1 : e1 = 0) (k2 : e2 = 0)
    (H0 : Hid (∀ w', Ext w w' → Calls Try.prog 33 #[.int .i64 a0, .pointer (some ⟨g, 0, none⟩)] w' fun e w'' => e = .returned (.tuple #[.int .i64 r0, .int .i64 e0]) ∧ Ext w' w''))
    (H1 : Hid (∀ w', Ext w w' → Calls Try.prog 33 #[.int .i64 a1, .pointer (some ⟨g, 0, none⟩)] w' fun e w'' => e = .returned (.tuple #[.int .i64 r1, .int .i64 e1]) ∧ Ext w' w''))
    (H2 : Hid (∀ w', Ext w w' → Calls Try.prog 33 #[.int .i64 a2, .pointer (some ⟨g, 0, none⟩)] w' fun e w'' => e = .returned (.tuple #[.int .i64 r2, .int .i64 e2]) ∧ Ext w' w'')) :
    Calls Try.prog 32 #[.agg #[.int .i64 a0, .int .i64 a1, .int .i64 a2], .func (.func 33) #[] #[.pointer (some ⟨g, 0, none⟩)]] w fun e w' => e = .returned (.tuple #[.agg #[.int .i64 r0, .int .i64 r1, .int .i64 r2], .int .i64 0]) ∧ Ext w w' := by
  have i0 : ∀ w : World, (Instr.index 46 (.agg #[.int .i64 a0, .int .i64 a1, .int .i64 a2]) (.int .i64 0)).run Try.prog w = .ok (.int .i64 a0) w := fun _ => by kernel_rfl
  have i1 : ∀ w : World, (Instr.index 46 (.agg #[.int .i64 a0, .int .i64 a1, .int .i64 a2]) (.int .i64 1)).run Try.prog w = .ok (.int .i64 a1) w := fun _ => by kernel_rfl
  have i2 : ∀ w : World, (Instr.index 46 (.agg #[.int .i64 a0, .int .i64 a1, .int .i64 a2]) (.int .i64 2)).run Try.prog w = .ok (.int .i64 a2) w := fun _ => by kernel_rfl
  subst k0
  subst k1
  subst k2
  go_enter Try.func32, Try.ntmps32
  go_wp2_with fail
  refine wp_loop_rounds 4 ?_
  rw [rounds_succ]
  go_wp2_with fail
  refine (H0.out _ (by repeat (first | with_reducible assumption | with_reducible exact Ext.refl _ | with_reducible refine Ext.drew ?_ | with_reducible refine Ext.drewN ?_ _ | with_reducible refine Ext.alloc ?_ _ | with_reducible refine Ext.set ?_ (by first | exact Nat.le_refl _ | (dsimp only; omega) | (simp; done)) _))).mono ?_
  rintro e w1 ⟨rfl, x1⟩
  have MM1 : Hid (H3 w1 (w.heap.size + 1 + 1) (.int .i64 0) (.int .i64 0) (.int .i64 0)) := (h3_at (by simp)).ext x1
  have RR1 : Hid (H3 w1 (w.heap.size + 1) (.int .i64 0) (.int .i64 0) (.int .i64 0)) := (H3.alloc (h3_at (by simp)) _).ext x1
  have X1 : Ext w w1 := Ext.trans (by repeat (first | with_reducible assumption | with_reducible exact Ext.refl _ | with_reducible refine Ext.drew ?_ | with_reducible refine Ext.drewN ?_ _ | with_reducible refine Ext.alloc ?_ _ | with_reducible refine Ext.set ?_ (by first | exact Nat.le_refl _ | (dsimp only; omega) | (simp; done)) _)) x1
  clear x1
  obtain ⟨m0, m1, m2, m3, m4, m5, m6⟩ := MM1.out
  obtain ⟨q0, q1, q2, q3, q4, q5, q6⟩ := RR1.out
  go_wp2_with fail
  rw [rounds_succ]
  go_wp2_with fail
  refine (H1.out _ (by repeat (first | with_reducible assumption | with_reducible exact Ext.refl _ | with_reducible refine Ext.drew ?_ | with_reducible refine Ext.drewN ?_ _ | with_reducible refine Ext.alloc ?_ _ | with_reducible refine Ext.set ?_ (by first | exact Nat.le_refl _ | (dsimp only; omega) | (simp; done)) _))).mono ?_
  rintro e w2 ⟨rfl, x2⟩
  have MM2 : Hid (H3 w2 (w.heap.size + 1 + 1) (.int .i64 r0) (.int .i64 0) (.int .i64 0)) := (H3.set0 MM1.out _).ext x2
  have RR2 : Hid (H3 w2 (w.heap.size + 1) (.int .i64 0) (.int .i64 0) (.int .i64 0)) := (H3.farA RR1.out (by omega)).ext x2
  have X2 : Ext w w2 := Ext.trans (by repeat (first | with_reducible assumption | with_reducible exact Ext.refl _ | with_reducible refine Ext.drew ?_ | with_reducible refine Ext.drewN ?_ _ | with_reducible refine Ext.alloc ?_ _ | with_reducible refine Ext.set ?_ (by first | exact Nat.le_refl _ | (dsimp only; omega) | (simp; done)) _)) x2
  clear m0 m1 m2 m3 m4 m5 m6 q0 q1 q2 q3 q4 q5 q6 X1
  clear x2
  obtain ⟨m0, m1, m2, m3, m4, m5, m6⟩ := MM2.out
  obtain ⟨q0, q1, q2, q3, q4, q5, q6⟩ := RR2.out
  go_wp2_with fail
  rw [rounds_succ]
  go_wp2_with fail
  refine (H2.out _ (by repeat (first | with_reducible assumption | with_reducible exact Ext.refl _ | with_reducible refine Ext.drew ?_ | with_reducible refine Ext.drewN ?_ _ | with_reducible refine Ext.alloc ?_ _ | with_reducible refine Ext.set ?_ (by first | exact Nat.le_refl _ | (dsimp only; omega) | (simp; done)) _))).mono ?_
  rintro e w3 ⟨rfl, x3⟩
  have MM3 : Hid (H3 w3 (w.heap.size + 1 + 1) (.int .i64 r0) (.int .i64 r1) (.int .i64 0)) := (H3.set1 MM2.out _).ext x3
  have RR3 : Hid (H3 w3 (w.heap.size + 1) (.int .i64 0) (.int .i64 0) (.int .i64 0)) := (H3.farA RR2.out (by omega)).ext x3
  have X3 : Ext w w3 := Ext.trans (by repeat (first | with_reducible assumption | with_reducible exact Ext.refl _ | with_reducible refine Ext.drew ?_ | with_reducible refine Ext.drewN ?_ _ | with_reducible refine Ext.alloc ?_ _ | with_reducible refine Ext.set ?_ (by first | exact Nat.le_refl _ | (dsimp only; omega) | (simp; done)) _)) x3
  clear m0 m1 m2 m3 m4 m5 m6 q0 q1 q2 q3 q4 q5 q6 X2
  clear x3
  obtain ⟨m0, m1, m2, m3, m4, m5, m6⟩ := MM3.out
  obtain ⟨q0, q1, q2, q3, q4, q5, q6⟩ := RR3.out
  go_wp2_with fail
  rw [rounds_succ]
  go_wp2_with fail
  exact bodyPost_ret (v := .tuple #[.agg #[.int .i64 r0, .int .i64 r1, .int .i64 r2], .int .i64 0]) (by simp [results, Try.results32, go_sem, q0, q1, q2]) rfl ⟨rfl, by repeat (first | with_reducible assumption | with_reducible exact Ext.refl _ | with_reducible refine Ext.drew ?_ | with_reducible refine Ext.drewN ?_ _ | with_reducible refine Ext.alloc ?_ _ | with_reducible refine Ext.set ?_ (by first | exact Nat.le_refl _ | (dsimp only; omega) | (simp; done)) _)⟩

theorem throughU_any (a0 a1 a2 r0 e0 r1 e1 r2 e2 : Int) (g : Nat) (w : World)
    (H0 : Hid (∀ w', Ext w w' → Calls Try.prog 33 #[.int .i64 a0, .pointer (some ⟨g, 0, none⟩)] w' fun e w'' => e = .returned (.tuple #[.int .i64 r0, .int .i64 e0]) ∧ Ext w' w''))
    (H1 : Hid (∀ w', Ext w w' → Calls Try.prog 33 #[.int .i64 a1, .pointer (some ⟨g, 0, none⟩)] w' fun e w'' => e = .returned (.tuple #[.int .i64 r1, .int .i64 e1]) ∧ Ext w' w''))
    (H2 : Hid (∀ w', Ext w w' → Calls Try.prog 33 #[.int .i64 a2, .pointer (some ⟨g, 0, none⟩)] w' fun e w'' => e = .returned (.tuple #[.int .i64 r2, .int .i64 e2]) ∧ Ext w' w'')) :
    Calls Try.prog 32 #[.agg #[.int .i64 a0, .int .i64 a1, .int .i64 a2], .func (.func 33) #[] #[.pointer (some ⟨g, 0, none⟩)]] w fun e w' => e = .returned (thr r0 e0 r1 e1 r2 e2) ∧ Ext w w' := by
  unfold thr
  by_cases n0 : e0 = 0
  · rw [if_pos n0]
    by_cases n1 : e1 = 0
    · rw [if_pos n1]
      by_cases n2 : e2 = 0
      · rw [if_pos n2]
        exact throughU_3 a0 a1 a2 r0 e0 r1 e1 r2 e2 g w n0 n1 n2 H0 H1 H2
      · rw [if_neg n2]
        exact throughU_2 a0 a1 a2 r0 e0 r1 e1 r2 e2 g w n0 n1 (by simpa using n2) H0 H1 H2
    · rw [if_neg n1]
      exact throughU_1 a0 a1 a2 r0 e0 r1 e1 r2 e2 g w n0 (by simpa using n1) H0 H1 H2
  · rw [if_neg n0]
    exact throughU_0 a0 a1 a2 r0 e0 r1 e1 r2 e2 g w (by simpa using n0) H0 H1 H2
end Go.Proofs.Yteimgbafclhkpaa
