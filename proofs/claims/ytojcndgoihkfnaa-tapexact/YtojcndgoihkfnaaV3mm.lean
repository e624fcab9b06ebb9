/- vec: through. -/
import Derived.Test.YtojcndgoihkfnaaMg9
namespace Go.Proofs.Ytojcndgoihkfnaa
open Go.RowKit Go.Shelf

set_option maxRecDepth 20000 in
set_option maxHeartbeats 8000000 in
theorem throughM_any (a0 b0 a1 b1 a2 b2 r0 e0 r1 e1 r2 e2 : Int) (g : Nat) (w : World)
    (H0 : Hid (∀ w', Ext w w' → Calls Try.prog 53 #[.agg #[.int .i64 a0, .int .i64 b0], .pointer (some ⟨g, 0, none⟩)] w' fun e w'' => e = .returned (.tuple #[.int .i64 r0, .int .i64 e0]) ∧ Ext w' w''))
    (H1 : Hid (∀ w', Ext w w' → Calls Try.prog 53 #[.agg #[.int .i64 a1, .int .i64 b1], .pointer (some ⟨g, 0, none⟩)] w' fun e w'' => e = .returned (.tuple #[.int .i64 r1, .int .i64 e1]) ∧ Ext w' w''))
    (H2 : Hid (∀ w', Ext w w' → Calls Try.prog 53 #[.agg #[.int .i64 a2, .int .i64 b2], .pointer (some ⟨g, 0, none⟩)] w' fun e w'' => e = .returned (.tuple #[.int .i64 r2, .int .i64 e2]) ∧ Ext w' w'')) :
    Calls Try.prog 52 #[.agg #[.int .i64 a0, .int .i64 b0, .int .i64 a1, .int .i64 b1, .int .i64 a2, .int .i64 b2], .func (.func 53) #[] #[.pointer (some ⟨g, 0, none⟩)]] w fun e w' => e = .returned (thr r0 e0 r1 e1 r2 e2) ∧ Ext w w' := by
  have i0 : ∀ w : World, (Instr.index 95 (.agg #[.int .i64 a0, .int .i64 b0, .int .i64 a1, .int .i64 b1, .int .i64 a2, .int .i64 b2]) (.int .i64 0)).run Try.prog w = .ok (.agg #[.int .i64 a0, .int .i64 b0]) w := fun _ => by kernel_rfl
  have i1 : ∀ w : World, (Instr.index 95 (.agg #[.int .i64 a0, .int .i64 b0, .int .i64 a1, .int .i64 b1, .int .i64 a2, .int .i64 b2]) (.int .i64 1)).run Try.prog w = .ok (.agg #[.int .i64 a1, .int .i64 b1]) w := fun _ => by kernel_rfl
  have i2 : ∀ w : World, (Instr.index 95 (.agg #[.int .i64 a0, .int .i64 b0, .int .i64 a1, .int .i64 b1, .int .i64 a2, .int .i64 b2]) (.int .i64 2)).run Try.prog w = .ok (.agg #[.int .i64 a2, .int .i64 b2]) w := fun _ => by kernel_rfl
  obtain ⟨R, hR⟩ : ∃ R, thr r0 e0 r1 e1 r2 e2 = R := ⟨_, rfl⟩
  rw [hR]
  have T0 : Hid (e0 ≠ 0 → R = .tuple #[.agg #[.int .i64 0, .int .i64 0, .int .i64 0], .int .i64 e0]) := fun a => by rw [← hR]; unfold thr; rw [if_neg a]
  have T1 : Hid (e0 = 0 → e1 ≠ 0 → R = .tuple #[.agg #[.int .i64 0, .int .i64 0, .int .i64 0], .int .i64 e1]) := fun a b => by rw [← hR]; unfold thr; rw [if_pos a, if_neg b]
  have T2 : Hid (e0 = 0 → e1 = 0 → e2 ≠ 0 → R = .tuple #[.agg #[.int .i64 0, .int .i64 0, .int .i64 0], .int .i64 e2]) := fun a b c => by rw [← hR]; unfold thr; rw [if_pos a, if_pos b, if_neg c]
  have T3 : Hid (e0 = 0 → e1 = 0 → e2 = 0 → R = .tuple #[.agg #[.int .i64 r0, .int .i64 r1, .int .i64 r2], .int .i64 0]) := fun a b c => by rw [← hR]; unfold thr; rw [if_pos a, if_pos b, if_pos c]
  clear hR
  go_enter Try.func52, Try.ntmps52
  go_wp2_with fail
  refine wp_loop_rounds 4 ?_
  rw [rounds_succ]
  go_wp2_with fail
  refine (H0.out _ (by repeat (first | with_reducible assumption | with_reducible exact Ext.refl _ | with_reducible refine Ext.drew ?_ | with_reducible refine Ext.drewN ?_ _ | with_reducible refine Ext.alloc ?_ _ | with_reducible refine Ext.set ?_ (by first | exact Nat.le_refl _ | (dsimp only; omega) | (simp; done)) _))).mono ?_
  rintro e w1 ⟨rfl, x1⟩
  have MM1 : Hid (H3 w1 (w.heap.size + 1 + 1) (.int .i64 0) (.int .i64 0) (.int .i64 0)) := (H3.alloc (h3_at (by simp)) _).ext x1
  have RR1 : Hid (H3 w1 (w.heap.size + 1) (.int .i64 0) (.int .i64 0) (.int .i64 0)) := (H3.alloc (H3.alloc (h3_at (by simp)) _) _).ext x1
  have X1 : Ext w w1 := Ext.trans (by repeat (first | with_reducible assumption | with_reducible exact Ext.refl _ | with_reducible refine Ext.drew ?_ | with_reducible refine Ext.drewN ?_ _ | with_reducible refine Ext.alloc ?_ _ | with_reducible refine Ext.set ?_ (by first | exact Nat.le_refl _ | (dsimp only; omega) | (simp; done)) _)) x1
  clear x1
  obtain ⟨m0, m1, m2, m3, m4, m5, m6⟩ := MM1.out
  obtain ⟨q0, q1, q2, q3, q4, q5, q6⟩ := RR1.out
  by_cases k0 : e0 = 0
  case neg =>
    have n0 : (e0 != 0) = true := by simpa using k0
    have hR := T0.out k0
    subst hR
    clear T0 T1 T2 T3
    go_wp2_with fail
    exact bodyPost_ret (v := .tuple #[.agg #[.int .i64 0, .int .i64 0, .int .i64 0], .int .i64 e0]) (by simp [results, Try.results52, go_sem, q0, q1, q2]) rfl ⟨rfl, by repeat (first | with_reducible assumption | with_reducible exact Ext.refl _ | with_reducible refine Ext.drew ?_ | with_reducible refine Ext.drewN ?_ _ | with_reducible refine Ext.alloc ?_ _ | with_reducible refine Ext.set ?_ (by first | exact Nat.le_refl _ | (dsimp only; omega) | (simp; done)) _)⟩
  subst k0
  go_wp2_with fail
  rw [rounds_succ]
  go_wp2_with fail
  refine (H1.out _ (by repeat (first | with_reducible assumption | with_reducible exact Ext.refl _ | with_reducible refine Ext.drew ?_ | with_reducible refine Ext.drewN ?_ _ | with_reducible refine Ext.alloc ?_ _ | with_reducible refine Ext.set ?_ (by first | exact Nat.le_refl _ | (dsimp only; omega) | (simp; done)) _))).mono ?_
  rintro e w2 ⟨rfl, x2⟩
  have MM2 : Hid (H3 w2 (w.heap.size + 1 + 1) (.int .i64 r0) (.int .i64 0) (.int .i64 0)) := (H3.alloc (H3.set0 MM1.out _) _).ext x2
  have RR2 : Hid (H3 w2 (w.heap.size + 1) (.int .i64 0) (.int .i64 0) (.int .i64 0)) := (H3.alloc (H3.farA RR1.out (by omega)) _).ext x2
  have X2 : Ext w w2 := Ext.trans (by repeat (first | with_reducible assumption | with_reducible exact Ext.refl _ | with_reducible refine Ext.drew ?_ | with_reducible refine Ext.drewN ?_ _ | with_reducible refine Ext.alloc ?_ _ | with_reducible refine Ext.set ?_ (by first | exact Nat.le_refl _ | (dsimp only; omega) | (simp; done)) _)) x2
  clear m0 m1 m2 m3 m4 m5 m6 q0 q1 q2 q3 q4 q5 q6 X1
  clear x2
  obtain ⟨m0, m1, m2, m3, m4, m5, m6⟩ := MM2.out
  obtain ⟨q0, q1, q2, q3, q4, q5, q6⟩ := RR2.out
  by_cases k1 : e1 = 0
  case neg =>
    have n1 : (e1 != 0) = true := by simpa using k1
    have hR := T1.out (by first | exact rfl | trivial) k1
    subst hR
    clear T0 T1 T2 T3
    go_wp2_with fail
    exact bodyPost_ret (v := .tuple #[.agg #[.int .i64 0, .int .i64 0, .int .i64 0], .int .i64 e1]) (by simp [results, Try.results52, go_sem, q0, q1, q2]) rfl ⟨rfl, by repeat (first | with_reducible assumption | with_reducible exact Ext.refl _ | with_reducible refine Ext.drew ?_ | with_reducible refine Ext.drewN ?_ _ | with_reducible refine Ext.alloc ?_ _ | with_reducible refine Ext.set ?_ (by first | exact Nat.le_refl _ | (dsimp only; omega) | (simp; done)) _)⟩
  subst k1
  go_wp2_with fail
  rw [rounds_succ]
  go_wp2_with fail
  refine (H2.out _ (by repeat (first | with_reducible assumption | with_reducible exact Ext.refl _ | with_reducible refine Ext.drew ?_ | with_reducible refine Ext.drewN ?_ _ | with_reducible refine Ext.alloc ?_ _ | with_reducible refine Ext.set ?_ (by first | exact Nat.le_refl _ | (dsimp only; omega) | (simp; done)) _))).mono ?_
  rintro e w3 ⟨rfl, x3⟩
  have MM3 : Hid (H3 w3 (w.heap.size + 1 + 1) (.int .i64 r0) (.int .i64 r1) (.int .i64 0)) := (H3.alloc (H3.set1 MM2.out _) _).ext x3
  have RR3 : Hid (H3 w3 (w.heap.size + 1) (.int .i64 0) (.int .i64 0) (.int .i64 0)) := (H3.alloc (H3.farA RR2.out (by omega)) _).ext x3
  have X3 : Ext w w3 := Ext.trans (by repeat (first | with_reducible assumption | with_reducible exact Ext.refl _ | with_reducible refine Ext.drew ?_ | with_reducible refine Ext.drewN ?_ _ | with_reducible refine Ext.alloc ?_ _ | with_reducible refine Ext.set ?_ (by first | exact Nat.le_refl _ | (dsimp only; omega) | (simp; done)) _)) x3
  clear m0 m1 m2 m3 m4 m5 m6 q0 q1 q2 q3 q4 q5 q6 X2
  clear x3
  obtain ⟨m0, m1, m2, m3, m4, m5, m6⟩ := MM3.out
  obtain ⟨q0, q1, q2, q3, q4, q5, q6⟩ := RR3.out
  by_cases k2 : e2 = 0
  case neg =>
    have n2 : (e2 != 0) = true := by simpa using k2
    have hR := T2.out (by first | exact rfl | trivial) (by first | exact rfl | trivial) k2
    subst hR
    clear T0 T1 T2 T3
    go_wp2_with fail
    exact bodyPost_ret (v := .tuple #[.agg #[.int .i64 0, .int .i64 0, .int .i64 0], .int .i64 e2]) (by simp [results, Try.results52, go_sem, q0, q1, q2]) rfl ⟨rfl, by repeat (first | with_reducible assumption | with_reducible exact Ext.refl _ | with_reducible refine Ext.drew ?_ | with_reducible refine Ext.drewN ?_ _ | with_reducible refine Ext.alloc ?_ _ | with_reducible refine Ext.set ?_ (by first | exact Nat.le_refl _ | (dsimp only; omega) | (simp; done)) _)⟩
  subst k2
  go_wp2_with fail
  rw [rounds_succ]
  go_wp2_with fail
  have hR := T3.out (by first | exact rfl | trivial) (by first | exact rfl | trivial) (by first | exact rfl | trivial)
  subst hR
  exact bodyPost_ret (v := .tuple #[.agg #[.int .i64 r0, .int .i64 r1, .int .i64 r2], .int .i64 0]) (by simp [results, Try.results52, go_sem, q0, q1, q2]) rfl ⟨rfl, by repeat (first | with_reducible assumption | with_reducible exact Ext.refl _ | with_reducible refine Ext.drew ?_ | with_reducible refine Ext.drewN ?_ _ | with_reducible refine Ext.alloc ?_ _ | with_reducible refine Ext.set ?_ (by first | exact Nat.le_refl _ | (dsimp only; omega) | (simp; done)) _)⟩
end Go.Proofs.Ytojcndgoihkfnaa
