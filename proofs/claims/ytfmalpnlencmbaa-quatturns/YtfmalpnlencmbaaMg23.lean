/- quat: through, by inQ30. quat: Unit, Norm. Plain numbers: units, and products of units. -/
import Derived.Test.YtfmalpnlencmbaaMg9
import Derived.Test.YtfmalpnlencmbaaMg22
import Derived.Test.YtfmalpnlencmbaaQ2m
import Derived.Test.YtfmalpnlencmbaaMg11
import Derived.Test.YtfmalpnlencmbaaW9m
namespace Go.Proofs.Ytfmalpnlencmbaa
open Go.RowKit Go.Shelf

set_option maxRecDepth 20000 in
set_option maxHeartbeats 4000000 in
theorem throughN_0 (a0 a1 a2 a3 a4 a5 a6 a7 a8 a9 a10 a11 Z0 Z1 Z2 Z3 r0 e0 r1 e1 r2 e2 r3 e3 : Int) (w : World) (n0 : (e0 != 0) = true)
    (H0 : Hid (∀ w', Ext w w' → Calls Try.prog 26 #[.agg #[.int .u64 a0, .int .u64 a1, .int .u64 a2]] w' fun e w'' => (∃ r, e = .returned r ∧ IsW r Z0) ∧ Ext w' w''))
    (W0 : Hid (∀ t w', IsW t Z0 → Calls Try.prog 37 #[t] w' fun e w'' => e = .returned (.tuple #[.int .i64 r0, .int .i64 e0]) ∧ Ext w' w''))
    (_H1 : Hid (∀ w', Ext w w' → Calls Try.prog 26 #[.agg #[.int .u64 a3, .int .u64 a4, .int .u64 a5]] w' fun e w'' => (∃ r, e = .returned r ∧ IsW r Z1) ∧ Ext w' w''))
    (_W1 : Hid (∀ t w', IsW t Z1 → Calls Try.prog 37 #[t] w' fun e w'' => e = .returned (.tuple #[.int .i64 r1, .int .i64 e1]) ∧ Ext w' w''))
    (_H2 : Hid (∀ w', Ext w w' → Calls Try.prog 26 #[.agg #[.int .u64 a6, .int .u64 a7, .int .u64 a8]] w' fun e w'' => (∃ r, e = .returned r ∧ IsW r Z2) ∧ Ext w' w''))
    (_W2 : Hid (∀ t w', IsW t Z2 → Calls Try.prog 37 #[t] w' fun e w'' => e = .returned (.tuple #[.int .i64 r2, .int .i64 e2]) ∧ Ext w' w''))
    (_H3 : Hid (∀ w', Ext w w' → Calls Try.prog 26 #[.agg #[.int .u64 a9, .int .u64 a10, .int .u64 a11]] w' fun e w'' => (∃ r, e = .returned r ∧ IsW r Z3) ∧ Ext w' w''))
    (_W3 : Hid (∀ t w', IsW t Z3 → Calls Try.prog 37 #[t] w' fun e w'' => e = .returned (.tuple #[.int .i64 r3, .int .i64 e3]) ∧ Ext w' w'')) :
    Calls Try.prog 22 #[.agg #[.int .u64 a0, .int .u64 a1, .int .u64 a2, .int .u64 a3, .int .u64 a4, .int .u64 a5, .int .u64 a6, .int .u64 a7, .int .u64 a8, .int .u64 a9, .int .u64 a10, .int .u64 a11], .func (.func 26) #[] #[]] w fun e w' => e = .returned (.tuple #[.agg #[.int .i64 0, .int .i64 0, .int .i64 0, .int .i64 0], .int .i64 e0]) ∧ Ext w w' := by
  have i0 : ∀ w : World, (Instr.index 59 (.agg #[.int .u64 a0, .int .u64 a1, .int .u64 a2, .int .u64 a3, .int .u64 a4, .int .u64 a5, .int .u64 a6, .int .u64 a7, .int .u64 a8, .int .u64 a9, .int .u64 a10, .int .u64 a11]) (.int .i64 0)).run Try.prog w = .ok (.agg #[.int .u64 a0, .int .u64 a1, .int .u64 a2]) w := fun _ => by kernel_rfl
  go_enter Try.func22, Try.ntmps22
  go_wp2_with fail
  refine wp_loop_rounds 5 ?_
  rw [rounds_succ]
  go_wp2_with fail
  refine (H0.out _ (by repeat (first | with_reducible assumption | with_reducible exact Ext.refl _ | with_reducible refine Ext.drew ?_ | with_reducible refine Ext.drewN ?_ _ | with_reducible refine Ext.alloc ?_ _ | with_reducible refine Ext.set ?_ (by first | exact Nat.le_refl _ | (dsimp only; omega) | (simp; done)) _))).mono ?_
  rintro e v0 ⟨⟨t0, rfl, h0⟩, y0⟩
  have MV0 : Hid (H4 v0 (w.heap.size + 1 + 1) (.int .i64 0) (.int .i64 0) (.int .i64 0) (.int .i64 0)) := (H4.alloc (h4_at (by simp)) _).ext y0
  have RV0 : Hid (H4 v0 (w.heap.size + 1) (.int .i64 0) (.int .i64 0) (.int .i64 0) (.int .i64 0)) := (H4.alloc (H4.alloc (h4_at (by simp)) _) _).ext y0
  have XV0 : Ext w v0 := Ext.trans (by repeat (first | with_reducible assumption | with_reducible exact Ext.refl _ | with_reducible refine Ext.drew ?_ | with_reducible refine Ext.drewN ?_ _ | with_reducible refine Ext.alloc ?_ _ | with_reducible refine Ext.set ?_ (by first | exact Nat.le_refl _ | (dsimp only; omega) | (simp; done)) _)) y0
  clear y0
  go_wp2_with fail
  refine (W0.out _ _ h0).mono ?_
  rintro e w1 ⟨rfl, x1⟩
  have MM1 : Hid (H4 w1 (w.heap.size + 1 + 1) (.int .i64 0) (.int .i64 0) (.int .i64 0) (.int .i64 0)) := MV0.out.ext x1
  have RR1 : Hid (H4 w1 (w.heap.size + 1) (.int .i64 0) (.int .i64 0) (.int .i64 0) (.int .i64 0)) := RV0.out.ext x1
  have X1 : Ext w w1 := XV0.trans x1
  clear x1 XV0
  obtain ⟨m0, m1, m2, m3, m4, m5, m6, m7, m8⟩ := MM1.out
  obtain ⟨q0, q1, q2, q3, q4, q5, q6, q7, q8⟩ := RR1.out
  go_wp2_with fail
  exact bodyPost_ret (v := .tuple #[.agg #[.int .i64 0, .int .i64 0, .int .i64 0, .int .i64 0], .int .i64 e0]) (by simp [results, Try.results22, go_sem, q0, q1, q2, q3]) rfl ⟨rfl, by repeat (first | with_reducible assumption | with_reducible exact Ext.refl _ | with_reducible refine Ext.drew ?_ | with_reducible refine Ext.drewN ?_ _ | with_reducible refine Ext.alloc ?_ _ | with_reducible refine Ext.set ?_ (by first | exact Nat.le_refl _ | (dsimp only; omega) | (simp; done)) _)⟩

set_option maxRecDepth 20000 in
set_option maxHeartbeats 4000000 in
theorem throughN_1 (a0 a1 a2 a3 a4 a5 a6 a7 a8 a9 a10 a11 Z0 Z1 Z2 Z3 r0 e0 r1 e1 r2 e2 r3 e3 : Int) (w : World) (k0 : e0 = 0) (n1 : (e1 != 0) = true)
    (H0 : Hid (∀ w', Ext w w' → Calls Try.prog 26 #[.agg #[.int .u64 a0, .int .u64 a1, .int .u64 a2]] w' fun e w'' => (∃ r, e = .returned r ∧ IsW r Z0) ∧ Ext w' w''))
    (W0 : Hid (∀ t w', IsW t Z0 → Calls Try.prog 37 #[t] w' fun e w'' => e = .returned (.tuple #[.int .i64 r0, .int .i64 e0]) ∧ Ext w' w''))
    (H1 : Hid (∀ w', Ext w w' → Calls Try.prog 26 #[.agg #[.int .u64 a3, .int .u64 a4, .int .u64 a5]] w' fun e w'' => (∃ r, e = .returned r ∧ IsW r Z1) ∧ Ext w' w''))
    (W1 : Hid (∀ t w', IsW t Z1 → Calls Try.prog 37 #[t] w' fun e w'' => e = .returned (.tuple #[.int .i64 r1, .int .i64 e1]) ∧ Ext w' w''))
    (_H2 : Hid (∀ w', Ext w w' → Calls Try.prog 26 #[.agg #[.int .u64 a6, .int .u64 a7, .int .u64 a8]] w' fun e w'' => (∃ r, e = .returned r ∧ IsW r Z2) ∧ Ext w' w''))
    (_W2 : Hid (∀ t w', IsW t Z2 → Calls Try.prog 37 #[t] w' fun e w'' => e = .returned (.tuple #[.int .i64 r2, .int .i64 e2]) ∧ Ext w' w''))
    (_H3 : Hid (∀ w', Ext w w' → Calls Try.prog 26 #[.agg #[.int .u64 a9, .int .u64 a10, .int .u64 a11]] w' fun e w'' => (∃ r, e = .returned r ∧ IsW r Z3) ∧ Ext w' w''))
    (_W3 : Hid (∀ t w', IsW t Z3 → Calls Try.prog 37 #[t] w' fun e w'' => e = .returned (.tuple #[.int .i64 r3, .int .i64 e3]) ∧ Ext w' w'')) :
    Calls Try.prog 22 #[.agg #[.int .u64 a0, .int .u64 a1, .int .u64 a2, .int .u64 a3, .int .u64 a4, .int .u64 a5, .int .u64 a6, .int .u64 a7, .int .u64 a8, .int .u64 a9, .int .u64 a10, .int .u64 a11], .func (.func 26) #[] #[]] w fun e w' => e = .returned (.tuple #[.agg #[.int .i64 0, .int .i64 0, .int .i64 0, .int .i64 0], .int .i64 e1]) ∧ Ext w w' := by
  have i0 : ∀ w : World, (Instr.index 59 (.agg #[.int .u64 a0, .int .u64 a1, .int .u64 a2, .int .u64 a3, .int .u64 a4, .int .u64 a5, .int .u64 a6, .int .u64 a7, .int .u64 a8, .int .u64 a9, .int .u64 a10, .int .u64 a11]) (.int .i64 0)).run Try.prog w = .ok (.agg #[.int .u64 a0, .int .u64 a1, .int .u64 a2]) w := fun _ => by kernel_rfl
  have i1 : ∀ w : World, (Instr.index 59 (.agg #[.int .u64 a0, .int .u64 a1, .int .u64 a2, .int .u64 a3, .int .u64 a4, .int .u64 a5, .int .u64 a6, .int .u64 a7, .int .u64 a8, .int .u64 a9, .int .u64 a10, .int .u64 a11]) (.int .i64 1)).run Try.prog w = .ok (.agg #[.int .u64 a3, .int .u64 a4, .int .u64 a5]) w := fun _ => by kernel_rfl
  subst k0
  go_enter Try.func22, Try.ntmps22
  go_wp2_with fail
  refine wp_loop_rounds 5 ?_
  rw [rounds_succ]
  go_wp2_with fail
  refine (H0.out _ (by repeat (first | with_reducible assumption | with_reducible exact Ext.refl _ | with_reducible refine Ext.drew ?_ | with_reducible refine Ext.drewN ?_ _ | with_reducible refine Ext.alloc ?_ _ | with_reducible refine Ext.set ?_ (by first | exact Nat.le_refl _ | (dsimp only; omega) | (simp; done)) _))).mono ?_
  rintro e v0 ⟨⟨t0, rfl, h0⟩, y0⟩
  have MV0 : Hid (H4 v0 (w.heap.size + 1 + 1) (.int .i64 0) (.int .i64 0) (.int .i64 0) (.int .i64 0)) := (H4.alloc (h4_at (by simp)) _).ext y0
  have RV0 : Hid (H4 v0 (w.heap.size + 1) (.int .i64 0) (.int .i64 0) (.int .i64 0) (.int .i64 0)) := (H4.alloc (H4.alloc (h4_at (by simp)) _) _).ext y0
  have XV0 : Ext w v0 := Ext.trans (by repeat (first | with_reducible assumption | with_reducible exact Ext.refl _ | with_reducible refine Ext.drew ?_ | with_reducible refine Ext.drewN ?_ _ | with_reducible refine Ext.alloc ?_ _ | with_reducible refine Ext.set ?_ (by first | exact Nat.le_refl _ | (dsimp only; omega) | (simp; done)) _)) y0
  clear y0
  go_wp2_with fail
  refine (W0.out _ _ h0).mono ?_
  rintro e w1 ⟨rfl, x1⟩
  have MM1 : Hid (H4 w1 (w.heap.size + 1 + 1) (.int .i64 0) (.int .i64 0) (.int .i64 0) (.int .i64 0)) := MV0.out.ext x1
  have RR1 : Hid (H4 w1 (w.heap.size + 1) (.int .i64 0) (.int .i64 0) (.int .i64 0) (.int .i64 0)) := RV0.out.ext x1
  have X1 : Ext w w1 := XV0.trans x1
  clear x1 XV0
  obtain ⟨m0, m1, m2, m3, m4, m5, m6, m7, m8⟩ := MM1.out
  obtain ⟨q0, q1, q2, q3, q4, q5, q6, q7, q8⟩ := RR1.out
  go_wp2_with fail
  rw [rounds_succ]
  go_wp2_with fail
  refine (H1.out _ (by repeat (first | with_reducible assumption | with_reducible exact Ext.refl _ | with_reducible refine Ext.drew ?_ | with_reducible refine Ext.drewN ?_ _ | with_reducible refine Ext.alloc ?_ _ | with_reducible refine Ext.set ?_ (by first | exact Nat.le_refl _ | (dsimp only; omega) | (simp; done)) _))).mono ?_
  rintro e v1 ⟨⟨t1, rfl, h1⟩, y1⟩
  have MV1 : Hid (H4 v1 (w.heap.size + 1 + 1) (.int .i64 r0) (.int .i64 0) (.int .i64 0) (.int .i64 0)) := (H4.alloc (H4.set0 MM1.out _) _).ext y1
  have RV1 : Hid (H4 v1 (w.heap.size + 1) (.int .i64 0) (.int .i64 0) (.int .i64 0) (.int .i64 0)) := (H4.alloc (H4.far RR1.out (by omega)) _).ext y1
  have XV1 : Ext w v1 := Ext.trans (by repeat (first | with_reducible assumption | with_reducible exact Ext.refl _ | with_reducible refine Ext.drew ?_ | with_reducible refine Ext.drewN ?_ _ | with_reducible refine Ext.alloc ?_ _ | with_reducible refine Ext.set ?_ (by first | exact Nat.le_refl _ | (dsimp only; omega) | (simp; done)) _)) y1
  clear y1
  clear m0 m1 m2 m3 m4 m5 m6 m7 m8 q0 q1 q2 q3 q4 q5 q6 q7 q8 X1
  go_wp2_with fail
  refine (W1.out _ _ h1).mono ?_
  rintro e w2 ⟨rfl, x2⟩
  have MM2 : Hid (H4 w2 (w.heap.size + 1 + 1) (.int .i64 r0) (.int .i64 0) (.int .i64 0) (.int .i64 0)) := MV1.out.ext x2
  have RR2 : Hid (H4 w2 (w.heap.size + 1) (.int .i64 0) (.int .i64 0) (.int .i64 0) (.int .i64 0)) := RV1.out.ext x2
  have X2 : Ext w w2 := XV1.trans x2
  clear x2 XV1
  obtain ⟨m0, m1, m2, m3, m4, m5, m6, m7, m8⟩ := MM2.out
  obtain ⟨q0, q1, q2, q3, q4, q5, q6, q7, q8⟩ := RR2.out
  go_wp2_with fail
  exact bodyPost_ret (v := .tuple #[.agg #[.int .i64 0, .int .i64 0, .int .i64 0, .int .i64 0], .int .i64 e1]) (by simp [results, Try.results22, go_sem, q0, q1, q2, q3]) rfl ⟨rfl, by repeat (first | with_reducible assumption | with_reducible exact Ext.refl _ | with_reducible refine Ext.drew ?_ | with_reducible refine Ext.drewN ?_ _ | with_reducible refine Ext.alloc ?_ _ | with_reducible refine Ext.set ?_ (by first | exact Nat.le_refl _ | (dsimp only; omega) | (simp; done)) _)⟩

set_option maxRecDepth 20000 in
set_option maxHeartbeats 4000000 in
theorem throughN_2 (a0 a1 a2 a3 a4 a5 a6 a7 a8 a9 a10 a11 Z0 Z1 Z2 Z3 r0 e0 r1 e1 r2 e2 r3 e3 : Int) (w : World) (k0 : e0 = 0) (k1 : e1 = 0) (n2 : (e2 != 0) = true)
    (H0 : Hid (∀ w', Ext w w' → Calls Try.prog 26 #[.agg #[.int .u64 a0, .int .u64 a1, .int .u64 a2]] w' fun e w'' => (∃ r, e = .returned r ∧ IsW r Z0) ∧ Ext w' w''))
    (W0 : Hid (∀ t w', IsW t Z0 → Calls Try.prog 37 #[t] w' fun e w'' => e = .returned (.tuple #[.int .i64 r0, .int .i64 e0]) ∧ Ext w' w''))
    (H1 : Hid (∀ w', Ext w w' → Calls Try.prog 26 #[.agg #[.int .u64 a3, .int .u64 a4, .int .u64 a5]] w' fun e w'' => (∃ r, e = .returned r ∧ IsW r Z1) ∧ Ext w' w''))
    (W1 : Hid (∀ t w', IsW t Z1 → Calls Try.prog 37 #[t] w' fun e w'' => e = .returned (.tuple #[.int .i64 r1, .int .i64 e1]) ∧ Ext w' w''))
    (H2 : Hid (∀ w', Ext w w' → Calls Try.prog 26 #[.agg #[.int .u64 a6, .int .u64 a7, .int .u64 a8]] w' fun e w'' => (∃ r, e = .returned r ∧ IsW r Z2) ∧ Ext w' w''))
    (W2 : Hid (∀ t w', IsW t Z2 → Calls Try.prog 37 #[t] w' fun e w'' => e = .returned (.tuple #[.int .i64 r2, .int .i64 e2]) ∧ Ext w' w''))
    (_H3 : Hid (∀ w', Ext w w' → Calls Try.prog 26 #[.agg #[.int .u64 a9, .int .u64 a10, .int .u64 a11]] w' fun e w'' => (∃ r, e = .returned r ∧ IsW r Z3) ∧ Ext w' w''))
    (_W3 : Hid (∀ t w', IsW t Z3 → Calls Try.prog 37 #[t] w' fun e w'' => e = .returned (.tuple #[.int .i64 r3, .int .i64 e3]) ∧ Ext w' w'')) :
    Calls Try.prog 22 #[.agg #[.int .u64 a0, .int .u64 a1, .int .u64 a2, .int .u64 a3, .int .u64 a4, .int .u64 a5, .int .u64 a6, .int .u64 a7, .int .u64 a8, .int .u64 a9, .int .u64 a10, .int .u64 a11], .func (.func 26) #[] #[]] w fun e w' => e = .returned (.tuple #[.agg #[.int .i64 0, .int .i64 0, .int .i64 0, .int .i64 0], .int .i64 e2]) ∧ Ext w w' := by
  have i0 : ∀ w : World, (Instr.index 59 (.agg #[.int .u64 a0, .int .u64 a1, .int .u64 a2, .int .u64 a3, .int .u64 a4, .int .u64 a5, .int .u64 a6, .int .u64 a7, .int .u64 a8, .int .u64 a9, .int .u64 a10, .int .u64 a11]) (.int .i64 0)).run Try.prog w = .ok (.agg #[.int .u64 a0, .int .u64 a1, .int .u64 a2]) w := fun _ => by kernel_rfl
  have i1 : ∀ w : World, (Instr.index 59 (.agg #[.int .u64 a0, .int .u64 a1, .int .u64 a2, .int .u64 a3, .int .u64 a4, .int .u64 a5, .int .u64 a6, .int .u64 a7, .int .u64 a8, .int .u64 a9, .int .u64 a10, .int .u64 a11]) (.int .i64 1)).run Try.prog w = .ok (.agg #[.int .u64 a3, .int .u64 a4, .int .u64 a5]) w := fun _ => by kernel_rfl
  have i2 : ∀ w : World, (Instr.index 59 (.agg #[.int .u64 a0, .int .u64 a1, .int .u64 a2, .int .u64 a3, .int .u64 a4, .int .u64 a5, .int .u64 a6, .int .u64 a7, .int .u64 a8, .int .u64 a9, .int .u64 a10, .int .u64 a11]) (.int .i64 2)).run Try.prog w = .ok (.agg #[.int .u64 a6, .int .u64 a7, .int .u64 a8]) w := fun _ => by kernel_rfl
  subst k0
  subst k1
  go_enter Try.func22, Try.ntmps22
  go_wp2_with fail
  refine wp_loop_rounds 5 ?_
  rw [rounds_succ]
  go_wp2_with fail
  refine (H0.out _ (by repeat (first | with_reducible assumption | with_reducible exact Ext.refl _ | with_reducible refine Ext.drew ?_ | with_reducible refine Ext.drewN ?_ _ | with_reducible refine Ext.alloc ?_ _ | with_reducible refine Ext.set ?_ (by first | exact Nat.le_refl _ | (dsimp only; omega) | (simp; done)) _))).mono ?_
  rintro e v0 ⟨⟨t0, rfl, h0⟩, y0⟩
  have MV0 : Hid (H4 v0 (w.heap.size + 1 + 1) (.int .i64 0) (.int .i64 0) (.int .i64 0) (.int .i64 0)) := (H4.alloc (h4_at (by simp)) _).ext y0
  have RV0 : Hid (H4 v0 (w.heap.size + 1) (.int .i64 0) (.int .i64 0) (.int .i64 0) (.int .i64 0)) := (H4.alloc (H4.alloc (h4_at (by simp)) _) _).ext y0
  have XV0 : Ext w v0 := Ext.trans (by repeat (first | with_reducible assumption | with_reducible exact Ext.refl _ | with_reducible refine Ext.drew ?_ | with_reducible refine Ext.drewN ?_ _ | with_reducible refine Ext.alloc ?_ _ | with_reducible refine Ext.set ?_ (by first | exact Nat.le_refl _ | (dsimp only; omega) | (simp; done)) _)) y0
  clear y0
  go_wp2_with fail
  refine (W0.out _ _ h0).mono ?_
  rintro e w1 ⟨rfl, x1⟩
  have MM1 : Hid (H4 w1 (w.heap.size + 1 + 1) (.int .i64 0) (.int .i64 0) (.int .i64 0) (.int .i64 0)) := MV0.out.ext x1
  have RR1 : Hid (H4 w1 (w.heap.size + 1) (.int .i64 0) (.int .i64 0) (.int .i64 0) (.int .i64 0)) := RV0.out.ext x1
  have X1 : Ext w w1 := XV0.trans x1
  clear x1 XV0
  obtain ⟨m0, m1, m2, m3, m4, m5, m6, m7, m8⟩ := MM1.out
  obtain ⟨q0, q1, q2, q3, q4, q5, q6, q7, q8⟩ := RR1.out
  go_wp2_with fail
  rw [rounds_succ]
  go_wp2_with fail
  refine (H1.out _ (by repeat (first | with_reducible assumption | with_reducible exact Ext.refl _ | with_reducible refine Ext.drew ?_ | with_reducible refine Ext.drewN ?_ _ | with_reducible refine Ext.alloc ?_ _ | with_reducible refine Ext.set ?_ (by first | exact Nat.le_refl _ | (dsimp only; omega) | (simp; done)) _))).mono ?_
  rintro e v1 ⟨⟨t1, rfl, h1⟩, y1⟩
  have MV1 : Hid (H4 v1 (w.heap.size + 1 + 1) (.int .i64 r0) (.int .i64 0) (.int .i64 0) (.int .i64 0)) := (H4.alloc (H4.set0 MM1.out _) _).ext y1
  have RV1 : Hid (H4 v1 (w.heap.size + 1) (.int .i64 0) (.int .i64 0) (.int .i64 0) (.int .i64 0)) := (H4.alloc (H4.far RR1.out (by omega)) _).ext y1
  have XV1 : Ext w v1 := Ext.trans (by repeat (first | with_reducible assumption | with_reducible exact Ext.refl _ | with_reducible refine Ext.drew ?_ | with_reducible refine Ext.drewN ?_ _ | with_reducible refine Ext.alloc ?_ _ | with_reducible refine Ext.set ?_ (by first | exact Nat.le_refl _ | (dsimp only; omega) | (simp; done)) _)) y1
  clear y1
  clear m0 m1 m2 m3 m4 m5 m6 m7 m8 q0 q1 q2 q3 q4 q5 q6 q7 q8 X1
  go_wp2_with fail
  refine (W1.out _ _ h1).mono ?_
  rintro e w2 ⟨rfl, x2⟩
  have MM2 : Hid (H4 w2 (w.heap.size + 1 + 1) (.int .i64 r0) (.int .i64 0) (.int .i64 0) (.int .i64 0)) := MV1.out.ext x2
  have RR2 : Hid (H4 w2 (w.heap.size + 1) (.int .i64 0) (.int .i64 0) (.int .i64 0) (.int .i64 0)) := RV1.out.ext x2
  have X2 : Ext w w2 := XV1.trans x2
  clear x2 XV1
  obtain ⟨m0, m1, m2, m3, m4, m5, m6, m7, m8⟩ := MM2.out
  obtain ⟨q0, q1, q2, q3, q4, q5, q6, q7, q8⟩ := RR2.out
  go_wp2_with fail
  rw [rounds_succ]
  go_wp2_with fail
  refine (H2.out _ (by repeat (first | with_reducible assumption | with_reducible exact Ext.refl _ | with_reducible refine Ext.drew ?_ | with_reducible refine Ext.drewN ?_ _ | with_reducible refine Ext.alloc ?_ _ | with_reducible refine Ext.set ?_ (by first | exact Nat.le_refl _ | (dsimp only; omega) | (simp; done)) _))).mono ?_
  rintro e v2 ⟨⟨t2, rfl, h2⟩, y2⟩
  have MV2 : Hid (H4 v2 (w.heap.size + 1 + 1) (.int .i64 r0) (.int .i64 r1) (.int .i64 0) (.int .i64 0)) := (H4.alloc (H4.set1 MM2.out _) _).ext y2
  have RV2 : Hid (H4 v2 (w.heap.size + 1) (.int .i64 0) (.int .i64 0) (.int .i64 0) (.int .i64 0)) := (H4.alloc (H4.far RR2.out (by omega)) _).ext y2
  have XV2 : Ext w v2 := Ext.trans (by repeat (first | with_reducible assumption | with_reducible exact Ext.refl _ | with_reducible refine Ext.drew ?_ | with_reducible refine Ext.drewN ?_ _ | with_reducible refine Ext.alloc ?_ _ | with_reducible refine Ext.set ?_ (by first | exact Nat.le_refl _ | (dsimp only; omega) | (simp; done)) _)) y2
  clear y2
  clear m0 m1 m2 m3 m4 m5 m6 m7 m8 q0 q1 q2 q3 q4 q5 q6 q7 q8 X2
  go_wp2_with fail
  refine (W2.out _ _ h2).mono ?_
  rintro e w3 ⟨rfl, x3⟩
  have MM3 : Hid (H4 w3 (w.heap.size + 1 + 1) (.int .i64 r0) (.int .i64 r1) (.int .i64 0) (.int .i64 0)) := MV2.out.ext x3
  have RR3 : Hid (H4 w3 (w.heap.size + 1) (.int .i64 0) (.int .i64 0) (.int .i64 0) (.int .i64 0)) := RV2.out.ext x3
  have X3 : Ext w w3 := XV2.trans x3
  clear x3 XV2
  obtain ⟨m0, m1, m2, m3, m4, m5, m6, m7, m8⟩ := MM3.out
  obtain ⟨q0, q1, q2, q3, q4, q5, q6, q7, q8⟩ := RR3.out
  go_wp2_with fail
  exact bodyPost_ret (v := .tuple #[.agg #[.int .i64 0, .int .i64 0, .int .i64 0, .int .i64 0], .int .i64 e2]) (by simp [results, Try.results22, go_sem, q0, q1, q2, q3]) rfl ⟨rfl, by repeat (first | with_reducible assumption | with_reducible exact Ext.refl _ | with_reducible refine Ext.drew ?_ | with_reducible refine Ext.drewN ?_ _ | with_reducible refine Ext.alloc ?_ _ | with_reducible refine Ext.set ?_ (by first | exact Nat.le_refl _ | (dsimp only; omega) | (simp; done)) _)⟩

set_option maxRecDepth 20000 in
set_option maxHeartbeats 4000000 in
theorem throughN_3 (a0 a1 a2 a3 a4 a5 a6 a7 a8 a9 a10 a11 Z0 Z1 Z2 Z3 r0 e0 r1 e1 r2 e2 r3 e3 : Int) (w : World) (k0 : e0 = 0) (k1 : e1 = 0) (k2 : e2 = 0) (n3 : (e3 != 0) = true)
    (H0 : Hid (∀ w', Ext w w' → Calls Try.prog 26 #[.agg #[.int .u64 a0, .int .u64 a1, .int .u64 a2]] w' fun e w'' => (∃ r, e = .returned r ∧ IsW r Z0) ∧ Ext w' w''))
    (W0 : Hid (∀ t w', IsW t Z0 → Calls Try.prog 37 #[t] w' fun e w'' => e = .returned (.tuple #[.int .i64 r0, .int .i64 e0]) ∧ Ext w' w''))
    (H1 : Hid (∀ w', Ext w w' → Calls Try.prog 26 #[.agg #[.int .u64 a3, .int .u64 a4, .int .u64 a5]] w' fun e w'' => (∃ r, e = .returned r ∧ IsW r Z1) ∧ Ext w' w''))
    (W1 : Hid (∀ t w', IsW t Z1 → Calls Try.prog 37 #[t] w' fun e w'' => e = .returned (.tuple #[.int .i64 r1, .int .i64 e1]) ∧ Ext w' w''))
    (H2 : Hid (∀ w', Ext w w' → Calls Try.prog 26 #[.agg #[.int .u64 a6, .int .u64 a7, .int .u64 a8]] w' fun e w'' => (∃ r, e = .returned r ∧ IsW r Z2) ∧ Ext w' w''))
    (W2 : Hid (∀ t w', IsW t Z2 → Calls Try.prog 37 #[t] w' fun e w'' => e = .returned (.tuple #[.int .i64 r2, .int .i64 e2]) ∧ Ext w' w''))
    (H3 : Hid (∀ w', Ext w w' → Calls Try.prog 26 #[.agg #[.int .u64 a9, .int .u64 a10, .int .u64 a11]] w' fun e w'' => (∃ r, e = .returned r ∧ IsW r Z3) ∧ Ext w' w''))
    (W3 : Hid (∀ t w', IsW t Z3 → Calls Try.prog 37 #[t] w' fun e w'' => e = .returned (.tuple #[.int .i64 r3, .int .i64 e3]) ∧ Ext w' w'')) :
    Calls Try.prog 22 #[.agg #[.int .u64 a0, .int .u64 a1, .int .u64 a2, .int .u64 a3, .int .u64 a4, .int .u64 a5, .int .u64 a6, .int .u64 a7, .int .u64 a8, .int .u64 a9, .int .u64 a10, .int .u64 a11], .func (.func 26) #[] #[]] w fun e w' => e = .returned (.tuple #[.agg #[.int .i64 0, .int .i64 0, .int .i64 0, .int .i64 0], .int .i64 e3]) ∧ Ext w w' := by
  have i0 : ∀ w : World, (Instr.index 59 (.agg #[.int .u64 a0, .int .u64 a1, .int .u64 a2, .int .u64 a3, .int .u64 a4, .int .u64 a5, .int .u64 a6, .int .u64 a7, .int .u64 a8, .int .u64 a9, .int .u64 a10, .int .u64 a11]) (.int .i64 0)).run Try.prog w = .ok (.agg #[.int .u64 a0, .int .u64 a1, .int .u64 a2]) w := fun _ => by kernel_rfl
  have i1 : ∀ w : World, (Instr.index 59 (.agg #[.int .u64 a0, .int .u64 a1, .int .u64 a2, .int .u64 a3, .int .u64 a4, .int .u64 a5, .int .u64 a6, .int .u64 a7, .int .u64 a8, .int .u64 a9, .int .u64 a10, .int .u64 a11]) (.int .i64 1)).run Try.prog w = .ok (.agg #[.int .u64 a3, .int .u64 a4, .int .u64 a5]) w := fun _ => by kernel_rfl
  have i2 : ∀ w : World, (Instr.index 59 (.agg #[.int .u64 a0, .int .u64 a1, .int .u64 a2, .int .u64 a3, .int .u64 a4, .int .u64 a5, .int .u64 a6, .int .u64 a7, .int .u64 a8, .int .u64 a9, .int .u64 a10, .int .u64 a11]) (.int .i64 2)).run Try.prog w = .ok (.agg #[.int .u64 a6, .int .u64 a7, .int .u64 a8]) w := fun _ => by kernel_rfl
  have i3 : ∀ w : World, (Instr.index 59 (.agg #[.int .u64 a0, .int .u64 a1, .int .u64 a2, .int .u64 a3, .int .u64 a4, .int .u64 a5, .int .u64 a6, .int .u64 a7, .int .u64 a8, .int .u64 a9, .int .u64 a10, .int .u64 a11]) (.int .i64 3)).run Try.prog w = .ok (.agg #[.int .u64 a9, .int .u64 a10, .int .u64 a11]) w := fun _ => by kernel_rfl
  subst k0
  subst k1
  subst k2
  go_enter Try.func22, Try.ntmps22
  go_wp2_with fail
  refine wp_loop_rounds 5 ?_
  rw [rounds_succ]
  go_wp2_with fail
  refine (H0.out _ (by repeat (first | with_reducible assumption | with_reducible exact Ext.refl _ | with_reducible refine Ext.drew ?_ | with_reducible refine Ext.drewN ?_ _ | with_reducible refine Ext.alloc ?_ _ | with_reducible refine Ext.set ?_ (by first | exact Nat.le_refl _ | (dsimp only; omega) | (simp; done)) _))).mono ?_
  rintro e v0 ⟨⟨t0, rfl, h0⟩, y0⟩
  have MV0 : Hid (H4 v0 (w.heap.size + 1 + 1) (.int .i64 0) (.int .i64 0) (.int .i64 0) (.int .i64 0)) := (H4.alloc (h4_at (by simp)) _).ext y0
  have RV0 : Hid (H4 v0 (w.heap.size + 1) (.int .i64 0) (.int .i64 0) (.int .i64 0) (.int .i64 0)) := (H4.alloc (H4.alloc (h4_at (by simp)) _) _).ext y0
  have XV0 : Ext w v0 := Ext.trans (by repeat (first | with_reducible assumption | with_reducible exact Ext.refl _ | with_reducible refine Ext.drew ?_ | with_reducible refine Ext.drewN ?_ _ | with_reducible refine Ext.alloc ?_ _ | with_reducible refine Ext.set ?_ (by first | exact Nat.le_refl _ | (dsimp only; omega) | (simp; done)) _)) y0
  clear y0
  go_wp2_with fail
  refine (W0.out _ _ h0).mono ?_
  rintro e w1 ⟨rfl, x1⟩
  have MM1 : Hid (H4 w1 (w.heap.size + 1 + 1) (.int .i64 0) (.int .i64 0) (.int .i64 0) (.int .i64 0)) := MV0.out.ext x1
  have RR1 : Hid (H4 w1 (w.heap.size + 1) (.int .i64 0) (.int .i64 0) (.int .i64 0) (.int .i64 0)) := RV0.out.ext x1
  have X1 : Ext w w1 := XV0.trans x1
  clear x1 XV0
  obtain ⟨m0, m1, m2, m3, m4, m5, m6, m7, m8⟩ := MM1.out
  obtain ⟨q0, q1, q2, q3, q4, q5, q6, q7, q8⟩ := RR1.out
  go_wp2_with fail
  rw [rounds_succ]
  go_wp2_with fail
  refine (H1.out _ (by repeat (first | with_reducible assumption | with_reducible exact Ext.refl _ | with_reducible refine Ext.drew ?_ | with_reducible refine Ext.drewN ?_ _ | with_reducible refine Ext.alloc ?_ _ | with_reducible refine Ext.set ?_ (by first | exact Nat.le_refl _ | (dsimp only; omega) | (simp; done)) _))).mono ?_
  rintro e v1 ⟨⟨t1, rfl, h1⟩, y1⟩
  have MV1 : Hid (H4 v1 (w.heap.size + 1 + 1) (.int .i64 r0) (.int .i64 0) (.int .i64 0) (.int .i64 0)) := (H4.alloc (H4.set0 MM1.out _) _).ext y1
  have RV1 : Hid (H4 v1 (w.heap.size + 1) (.int .i64 0) (.int .i64 0) (.int .i64 0) (.int .i64 0)) := (H4.alloc (H4.far RR1.out (by omega)) _).ext y1
  have XV1 : Ext w v1 := Ext.trans (by repeat (first | with_reducible assumption | with_reducible exact Ext.refl _ | with_reducible refine Ext.drew ?_ | with_reducible refine Ext.drewN ?_ _ | with_reducible refine Ext.alloc ?_ _ | with_reducible refine Ext.set ?_ (by first | exact Nat.le_refl _ | (dsimp only; omega) | (simp; done)) _)) y1
  clear y1
  clear m0 m1 m2 m3 m4 m5 m6 m7 m8 q0 q1 q2 q3 q4 q5 q6 q7 q8 X1
  go_wp2_with fail
  refine (W1.out _ _ h1).mono ?_
  rintro e w2 ⟨rfl, x2⟩
  have MM2 : Hid (H4 w2 (w.heap.size + 1 + 1) (.int .i64 r0) (.int .i64 0) (.int .i64 0) (.int .i64 0)) := MV1.out.ext x2
  have RR2 : Hid (H4 w2 (w.heap.size + 1) (.int .i64 0) (.int .i64 0) (.int .i64 0) (.int .i64 0)) := RV1.out.ext x2
  have X2 : Ext w w2 := XV1.trans x2
  clear x2 XV1
  obtain ⟨m0, m1, m2, m3, m4, m5, m6, m7, m8⟩ := MM2.out
  obtain ⟨q0, q1, q2, q3, q4, q5, q6, q7, q8⟩ := RR2.out
  go_wp2_with fail
  rw [rounds_succ]
  go_wp2_with fail
  refine (H2.out _ (by repeat (first | with_reducible assumption | with_reducible exact Ext.refl _ | with_reducible refine Ext.drew ?_ | with_reducible refine Ext.drewN ?_ _ | with_reducible refine Ext.alloc ?_ _ | with_reducible refine Ext.set ?_ (by first | exact Nat.le_refl _ | (dsimp only; omega) | (simp; done)) _))).mono ?_
  rintro e v2 ⟨⟨t2, rfl, h2⟩, y2⟩
  have MV2 : Hid (H4 v2 (w.heap.size + 1 + 1) (.int .i64 r0) (.int .i64 r1) (.int .i64 0) (.int .i64 0)) := (H4.alloc (H4.set1 MM2.out _) _).ext y2
  have RV2 : Hid (H4 v2 (w.heap.size + 1) (.int .i64 0) (.int .i64 0) (.int .i64 0) (.int .i64 0)) := (H4.alloc (H4.far RR2.out (by omega)) _).ext y2
  have XV2 : Ext w v2 := Ext.trans (by repeat (first | with_reducible assumption | with_reducible exact Ext.refl _ | with_reducible refine Ext.drew ?_ | with_reducible refine Ext.drewN ?_ _ | with_reducible refine Ext.alloc ?_ _ | with_reducible refine Ext.set ?_ (by first | exact Nat.le_refl _ | (dsimp only; omega) | (simp; done)) _)) y2
  clear y2
  clear m0 m1 m2 m3 m4 m5 m6 m7 m8 q0 q1 q2 q3 q4 q5 q6 q7 q8 X2
  go_wp2_with fail
  refine (W2.out _ _ h2).mono ?_
  rintro e w3 ⟨rfl, x3⟩
  have MM3 : Hid (H4 w3 (w.heap.size + 1 + 1) (.int .i64 r0) (.int .i64 r1) (.int .i64 0) (.int .i64 0)) := MV2.out.ext x3
  have RR3 : Hid (H4 w3 (w.heap.size + 1) (.int .i64 0) (.int .i64 0) (.int .i64 0) (.int .i64 0)) := RV2.out.ext x3
  have X3 : Ext w w3 := XV2.trans x3
  clear x3 XV2
  obtain ⟨m0, m1, m2, m3, m4, m5, m6, m7, m8⟩ := MM3.out
  obtain ⟨q0, q1, q2, q3, q4, q5, q6, q7, q8⟩ := RR3.out
  go_wp2_with fail
  rw [rounds_succ]
  go_wp2_with fail
  refine (H3.out _ (by repeat (first | with_reducible assumption | with_reducible exact Ext.refl _ | with_reducible refine Ext.drew ?_ | with_reducible refine Ext.drewN ?_ _ | with_reducible refine Ext.alloc ?_ _ | with_reducible refine Ext.set ?_ (by first | exact Nat.le_refl _ | (dsimp only; omega) | (simp; done)) _))).mono ?_
  rintro e v3 ⟨⟨t3, rfl, h3⟩, y3⟩
  have MV3 : Hid (H4 v3 (w.heap.size + 1 + 1) (.int .i64 r0) (.int .i64 r1) (.int .i64 r2) (.int .i64 0)) := (H4.alloc (H4.set2 MM3.out _) _).ext y3
  have RV3 : Hid (H4 v3 (w.heap.size + 1) (.int .i64 0) (.int .i64 0) (.int .i64 0) (.int .i64 0)) := (H4.alloc (H4.far RR3.out (by omega)) _).ext y3
  have XV3 : Ext w v3 := Ext.trans (by repeat (first | with_reducible assumption | with_reducible exact Ext.refl _ | with_reducible refine Ext.drew ?_ | with_reducible refine Ext.drewN ?_ _ | with_reducible refine Ext.alloc ?_ _ | with_reducible refine Ext.set ?_ (by first | exact Nat.le_refl _ | (dsimp only; omega) | (simp; done)) _)) y3
  clear y3
  clear m0 m1 m2 m3 m4 m5 m6 m7 m8 q0 q1 q2 q3 q4 q5 q6 q7 q8 X3
  go_wp2_with fail
  refine (W3.out _ _ h3).mono ?_
  rintro e w4 ⟨rfl, x4⟩
  have MM4 : Hid (H4 w4 (w.heap.size + 1 + 1) (.int .i64 r0) (.int .i64 r1) (.int .i64 r2) (.int .i64 0)) := MV3.out.ext x4
  have RR4 : Hid (H4 w4 (w.heap.size + 1) (.int .i64 0) (.int .i64 0) (.int .i64 0) (.int .i64 0)) := RV3.out.ext x4
  have X4 : Ext w w4 := XV3.trans x4
  clear x4 XV3
  obtain ⟨m0, m1, m2, m3, m4, m5, m6, m7, m8⟩ := MM4.out
  obtain ⟨q0, q1, q2, q3, q4, q5, q6, q7, q8⟩ := RR4.out
  go_wp2_with fail
  exact bodyPost_ret (v := .tuple #[.agg #[.int .i64 0, .int .i64 0, .int .i64 0, .int .i64 0], .int .i64 e3]) (by simp [results, Try.results22, go_sem, q0, q1, q2, q3]) rfl ⟨rfl, by repeat (first | with_reducible assumption | with_reducible exact Ext.refl _ | with_reducible refine Ext.drew ?_ | with_reducible refine Ext.drewN ?_ _ | with_reducible refine Ext.alloc ?_ _ | with_reducible refine Ext.set ?_ (by first | exact Nat.le_refl _ | (dsimp only; omega) | (simp; done)) _)⟩

set_option maxRecDepth 20000 in
set_option maxHeartbeats 4000000 in
theorem throughN_4 (a0 a1 a2 a3 a4 a5 a6 a7 a8 a9 a10 a11 Z0 Z1 Z2 Z3 r0 e0 r1 e1 r2 e2 r3 e3 : Int) (w : World) (k0 : e0 = 0) (k1 : e1 = 0) (k2 : e2 = 0) (k3 : e3 = 0)
    (H0 : Hid (∀ w', Ext w w' → Calls Try.prog 26 #[.agg #[.int .u64 a0, .int .u64 a1, .int .u64 a2]] w' fun e w'' => (∃ r, e = .returned r ∧ IsW r Z0) ∧ Ext w' w''))
    (W0 : Hid (∀ t w', IsW t Z0 → Calls Try.prog 37 #[t] w' fun e w'' => e = .returned (.tuple #[.int .i64 r0, .int .i64 e0]) ∧ Ext w' w''))
    (H1 : Hid (∀ w', Ext w w' → Calls Try.prog 26 #[.agg #[.int .u64 a3, .int .u64 a4, .int .u64 a5]] w' fun e w'' => (∃ r, e = .returned r ∧ IsW r Z1) ∧ Ext w' w''))
    (W1 : Hid (∀ t w', IsW t Z1 → Calls Try.prog 37 #[t] w' fun e w'' => e = .returned (.tuple #[.int .i64 r1, .int .i64 e1]) ∧ Ext w' w''))
    (H2 : Hid (∀ w', Ext w w' → Calls Try.prog 26 #[.agg #[.int .u64 a6, .int .u64 a7, .int .u64 a8]] w' fun e w'' => (∃ r, e = .returned r ∧ IsW r Z2) ∧ Ext w' w''))
    (W2 : Hid (∀ t w', IsW t Z2 → Calls Try.prog 37 #[t] w' fun e w'' => e = .returned (.tuple #[.int .i64 r2, .int .i64 e2]) ∧ Ext w' w''))
    (H3 : Hid (∀ w', Ext w w' → Calls Try.prog 26 #[.agg #[.int .u64 a9, .int .u64 a10, .int .u64 a11]] w' fun e w'' => (∃ r, e = .returned r ∧ IsW r Z3) ∧ Ext w' w''))
    (W3 : Hid (∀ t w', IsW t Z3 → Calls Try.prog 37 #[t] w' fun e w'' => e = .returned (.tuple #[.int .i64 r3, .int .i64 e3]) ∧ Ext w' w'')) :
    Calls Try.prog 22 #[.agg #[.int .u64 a0, .int .u64 a1, .int .u64 a2, .int .u64 a3, .int .u64 a4, .int .u64 a5, .int .u64 a6, .int .u64 a7, .int .u64 a8, .int .u64 a9, .int .u64 a10, .int .u64 a11], .func (.func 26) #[] #[]] w fun e w' => e = .returned (.tuple #[.agg #[.int .i64 r0, .int .i64 r1, .int .i64 r2, .int .i64 r3], .int .i64 0]) ∧ Ext w w' := by
  have i0 : ∀ w : World, (Instr.index 59 (.agg #[.int .u64 a0, .int .u64 a1, .int .u64 a2, .int .u64 a3, .int .u64 a4, .int .u64 a5, .int .u64 a6, .int .u64 a7, .int .u64 a8, .int .u64 a9, .int .u64 a10, .int .u64 a11]) (.int .i64 0)).run Try.prog w = .ok (.agg #[.int .u64 a0, .int .u64 a1, .int .u64 a2]) w := fun _ => by kernel_rfl
  have i1 : ∀ w : World, (Instr.index 59 (.agg #[.int .u64 a0, .int .u64 a1, .int .u64 a2, .int .u64 a3, .int .u64 a4, .int .u64 a5, .int .u64 a6, .int .u64 a7, .int .u64 a8, .int .u64 a9, .int .u64 a10, .int .u64 a11]) (.int .i64 1)).run Try.prog w = .ok (.agg #[.int .u64 a3, .int .u64 a4, .int .u64 a5]) w := fun _ => by kernel_rfl
  have i2 : ∀ w : World, (Instr.index 59 (.agg #[.int .u64 a0, .int .u64 a1, .int .u64 a2, .int .u64 a3, .int .u64 a4, .int .u64 a5, .int .u64 a6, .int .u64 a7, .int .u64 a8, .int .u64 a9, .int .u64 a10, .int .u64 a11]) (.int .i64 2)).run Try.prog w = .ok (.agg #[.int .u64 a6, .int .u64 a7, .int .u64 a8]) w := fun _ => by kernel_rfl
  have i3 : ∀ w : World, (Instr.index 59 (.agg #[.int .u64 a0, .int .u64 a1, .int .u64 a2, .int .u64 a3, .int .u64 a4, .int .u64 a5, .int .u64 a6, .int .u64 a7, .int .u64 a8, .int .u64 a9, .int .u64 a10, .int .u64 a11]) (.int .i64 3)).run Try.prog w = .ok (.agg #[.int .u64 a9, .int .u64 a10, .int .u64 a11]) w := fun _ => by kernel_rfl
  subst k0
  subst k1
  subst k2
  subst k3
  go_enter Try.func22, Try.ntmps22
  go_wp2_with fail
  refine wp_loop_rounds 5 ?_
  rw [rounds_succ]
  go_wp2_with fail
  refine (H0.out _ (by repeat (first | with_reducible assumption | with_reducible exact Ext.refl _ | with_reducible refine Ext.drew ?_ | with_reducible refine Ext.drewN ?_ _ | with_reducible refine Ext.alloc ?_ _ | with_reducible refine Ext.set ?_ (by first | exact Nat.le_refl _ | (dsimp only; omega) | (simp; done)) _))).mono ?_
  rintro e v0 ⟨⟨t0, rfl, h0⟩, y0⟩
  have MV0 : Hid (H4 v0 (w.heap.size + 1 + 1) (.int .i64 0) (.int .i64 0) (.int .i64 0) (.int .i64 0)) := (H4.alloc (h4_at (by simp)) _).ext y0
  have RV0 : Hid (H4 v0 (w.heap.size + 1) (.int .i64 0) (.int .i64 0) (.int .i64 0) (.int .i64 0)) := (H4.alloc (H4.alloc (h4_at (by simp)) _) _).ext y0
  have XV0 : Ext w v0 := Ext.trans (by repeat (first | with_reducible assumption | with_reducible exact Ext.refl _ | with_reducible refine Ext.drew ?_ | with_reducible refine Ext.drewN ?_ _ | with_reducible refine Ext.alloc ?_ _ | with_reducible refine Ext.set ?_ (by first | exact Nat.le_refl _ | (dsimp only; omega) | (simp; done)) _)) y0
  clear y0
  go_wp2_with fail
  refine (W0.out _ _ h0).mono ?_
  rintro e w1 ⟨rfl, x1⟩
  have MM1 : Hid (H4 w1 (w.heap.size + 1 + 1) (.int .i64 0) (.int .i64 0) (.int .i64 0) (.int .i64 0)) := MV0.out.ext x1
  have RR1 : Hid (H4 w1 (w.heap.size + 1) (.int .i64 0) (.int .i64 0) (.int .i64 0) (.int .i64 0)) := RV0.out.ext x1
  have X1 : Ext w w1 := XV0.trans x1
  clear x1 XV0
  obtain ⟨m0, m1, m2, m3, m4, m5, m6, m7, m8⟩ := MM1.out
  obtain ⟨q0, q1, q2, q3, q4, q5, q6, q7, q8⟩ := RR1.out
  go_wp2_with fail
  rw [rounds_succ]
  go_wp2_with fail
  refine (H1.out _ (by repeat (first | with_reducible assumption | with_reducible exact Ext.refl _ | with_reducible refine Ext.drew ?_ | with_reducible refine Ext.drewN ?_ _ | with_reducible refine Ext.alloc ?_ _ | with_reducible refine Ext.set ?_ (by first | exact Nat.le_refl _ | (dsimp only; omega) | (simp; done)) _))).mono ?_
  rintro e v1 ⟨⟨t1, rfl, h1⟩, y1⟩
  have MV1 : Hid (H4 v1 (w.heap.size + 1 + 1) (.int .i64 r0) (.int .i64 0) (.int .i64 0) (.int .i64 0)) := (H4.alloc (H4.set0 MM1.out _) _).ext y1
  have RV1 : Hid (H4 v1 (w.heap.size + 1) (.int .i64 0) (.int .i64 0) (.int .i64 0) (.int .i64 0)) := (H4.alloc (H4.far RR1.out (by omega)) _).ext y1
  have XV1 : Ext w v1 := Ext.trans (by repeat (first | with_reducible assumption | with_reducible exact Ext.refl _ | with_reducible refine Ext.drew ?_ | with_reducible refine Ext.drewN ?_ _ | with_reducible refine Ext.alloc ?_ _ | with_reducible refine Ext.set ?_ (by first | exact Nat.le_refl _ | (dsimp only; omega) | (simp; done)) _)) y1
  clear y1
  clear m0 m1 m2 m3 m4 m5 m6 m7 m8 q0 q1 q2 q3 q4 q5 q6 q7 q8 X1
  go_wp2_with fail
  refine (W1.out _ _ h1).mono ?_
  rintro e w2 ⟨rfl, x2⟩
  have MM2 : Hid (H4 w2 (w.heap.size + 1 + 1) (.int .i64 r0) (.int .i64 0) (.int .i64 0) (.int .i64 0)) := MV1.out.ext x2
  have RR2 : Hid (H4 w2 (w.heap.size + 1) (.int .i64 0) (.int .i64 0) (.int .i64 0) (.int .i64 0)) := RV1.out.ext x2
  have X2 : Ext w w2 := XV1.trans x2
  clear x2 XV1
  obtain ⟨m0, m1, m2, m3, m4, m5, m6, m7, m8⟩ := MM2.out
  obtain ⟨q0, q1, q2, q3, q4, q5, q6, q7, q8⟩ := RR2.out
  go_wp2_with fail
  rw [rounds_succ]
  go_wp2_with fail
  refine (H2.out _ (by repeat (first | with_reducible assumption | with_reducible exact Ext.refl _ | with_reducible refine Ext.drew ?_ | with_reducible refine Ext.drewN ?_ _ | with_reducible refine Ext.alloc ?_ _ | with_reducible refine Ext.set ?_ (by first | exact Nat.le_refl _ | (dsimp only; omega) | (simp; done)) _))).mono ?_
  rintro e v2 ⟨⟨t2, rfl, h2⟩, y2⟩
  have MV2 : Hid (H4 v2 (w.heap.size + 1 + 1) (.int .i64 r0) (.int .i64 r1) (.int .i64 0) (.int .i64 0)) := (H4.alloc (H4.set1 MM2.out _) _).ext y2
  have RV2 : Hid (H4 v2 (w.heap.size + 1) (.int .i64 0) (.int .i64 0) (.int .i64 0) (.int .i64 0)) := (H4.alloc (H4.far RR2.out (by omega)) _).ext y2
  have XV2 : Ext w v2 := Ext.trans (by repeat (first | with_reducible assumption | with_reducible exact Ext.refl _ | with_reducible refine Ext.drew ?_ | with_reducible refine Ext.drewN ?_ _ | with_reducible refine Ext.alloc ?_ _ | with_reducible refine Ext.set ?_ (by first | exact Nat.le_refl _ | (dsimp only; omega) | (simp; done)) _)) y2
  clear y2
  clear m0 m1 m2 m3 m4 m5 m6 m7 m8 q0 q1 q2 q3 q4 q5 q6 q7 q8 X2
  go_wp2_with fail
  refine (W2.out _ _ h2).mono ?_
  rintro e w3 ⟨rfl, x3⟩
  have MM3 : Hid (H4 w3 (w.heap.size + 1 + 1) (.int .i64 r0) (.int .i64 r1) (.int .i64 0) (.int .i64 0)) := MV2.out.ext x3
  have RR3 : Hid (H4 w3 (w.heap.size + 1) (.int .i64 0) (.int .i64 0) (.int .i64 0) (.int .i64 0)) := RV2.out.ext x3
  have X3 : Ext w w3 := XV2.trans x3
  clear x3 XV2
  obtain ⟨m0, m1, m2, m3, m4, m5, m6, m7, m8⟩ := MM3.out
  obtain ⟨q0, q1, q2, q3, q4, q5, q6, q7, q8⟩ := RR3.out
  go_wp2_with fail
  rw [rounds_succ]
  go_wp2_with fail
  refine (H3.out _ (by repeat (first | with_reducible assumption | with_reducible exact Ext.refl _ | with_reducible refine Ext.drew ?_ | with_reducible refine Ext.drewN ?_ _ | with_reducible refine Ext.alloc ?_ _ | with_reducible refine Ext.set ?_ (by first | exact Nat.le_refl _ | (dsimp only; omega) | (simp; done)) _))).mono ?_
  rintro e v3 ⟨⟨t3, rfl, h3⟩, y3⟩
  have MV3 : Hid (H4 v3 (w.heap.size + 1 + 1) (.int .i64 r0) (.int .i64 r1) (.int .i64 r2) (.int .i64 0)) := (H4.alloc (H4.set2 MM3.out _) _).ext y3
  have RV3 : Hid (H4 v3 (w.heap.size + 1) (.int .i64 0) (.int .i64 0) (.int .i64 0) (.int .i64 0)) := (H4.alloc (H4.far RR3.out (by omega)) _).ext y3
  have XV3 : Ext w v3 := Ext.trans (by repeat (first | with_reducible assumption | with_reducible exact Ext.refl _ | with_reducible refine Ext.drew ?_ | with_reducible refine Ext.drewN ?_ _ | with_reducible refine Ext.alloc ?_ _ | with_reducible refine Ext.set ?_ (by first | exact Nat.le_refl _ | (dsimp only; omega) | (simp; done)) _)) y3
  clear y3
  clear m0 m1 m2 m3 m4 m5 m6 m7 m8 q0 q1 q2 q3 q4 q5 q6 q7 q8 X3
  go_wp2_with fail
  refine (W3.out _ _ h3).mono ?_
  rintro e w4 ⟨rfl, x4⟩
  have MM4 : Hid (H4 w4 (w.heap.size + 1 + 1) (.int .i64 r0) (.int .i64 r1) (.int .i64 r2) (.int .i64 0)) := MV3.out.ext x4
  have RR4 : Hid (H4 w4 (w.heap.size + 1) (.int .i64 0) (.int .i64 0) (.int .i64 0) (.int .i64 0)) := RV3.out.ext x4
  have X4 : Ext w w4 := XV3.trans x4
  clear x4 XV3
  obtain ⟨m0, m1, m2, m3, m4, m5, m6, m7, m8⟩ := MM4.out
  obtain ⟨q0, q1, q2, q3, q4, q5, q6, q7, q8⟩ := RR4.out
  go_wp2_with fail
  rw [rounds_succ]
  go_wp2_with fail
  exact bodyPost_ret (v := .tuple #[.agg #[.int .i64 r0, .int .i64 r1, .int .i64 r2, .int .i64 r3], .int .i64 0]) (by simp [results, Try.results22, go_sem, q0, q1, q2, q3]) rfl ⟨rfl, by repeat (first | with_reducible assumption | with_reducible exact Ext.refl _ | with_reducible refine Ext.drew ?_ | with_reducible refine Ext.drewN ?_ _ | with_reducible refine Ext.alloc ?_ _ | with_reducible refine Ext.set ?_ (by first | exact Nat.le_refl _ | (dsimp only; omega) | (simp; done)) _)⟩

theorem throughN_any (a0 a1 a2 a3 a4 a5 a6 a7 a8 a9 a10 a11 Z0 Z1 Z2 Z3 : Int) (w : World) (z0 : InW Z0) (z1 : InW Z1) (z2 : InW Z2) (z3 : InW Z3)
    (H0 : ∀ w', Ext w w' → Calls Try.prog 26 #[.agg #[.int .u64 a0, .int .u64 a1, .int .u64 a2]] w' fun e w'' => (∃ r, e = .returned r ∧ IsW r Z0) ∧ Ext w' w'')
    (H1 : ∀ w', Ext w w' → Calls Try.prog 26 #[.agg #[.int .u64 a3, .int .u64 a4, .int .u64 a5]] w' fun e w'' => (∃ r, e = .returned r ∧ IsW r Z1) ∧ Ext w' w'')
    (H2 : ∀ w', Ext w w' → Calls Try.prog 26 #[.agg #[.int .u64 a6, .int .u64 a7, .int .u64 a8]] w' fun e w'' => (∃ r, e = .returned r ∧ IsW r Z2) ∧ Ext w' w'')
    (H3 : ∀ w', Ext w w' → Calls Try.prog 26 #[.agg #[.int .u64 a9, .int .u64 a10, .int .u64 a11]] w' fun e w'' => (∃ r, e = .returned r ∧ IsW r Z3) ∧ Ext w' w'') :
    Calls Try.prog 22 #[.agg #[.int .u64 a0, .int .u64 a1, .int .u64 a2, .int .u64 a3, .int .u64 a4, .int .u64 a5, .int .u64 a6, .int .u64 a7, .int .u64 a8, .int .u64 a9, .int .u64 a10, .int .u64 a11], .func (.func 26) #[] #[]] w fun e w' => e = .returned (qres Z0 Z1 Z2 Z3) ∧ Ext w w' := by
  rw [← thr4_fit]
  unfold thr4
  have V0 : ∀ t w', IsW t Z0 → _ := fun t w' ht => wordw_any Z0 t w' ht z0
  have V1 : ∀ t w', IsW t Z1 → _ := fun t w' ht => wordw_any Z1 t w' ht z1
  have V2 : ∀ t w', IsW t Z2 → _ := fun t w' ht => wordw_any Z2 t w' ht z2
  have V3 : ∀ t w', IsW t Z3 → _ := fun t w' ht => wordw_any Z3 t w' ht z3
  by_cases k0 : (fitR Z0).2 = 0
  · rw [if_pos k0]
    by_cases k1 : (fitR Z1).2 = 0
    · rw [if_pos k1]
      by_cases k2 : (fitR Z2).2 = 0
      · rw [if_pos k2]
        by_cases k3 : (fitR Z3).2 = 0
        · rw [if_pos k3]
          exact throughN_4 _ _ _ _ _ _ _ _ _ _ _ _ _ _ _ _ _ _ _ _ _ _ _ _ w k0 k1 k2 k3 H0 V0 H1 V1 H2 V2 H3 V3
        · rw [if_neg k3]
          exact throughN_3 _ _ _ _ _ _ _ _ _ _ _ _ _ _ _ _ _ _ _ _ _ _ _ _ w k0 k1 k2 (by simp [k3]) H0 V0 H1 V1 H2 V2 H3 V3
      · rw [if_neg k2]
        exact throughN_2 _ _ _ _ _ _ _ _ _ _ _ _ _ _ _ _ _ _ _ _ _ _ _ _ w k0 k1 (by simp [k2]) H0 V0 H1 V1 H2 V2 H3 V3
    · rw [if_neg k1]
      exact throughN_1 _ _ _ _ _ _ _ _ _ _ _ _ _ _ _ _ _ _ _ _ _ _ _ _ w k0 (by simp [k1]) H0 V0 H1 V1 H2 V2 H3 V3
  · rw [if_neg k0]
    exact throughN_0 _ _ _ _ _ _ _ _ _ _ _ _ _ _ _ _ _ _ _ _ _ _ _ _ w (by simp [k0]) H0 V0 H1 V1 H2 V2 H3 V3
end Go.Proofs.Ytfmalpnlencmbaa

namespace Go.Proofs.Ytfmalpnlencmbaa
open Go.RowKit Go.Shelf

set_option maxHeartbeats 4000000 in
theorem eqQ (x y z u a b c d : Int) (w : World) : (Op.equalIn 10000 24 (.agg #[.int .i64 x, .int .i64 y, .int .i64 z, .int .i64 u]) (.agg #[.int .i64 a, .int .i64 b, .int .i64 c, .int .i64 d])).run Try.prog w = .ok (x == a && (y == b && (z == c && u == d))) w := by
  by_cases hx : x = a <;> by_cases hy : y = b <;> by_cases hz : z = c <;> by_cases hu : u = d <;> simp [go_sem, hx, hy, hz, hu]

set_option maxHeartbeats 2000000 in
theorem qinQ30_any (z : Int) (u : Value) (w : World) (hu : IsW u z) (hz : InW (z + 536870912)) (hz' : InW z) :
    Calls Try.prog 26 #[u] w fun e w' => (∃ r, e = .returned r ∧ IsW r (nearQ z)) ∧ Ext w w' := by
  have HO : Hid (∀ w', Calls Try.prog 42 #[u, .int .i64 30] w' fun e w'' => (∃ r, e = .returned r ∧ IsW r (nearQ z)) ∧ Ext w' w'') := fun w' => nearestw_any z u w' hu hz hz'
  obtain ⟨a0, a1, a2, rfl, ha⟩ := hu
  clear ha hz hz'
  go_enter Try.func26, Try.ntmps26
  go_wp2_with fail
  refine (HO.out _).mono ?_
  rintro e w1 ⟨⟨r, rfl, s0, s1, s2, rfl, hr⟩, x1⟩
  have HR : Hid _ := hr
  clear hr
  have X1 : Ext w w1 := Ext.trans (by repeat (first | with_reducible assumption | with_reducible exact Ext.refl _ | with_reducible refine Ext.drew ?_ | with_reducible refine Ext.drewN ?_ _ | with_reducible refine Ext.alloc ?_ _ | with_reducible refine Ext.set ?_ (by first | exact Nat.le_refl _ | (dsimp only; omega) | (simp; done)) _)) x1
  obtain ⟨c0, c1, c2, c3, c4, c5, c6⟩ : H3 w1 (w.heap.size + 1) _ _ _ := (h3_at (by simp)).ext x1
  clear x1
  go_wp2_with fail
  exact bodyPost_ret (v := .agg #[.int .u64 s0, .int .u64 s1, .int .u64 s2]) (by simp [results, Try.results26, go_sem, c0, c1, c2]) rfl ⟨⟨_, rfl, _, _, _, rfl, HR.out⟩, by repeat (first | with_reducible assumption | with_reducible exact Ext.refl _ | with_reducible refine Ext.drew ?_ | with_reducible refine Ext.drewN ?_ _ | with_reducible refine Ext.alloc ?_ _ | with_reducible refine Ext.set ?_ (by first | exact Nat.le_refl _ | (dsimp only; omega) | (simp; done)) _)⟩

theorem le_sq4 (a b c d : Int) : a.natAbs * a.natAbs ≤ sq4 a b c d ∧ b.natAbs * b.natAbs ≤ sq4 a b c d ∧ c.natAbs * c.natAbs ≤ sq4 a b c d ∧ d.natAbs * d.natAbs ≤ sq4 a b c d := by
  unfold sq4; refine ⟨?_, ?_, ?_, ?_⟩ <;> omega
theorem word_abs {a : Int} (h : okW a = true) : a.natAbs < 35184372088832 := by unfold okW at h; simp at h; omega
theorem sgd_le {v : Int} {k : Nat} : (sgd v k).natAbs = k := by unfold sgd; split <;> omega
theorem unit_k_le {v : Int} {n k : Nat} (hn : 0 < n) (hv : v.natAbs * v.natAbs ≤ n) (hk : RootQ (v.natAbs * v.natAbs * 1152921504606846976) n k) : k ≤ 1073741824 := by
  apply Nat.le_of_not_lt
  intro hc
  rcases hk.2.1 with h | h
  · omega
  · have h1 : 2147483649 * 2147483649 ≤ (2 * k - 1) * (2 * k - 1) := Nat.mul_le_mul (by omega) (by omega)
    have h2 : 2147483649 * 2147483649 * n ≤ (2 * k - 1) * (2 * k - 1) * n := Nat.mul_le_mul_right _ h1
    have h3 : v.natAbs * v.natAbs * 1152921504606846976 ≤ n * 1152921504606846976 := Nat.mul_le_mul_right _ hv
    omega
theorem chk4_y {a b c d : Int} (h : ok4 a b c d = true) : chk4 a b c d = 0 := by unfold chk4; rw [if_pos h]
end Go.Proofs.Ytfmalpnlencmbaa

namespace Go.Proofs.Ytfmalpnlencmbaa
open Go.RowKit Go.Shelf

/-- the four roots of a unit's squares are together nearly 2^60 -/
theorem unit_sum (n p0 p1 p2 p3 k0 k1 k2 k3 : Nat) (h0 : 0 < n) (hn : p0 + p1 + p2 + p3 = n)
    (q0 : RootQ (p0 * 1152921504606846976) n k0) (q1 : RootQ (p1 * 1152921504606846976) n k1) (q2 : RootQ (p2 * 1152921504606846976) n k2) (q3 : RootQ (p3 * 1152921504606846976) n k3) :
    1152921504606846976 ≤ k0 * k0 + k1 * k1 + k2 * k2 + k3 * k3 + 2147483657 ∧ k0 * k0 + k1 * k1 + k2 * k2 + k3 * k3 ≤ 1152921504606846976 + 2147483656 := by
  have up : 4 * 1152921504606846976 * n ≤ ((2 * k0 + 1) * (2 * k0 + 1) + (2 * k1 + 1) * (2 * k1 + 1) + (2 * k2 + 1) * (2 * k2 + 1) + (2 * k3 + 1) * (2 * k3 + 1)) * n := by
    have a0 := q0.1; have a1 := q1.1; have a2 := q2.1; have a3 := q3.1
    rw [Nat.add_mul, Nat.add_mul, Nat.add_mul]
    omega
  have up2 := Nat.le_of_mul_le_mul_right up h0
  have g : ∀ p k : Nat, RootQ (p * 1152921504606846976) n k → ((4 * (k * k) - 4 * k : Nat) : Nat) * n ≤ 4 * (p * 1152921504606846976) := by
    intro p k q
    rcases q.2.1 with h | h
    · subst h; simp
    · refine Nat.le_trans (Nat.mul_le_mul_right n ?_) h
      rcases k with _ | k
      · omega
      · have e : 2 * (k + 1) - 1 = 2 * k + 1 := by omega
        rw [e]
        have e2 : 4 * ((k + 1) * (k + 1)) = 4 * (k * k) + 8 * k + 4 := by grind
        have e3 : (2 * k + 1) * (2 * k + 1) = 4 * (k * k) + 4 * k + 1 := by grind
        omega
  have dn : ((4 * (k0 * k0) - 4 * k0) + (4 * (k1 * k1) - 4 * k1) + (4 * (k2 * k2) - 4 * k2) + (4 * (k3 * k3) - 4 * k3)) * n ≤ 4 * 1152921504606846976 * n := by
    have a0 := g _ _ q0; have a1 := g _ _ q1; have a2 := g _ _ q2; have a3 := g _ _ q3
    rw [Nat.add_mul, Nat.add_mul, Nat.add_mul]
    omega
  have dn2 := Nat.le_of_mul_le_mul_right dn h0
  have e0 : (2 * k0 + 1) * (2 * k0 + 1) = 4 * (k0 * k0) + 4 * k0 + 1 := by grind
  have e1 : (2 * k1 + 1) * (2 * k1 + 1) = 4 * (k1 * k1) + 4 * k1 + 1 := by grind
  have e2 : (2 * k2 + 1) * (2 * k2 + 1) = 4 * (k2 * k2) + 4 * k2 + 1 := by grind
  have e3 : (2 * k3 + 1) * (2 * k3 + 1) = 4 * (k3 * k3) + 4 * k3 + 1 := by grind
  rw [e0, e1, e2, e3] at up2
  have c : ((k0 : Int) + k1 + k2 + k3) * ((k0 : Int) + k1 + k2 + k3) ≤ 4 * ((k0 : Int) * k0 + (k1 : Int) * k1 + (k2 : Int) * k2 + (k3 : Int) * k3) := by
    have s1 := sq_nonneg ((k0 : Int) - k1); have s2 := sq_nonneg ((k0 : Int) - k2); have s3 := sq_nonneg ((k0 : Int) - k3)
    have s4 := sq_nonneg ((k1 : Int) - k2); have s5 := sq_nonneg ((k1 : Int) - k3); have s6 := sq_nonneg ((k2 : Int) - k3)
    have e : 4 * ((k0 : Int) * k0 + (k1 : Int) * k1 + (k2 : Int) * k2 + (k3 : Int) * k3) - ((k0 : Int) + k1 + k2 + k3) * ((k0 : Int) + k1 + k2 + k3) = ((k0 : Int) - k1) * ((k0 : Int) - k1) + ((k0 : Int) - k2) * ((k0 : Int) - k2) + ((k0 : Int) - k3) * ((k0 : Int) - k3) + ((k1 : Int) - k2) * ((k1 : Int) - k2) + ((k1 : Int) - k3) * ((k1 : Int) - k3) + ((k2 : Int) - k3) * ((k2 : Int) - k3) := by grind
    omega
  obtain ⟨S, hS⟩ : ∃ S : Nat, S = k0 + k1 + k2 + k3 := ⟨_, rfl⟩
  obtain ⟨K, hK⟩ : ∃ K : Nat, K = k0 * k0 + k1 * k1 + k2 * k2 + k3 * k3 := ⟨_, rfl⟩
  have c' : (S : Int) * S ≤ 4 * (K : Int) := by
    have eS : (S : Int) = (k0 : Int) + k1 + k2 + k3 := by omega
    have eK : (K : Int) = (k0 : Int) * k0 + (k1 : Int) * k1 + (k2 : Int) * k2 + (k3 : Int) * k3 := by rw [hK]; simp
    rw [eS, eK]; exact c
  have l1 : K ≤ 1152921504606846976 + S := by omega
  have l2 : 1152921504606846976 ≤ K + S + 1 := by omega
  have l3 : S ≤ 2147483656 := by
    apply Nat.le_of_not_lt
    intro hc
    have : (2147483657 : Int) * (2147483657 - 4) ≤ (S : Int) * ((S : Int) - 4) := Int.mul_le_mul (by omega) (by omega) (by omega) (by omega)
    have ee : (S : Int) * ((S : Int) - 4) = (S : Int) * S - 4 * S := by grind
    rw [ee] at this
    omega
  omega

theorem mul_abs {m f C : Int} (h1 : -C ≤ f) (h2 : f ≤ C) : m * f ≤ (m.natAbs : Int) * C ∧ -((m.natAbs : Int) * C) ≤ m * f := by
  by_cases h : 0 ≤ m
  · have e : (m.natAbs : Int) = m := by omega
    rw [e]
    refine ⟨Int.mul_le_mul_of_nonneg_left h2 h, ?_⟩
    rw [← Int.mul_neg]
    exact Int.mul_le_mul_of_nonneg_left h1 h
  · have e : (m.natAbs : Int) = -m := by omega
    rw [e]
    have e1 : m * f = -m * -f := by rw [Int.neg_mul_neg]
    rw [e1]
    refine ⟨Int.mul_le_mul_of_nonneg_left (by omega) (by omega), ?_⟩
    rw [← Int.mul_neg]
    exact Int.mul_le_mul_of_nonneg_left (by omega) (by omega)
theorem sum_abs (m0 m1 m2 m3 H : Int) (hH : 0 ≤ H) (h : m0 * m0 + m1 * m1 + m2 * m2 + m3 * m3 ≤ H * H) : (m0.natAbs : Int) + m1.natAbs + m2.natAbs + m3.natAbs ≤ 2 * H := by
  have sq : ∀ m : Int, m * m = (m.natAbs : Int) * m.natAbs := fun m => (Int.natAbs_mul_self' m).symm
  rw [sq m0, sq m1, sq m2, sq m3] at h
  generalize (m0.natAbs : Int) = a0 at *
  generalize (m1.natAbs : Int) = a1 at *
  generalize (m2.natAbs : Int) = a2 at *
  generalize (m3.natAbs : Int) = a3 at *
  apply Classical.byContradiction
  intro hc
  have s1 := sq_nonneg (a0 - a1); have s2 := sq_nonneg (a0 - a2); have s3 := sq_nonneg (a0 - a3)
  have s4 := sq_nonneg (a1 - a2); have s5 := sq_nonneg (a1 - a3); have s6 := sq_nonneg (a2 - a3)
  have e : 4 * (a0 * a0 + a1 * a1 + a2 * a2 + a3 * a3) - (a0 + a1 + a2 + a3) * (a0 + a1 + a2 + a3) = (a0 - a1) * (a0 - a1) + (a0 - a2) * (a0 - a2) + (a0 - a3) * (a0 - a3) + (a1 - a2) * (a1 - a2) + (a1 - a3) * (a1 - a3) + (a2 - a3) * (a2 - a3) := by grind
  have l : (2 * H + 1) * (2 * H + 1) ≤ (a0 + a1 + a2 + a3) * (a0 + a1 + a2 + a3) := Int.mul_le_mul (by omega) (by omega) (by omega) (by omega)
  have l2 : (2 * H + 1) * (2 * H + 1) = 4 * (H * H) + 4 * H + 1 := by grind
  omega
/-- a product of units, rounded, is nearly one -/
theorem mul_sum (A B m0 m1 m2 m3 c0 c1 c2 c3 : Int) (hA : 1152921504606846976 - 2147483657 ≤ A ∧ A ≤ 1152921504606846976 + 2147483656) (hB : 1152921504606846976 - 2147483657 ≤ B ∧ B ≤ 1152921504606846976 + 2147483656)
    (hm : m0 * m0 + m1 * m1 + m2 * m2 + m3 * m3 = A * B) (n0 : IsNear m0 1073741824 c0) (n1 : IsNear m1 1073741824 c1) (n2 : IsNear m2 1073741824 c2) (n3 : IsNear m3 1073741824 c3) :
    1152921504606846976 - 6442451000 ≤ c0 * c0 + c1 * c1 + c2 * c2 + c3 * c3 ∧ c0 * c0 + c1 * c1 + c2 * c2 + c3 * c3 ≤ 1152921504606846976 + 6442451000 := by
  have ab1 : A * B ≤ (1152921504606846976 + 2147483656) * (1152921504606846976 + 2147483656) := Int.mul_le_mul hA.2 hB.2 (by omega) (by omega)
  have ab2 : (1152921504606846976 - 2147483657) * (1152921504606846976 - 2147483657) ≤ A * B := Int.mul_le_mul hA.1 hB.1 (by omega) (by omega)
  have sm := sum_abs m0 m1 m2 m3 (1152921504606846976 + 2147483656) (by omega) (by omega)
  obtain ⟨f0, e0⟩ : ∃ f, f = 1073741824 * c0 - m0 := ⟨_, rfl⟩
  obtain ⟨f1, e1⟩ : ∃ f, f = 1073741824 * c1 - m1 := ⟨_, rfl⟩
  obtain ⟨f2, e2⟩ : ∃ f, f = 1073741824 * c2 - m2 := ⟨_, rfl⟩
  obtain ⟨f3, e3⟩ : ∃ f, f = 1073741824 * c3 - m3 := ⟨_, rfl⟩
  have b0 : -536870912 ≤ f0 ∧ f0 ≤ 536870912 := by have := n0.1; have := n0.2.1; omega
  have b1 : -536870912 ≤ f1 ∧ f1 ≤ 536870912 := by have := n1.1; have := n1.2.1; omega
  have b2 : -536870912 ≤ f2 ∧ f2 ≤ 536870912 := by have := n2.1; have := n2.2.1; omega
  have b3 : -536870912 ≤ f3 ∧ f3 ≤ 536870912 := by have := n3.1; have := n3.2.1; omega
  have p0 := mul_abs (m := m0) b0.1 b0.2; have p1 := mul_abs (m := m1) b1.1 b1.2
  have p2 := mul_abs (m := m2) b2.1 b2.2; have p3 := mul_abs (m := m3) b3.1 b3.2
  have sqb : ∀ f : Int, -536870912 ≤ f ∧ f ≤ 536870912 → f * f ≤ 288230376151711744 := fun f hf => by
    have h := mul_abs (m := f) hf.1 hf.2
    have : (f.natAbs : Int) ≤ 536870912 := by omega
    omega
  have g0 := sqb f0 b0; have g1 := sqb f1 b1; have g2 := sqb f2 b2; have g3 := sqb f3 b3
  have z0 := sq_nonneg f0; have z1 := sq_nonneg f1; have z2 := sq_nonneg f2; have z3 := sq_nonneg f3
  have key : 1152921504606846976 * (c0 * c0 + c1 * c1 + c2 * c2 + c3 * c3) = A * B + 2 * (m0 * f0 + m1 * f1 + m2 * f2 + m3 * f3) + (f0 * f0 + f1 * f1 + f2 * f2 + f3 * f3) := by
    rw [← hm, e0, e1, e2, e3]; grind
  clear e0 e1 e2 e3 hm sqb
  generalize c0 * c0 + c1 * c1 + c2 * c2 + c3 * c3 = T at *
  generalize A * B = AB at *
  generalize m0 * f0 = F0 at *
  generalize m1 * f1 = F1 at *
  generalize m2 * f2 = F2 at *
  generalize m3 * f3 = F3 at *
  generalize f0 * f0 = G0 at *
  generalize f1 * f1 = G1 at *
  generalize f2 * f2 = G2 at *
  generalize f3 * f3 = G3 at *
  omega
theorem quat_sq (a b c d x y z t : Int) : qw a b c d x y z t * qw a b c d x y z t + qx a b c d x y z t * qx a b c d x y z t + qy a b c d x y z t * qy a b c d x y z t + qz a b c d x y z t * qz a b c d x y z t = (a * a + b * b + c * c + d * d) * (x * x + y * y + z * z + t * t) := by
  unfold qw qx qy qz; grind
theorem nearQ_IsNear (z : Int) : IsNear z 1073741824 (nearQ z) := by
  unfold IsNear nearQ oddQ; refine ⟨?_, ?_, ?_⟩ <;> omega
end Go.Proofs.Ytfmalpnlencmbaa
