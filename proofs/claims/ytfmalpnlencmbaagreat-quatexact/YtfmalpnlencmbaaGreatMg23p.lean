/- quat: through, by inQ30. quat: Unit, Norm. Plain numbers: units, and products of units. -/
import Derived.Test.YtfmalpnlencmbaaGreatMg9p
import Derived.Test.YtfmalpnlencmbaaGreatMg22p
import Derived.Test.YtfmalpnlencmbaaGreatQ2mp
import Derived.Test.YtfmalpnlencmbaaGreatMg11p
import Derived.Test.YtfmalpnlencmbaaGreatW9mp
namespace Go.Proofs.YtfmalpnlencmbaaGreat
open Go.RowKit Go.Shelf

set_option maxRecDepth 20000 in
set_option maxHeartbeats 4000000 in
theorem throughN_0 (a0 a1 a2 a3 a4 a5 a6 a7 a8 a9 a10 a11 Z0 Z1 Z2 Z3 r0 e0 r1 e1 r2 e2 r3 e3 : Int) (w : World) (n0 : (e0 != 0) = true)
    (H0 : Hid (∀ w', Ext w w' → Calls Tryz.prog 91 #[.agg #[.int .u64 a0, .int .u64 a1, .int .u64 a2]] w' fun e w'' => (∃ r, e = .returned r ∧ IsW r Z0) ∧ Ext w' w''))
    (W0 : Hid (∀ t w', IsW t Z0 → Calls Tryz.prog 96 #[t] w' fun e w'' => e = .returned (.tuple #[.int .i64 r0, .int .i64 e0]) ∧ Ext w' w''))
    (_H1 : Hid (∀ w', Ext w w' → Calls Tryz.prog 91 #[.agg #[.int .u64 a3, .int .u64 a4, .int .u64 a5]] w' fun e w'' => (∃ r, e = .returned r ∧ IsW r Z1) ∧ Ext w' w''))
    (_W1 : Hid (∀ t w', IsW t Z1 → Calls Tryz.prog 96 #[t] w' fun e w'' => e = .returned (.tuple #[.int .i64 r1, .int .i64 e1]) ∧ Ext w' w''))
    (_H2 : Hid (∀ w', Ext w w' → Calls Tryz.prog 91 #[.agg #[.int .u64 a6, .int .u64 a7, .int .u64 a8]] w' fun e w'' => (∃ r, e = .returned r ∧ IsW r Z2) ∧ Ext w' w''))
    (_W2 : Hid (∀ t w', IsW t Z2 → Calls Tryz.prog 96 #[t] w' fun e w'' => e = .returned (.tuple #[.int .i64 r2, .int .i64 e2]) ∧ Ext w' w''))
    (_H3 : Hid (∀ w', Ext w w' → Calls Tryz.prog 91 #[.agg #[.int .u64 a9, .int .u64 a10, .int .u64 a11]] w' fun e w'' => (∃ r, e = .returned r ∧ IsW r Z3) ∧ Ext w' w''))
    (_W3 : Hid (∀ t w', IsW t Z3 → Calls Tryz.prog 96 #[t] w' fun e w'' => e = .returned (.tuple #[.int .i64 r3, .int .i64 e3]) ∧ Ext w' w'')) :
    Calls Tryz.prog 87 #[.agg #[.int .u64 a0, .int .u64 a1, .int .u64 a2, .int .u64 a3, .int .u64 a4, .int .u64 a5, .int .u64 a6, .int .u64 a7, .int .u64 a8, .int .u64 a9, .int .u64 a10, .int .u64 a11], .func (.func 91) #[] #[]] w fun e w' => e = .returned (.tuple #[.agg #[.int .i64 0, .int .i64 0, .int .i64 0, .int .i64 0], .int .i64 e0]) ∧ Ext w w' := by
  have i0 : ∀ w : World, (Instr.index 131 (.agg #[.int .u64 a0, .int .u64 a1, .int .u64 a2, .int .u64 a3, .int .u64 a4, .int .u64 a5, .int .u64 a6, .int .u64 a7, .int .u64 a8, .int .u64 a9, .int .u64 a10, .int .u64 a11]) (.int .i64 0)).run Tryz.prog w = .ok (.agg #[.int .u64 a0, .int .u64 a1, .int .u64 a2]) w := fun _ => by kernel_rfl
  go_enter Tryz.func87, Tryz.ntmps87
  go_wp2_with fail
  refine wp_loop_rounds 5 ?_
  rw [rounds_succ]
  go_wp2_with fail
  refine (H0.out _ (by repeat (first | with_reducible assumption | with_reducible exact Ext.refl _ | with_reducible refine Ext.drew ?_ | with_reducible refine Ext.drewN ?_ _ | with_reducible refine Ext.alloc ?_ _ | with_reducible refine Ext.set ?_ (by first | exact Nat.le_refl _ | (dsimp only; omega) | (simp; done)) _))).mono ?_
  rintro e v0 ⟨⟨t0, rfl, h0⟩, y0⟩
  have MV0 : Hid (H4 v0 (w.heap.size + 1 + 1) (.int .i64 0) (.int .i64 0) (.int .i64 0) (.int .i64 0)) := (H4.alloc (h4_at (by simp)) _).ext y0
  have RV0 : Hid (H4 v0 (w.heap.size + 1) (.int .i64 0) (.int .i64 0) (.int .i64 0) (.int .i64 0)) := (H4.alloc (H4.alloc (h4_at (by simp)) _) _).ext y0
  have XV0 : Ext w v0 := Ext.trans (by repeat (first | with_reducible assumption | with_reducible exact Ext.refl _ | with_reducible refine Ext.drew ?_ | with_reducible refine Ext.drewN ?_ _ | with_reducible refine Ext.alloc ?_ _ | with_reducible refine Ext.set ?_ (by first | exact Nat.le_refl _ | (dsimp only; omega) | (simp; done)) _)) y0
  clear y0
  go_wp2_with fail
  refine (W0.out _ _ h0).mono ?_
  rintro e w1 ⟨rfl, x1⟩
  have MM1 : Hid (H4 w1 (w.heap.size + 1 + 1) (.int .i64 0) (.int .i64 0) (.int .i64 0) (.int .i64 0)) := MV0.out.ext x1
  have RR1 : Hid (H4 w1 (w.heap.size + 1) (.int .i64 0) (.int .i64 0) (.int .i64 0) (.int .i64 0)) := RV0.out.ext x1
  have X1 : Ext w w1 := XV0.trans x1
  clear x1 XV0
  obtain ⟨m0, m1, m2, m3, m4, m5, m6, m7, m8⟩ := MM1.out
  obtain ⟨q0, q1, q2, q3, q4, q5, q6, q7, q8⟩ := RR1.out
  go_wp2_with fail
  exact bodyPost_ret (v := .tuple #[.agg #[.int .i64 0, .int .i64 0, .int .i64 0, .int .i64 0], .int .i64 e0]) (by simp [results, Tryz.results87, go_sem, q0, q1, q2, q3]) rfl ⟨rfl, by repeat (first | with_reducible assumption | with_reducible exact Ext.refl _ | with_reducible refine Ext.drew ?_ | with_reducible refine Ext.drewN ?_ _ | with_reducible refine Ext.alloc ?_ _ | with_reducible refine Ext.set ?_ (by first | exact Nat.le_refl _ | (dsimp only; omega) | (simp; done)) _)⟩

set_option maxRecDepth 20000 in
set_option maxHeartbeats 4000000 in
theorem throughN_1 (a0 a1 a2 a3 a4 a5 a6 a7 a8 a9 a10 a11 Z0 Z1 Z2 Z3 r0 e0 r1 e1 r2 e2 r3 e3 : Int) (w : World) (k0 : e0 = 0) (n1 : (e1 != 0) = true)
    (H0 : Hid (∀ w', Ext w w' → Calls Tryz.prog 91 #[.agg #[.int .u64 a0, .int .u64 a1, .int .u64 a2]] w' fun e w'' => (∃ r, e = .returned r ∧ IsW r Z0) ∧ Ext w' w''))
    (W0 : Hid (∀ t w', IsW t Z0 → Calls Tryz.prog 96 #[t] w' fun e w'' => e = .returned (.tuple #[.int .i64 r0, .int .i64 e0]) ∧ Ext w' w''))
    (H1 : Hid (∀ w', Ext w w' → Calls Tryz.prog 91 #[.agg #[.int .u64 a3, .int .u64 a4, .int .u64 a5]] w' fun e w'' => (∃ r, e = .returned r ∧ IsW r Z1) ∧ Ext w' w''))
    (W1 : Hid (∀ t w', IsW t Z1 → Calls Tryz.prog 96 #[t] w' fun e w'' => e = .returned (.tuple #[.int .i64 r1, .int .i64 e1]) ∧ Ext w' w''))
    (_H2 : Hid (∀ w', Ext w w' → Calls Tryz.prog 91 #[.agg #[.int .u64 a6, .int .u64 a7, .int .u64 a8]] w' fun e w'' => (∃ r, e = .returned r ∧ IsW r Z2) ∧ Ext w' w''))
    (_W2 : Hid (∀ t w', IsW t Z2 → Calls Tryz.prog 96 #[t] w' fun e w'' => e = .returned (.tuple #[.int .i64 r2, .int .i64 e2]) ∧ Ext w' w''))
    (_H3 : Hid (∀ w', Ext w w' → Calls Tryz.prog 91 #[.agg #[.int .u64 a9, .int .u64 a10, .int .u64 a11]] w' fun e w'' => (∃ r, e = .returned r ∧ IsW r Z3) ∧ Ext w' w''))
    (_W3 : Hid (∀ t w', IsW t Z3 → Calls Tryz.prog 96 #[t] w' fun e w'' => e = .returned (.tuple #[.int .i64 r3, .int .i64 e3]) ∧ Ext w' w'')) :
    Calls Tryz.prog 87 #[.agg #[.int .u64 a0, .int .u64 a1, .int .u64 a2, .int .u64 a3, .int .u64 a4, .int .u64 a5, .int .u64 a6, .int .u64 a7, .int .u64 a8, .int .u64 a9, .int .u64 a10, .int .u64 a11], .func (.func 91) #[] #[]] w fun e w' => e = .returned (.tuple #[.agg #[.int .i64 0, .int .i64 0, .int .i64 0, .int .i64 0], .int .i64 e1]) ∧ Ext w w' := by
  have i0 : ∀ w : World, (Instr.index 131 (.agg #[.int .u64 a0, .int .u64 a1, .int .u64 a2, .int .u64 a3, .int .u64 a4, .int .u64 a5, .int .u64 a6, .int .u64 a7, .int .u64 a8, .int .u64 a9, .int .u64 a10, .int .u64 a11]) (.int .i64 0)).run Tryz.prog w = .ok (.agg #[.int .u64 a0, .int .u64 a1, .int .u64 a2]) w := fun _ => by kernel_rfl
  have i1 : ∀ w : World, (Instr.index 131 (.agg #[.int .u64 a0, .int .u64 a1, .int .u64 a2, .int .u64 a3, .int .u64 a4, .int .u64 a5, .int .u64 a6, .int .u64 a7, .int .u64 a8, .int .u64 a9, .int .u64 a10, .int .u64 a11]) (.int .i64 1)).run Tryz.prog w = .ok (.agg #[.int .u64 a3, .int .u64 a4, .int .u64 a5]) w := fun _ => by kernel_rfl
  subst k0
  go_enter Tryz.func87, Tryz.ntmps87
  go_wp2_with fail
  refine wp_loop_rounds 5 ?_
  rw [rounds_succ]
  go_wp2_with fail
  refine (H0.out _ (by repeat (first | with_reducible assumption | with_reducible exact Ext.refl _ | with_reducible refine Ext.drew ?_ | with_reducible refine Ext.drewN ?_ _ | with_reducible refine Ext.alloc ?_ _ | with_reducible refine Ext.set ?_ (by first | exact Nat.le_refl _ | (dsimp only; omega) | (simp; done)) _))).mono ?_
  rintro e v0 ⟨⟨t0, rfl, h0⟩, y0⟩
  have MV0 : Hid (H4 v0 (w.heap.size + 1 + 1) (.int .i64 0) (.int .i64 0) (.int .i64 0) (.int .i64 0)) := (H4.alloc (h4_at (by simp)) _).ext y0
  have RV0 : Hid (H4 v0 (w.heap.size + 1) (.int .i64 0) (.int .i64 0) (.int .i64 0) (.int .i64 0)) := (H4.alloc (H4.alloc (h4_at (by simp)) _) _).ext y0
  have XV0 : Ext w v0 := Ext.trans (by repeat (first | with_reducible assumption | with_reducible exact Ext.refl _ | with_reducible refine Ext.drew ?_ | with_reducible refine Ext.drewN ?_ _ | with_reducible refine Ext.alloc ?_ _ | with_reducible refine Ext.set ?_ (by first | exact Nat.le_refl _ | (dsimp only; omega) | (simp; done)) _)) y0
  clear y0
  go_wp2_with fail
  refine (W0.out _ _ h0).mono ?_
  rintro e w1 ⟨rfl, x1⟩
  have MM1 : Hid (H4 w1 (w.heap.size + 1 + 1) (.int .i64 0) (.int .i64 0) (.int .i64 0) (.int .i64 0)) := MV0.out.ext x1
  have RR1 : Hid (H4 w1 (w.heap.size + 1) (.int .i64 0) (.int .i64 0) (.int .i64 0) (.int .i64 0)) := RV0.out.ext x1
  have X1 : Ext w w1 := XV0.trans x1
  clear x1 XV0
  obtain ⟨m0, m1, m2, m3, m4, m5, m6, m7, m8⟩ := MM1.out
  obtain ⟨q0, q1, q2, q3, q4, q5, q6, q7, q8⟩ := RR1.out
  go_wp2_with fail
  rw [rounds_succ]
  go_wp2_with fail
  refine (H1.out _ (by repeat (first | with_reducible assumption | with_reducible exact Ext.refl _ | with_reducible refine Ext.drew ?_ | with_reducible refine Ext.drewN ?_ _ | with_reducible refine Ext.alloc ?_ _ | with_reducible refine Ext.set ?_ (by first | exact Nat.le_refl _ | (dsimp only; omega) | (simp; done)) _))).mono ?_
  rintro e v1 ⟨⟨t1, rfl, h1⟩, y1⟩
  have MV1 : Hid (H4 v1 (w.heap.size + 1 + 1) (.int .i64 r0) (.int .i64 0) (.int .i64 0) (.int .i64 0)) := (H4.alloc (H4.set0 MM1.out _) _).ext y1
  have RV1 : Hid (H4 v1 (w.heap.size + 1) (.int .i64 0) (.int .i64 0) (.int .i64 0) (.int .i64 0)) := (H4.alloc (H4.far RR1.out (by omega)) _).ext y1
  have XV1 : Ext w v1 := Ext.trans (by repeat (first | with_reducible assumption | with_reducible exact Ext.refl _ | with_reducible refine Ext.drew ?_ | with_reducible refine Ext.drewN ?_ _ | with_reducible refine Ext.alloc ?_ _ | with_reducible refine Ext.set ?_ (by first | exact Nat.le_refl _ | (dsimp only; omega) | (simp; done)) _)) y1
  clear y1
  clear m0 m1 m2 m3 m4 m5 m6 m7 m8 q0 q1 q2 q3 q4 q5 q6 q7 q8 X1
  go_wp2_with fail
  refine (W1.out _ _ h1).mono ?_
  rintro e w2 ⟨rfl, x2⟩
  have MM2 : Hid (H4 w2 (w.heap.size + 1 + 1) (.int .i64 r0) (.int .i64 0) (.int .i64 0) (.int .i64 0)) := MV1.out.ext x2
  have RR2 : Hid (H4 w2 (w.heap.size + 1) (.int .i64 0) (.int .i64 0) (.int .i64 0) (.int .i64 0)) := RV1.out.ext x2
  have X2 : Ext w w2 := XV1.trans x2
  clear x2 XV1
  obtain ⟨m0, m1, m2, m3, m4, m5, m6, m7, m8⟩ := MM2.out
  obtain ⟨q0, q1, q2, q3, q4, q5, q6, q7, q8⟩ := RR2.out
  go_wp2_with fail
  exact bodyPost_ret (v := .tuple #[.agg #[.int .i64 0, .int .i64 0, .int .i64 0, .int .i64 0], .int .i64 e1]) (by simp [results, Tryz.results87, go_sem, q0, q1, q2, q3]) rfl ⟨rfl, by repeat (first | with_reducible assumption | with_reducible exact Ext.refl _ | with_reducible refine Ext.drew ?_ | with_reducible refine Ext.drewN ?_ _ | with_reducible refine Ext.alloc ?_ _ | with_reducible refine Ext.set ?_ (by first | exact Nat.le_refl _ | (dsimp only; omega) | (simp; done)) _)⟩

set_option maxRecDepth 20000 in
set_option maxHeartbeats 4000000 in
theorem throughN_2 (a0 a1 a2 a3 a4 a5 a6 a7 a8 a9 a10 a11 Z0 Z1 Z2 Z3 r0 e0 r1 e1 r2 e2 r3 e3 : Int) (w : World) (k0 : e0 = 0) (k1 : e1 = 0) (n2 : (e2 != 0) = true)
    (H0 : Hid (∀ w', Ext w w' → Calls Tryz.prog 91 #[.agg #[.int .u64 a0, .int .u64 a1, .int .u64 a2]] w' fun e w'' => (∃ r, e = .returned r ∧ IsW r Z0) ∧ Ext w' w''))
    (W0 : Hid (∀ t w', IsW t Z0 → Calls Tryz.prog 96 #[t] w' fun e w'' => e = .returned (.tuple #[.int .i64 r0, .int .i64 e0]) ∧ Ext w' w''))
    (H1 : Hid (∀ w', Ext w w' → Calls Tryz.prog 91 #[.agg #[.int .u64 a3, .int .u64 a4, .int .u64 a5]] w' fun e w'' => (∃ r, e = .returned r ∧ IsW r Z1) ∧ Ext w' w''))
    (W1 : Hid (∀ t w', IsW t Z1 → Calls Tryz.prog 96 #[t] w' fun e w'' => e = .returned (.tuple #[.int .i64 r1, .int .i64 e1]) ∧ Ext w' w''))
    (H2 : Hid (∀ w', Ext w w' → Calls Tryz.prog 91 #[.agg #[.int .u64 a6, .int .u64 a7, .int .u64 a8]] w' fun e w'' => (∃ r, e = .returned r ∧ IsW r Z2) ∧ Ext w' w''))
    (W2 : Hid (∀ t w', IsW t Z2 → Calls Tryz.prog 96 #[t] w' fun e w'' => e = .returned (.tuple #[.int .i64 r2, .int .i64 e2]) ∧ Ext w' w''))
    (_H3 : Hid (∀ w', Ext w w' → Calls Tryz.prog 91 #[.agg #[.int .u64 a9, .int .u64 a10, .int .u64 a11]] w' fun e w'' => (∃ r, e = .returned r ∧ IsW r Z3) ∧ Ext w' w''))
    (_W3 : Hid (∀ t w', IsW t Z3 → Calls Tryz.prog 96 #[t] w' fun e w'' => e = .returned (.tuple #[.int .i64 r3, .int .i64 e3]) ∧ Ext w' w'')) :
    Calls Tryz.prog 87 #[.agg #[.int .u64 a0, .int .u64 a1, .int .u64 a2, .int .u64 a3, .int .u64 a4, .int .u64 a5, .int .u64 a6, .int .u64 a7, .int .u64 a8, .int .u64 a9, .int .u64 a10, .int .u64 a11], .func (.func 91) #[] #[]] w fun e w' => e = .returned (.tuple #[.agg #[.int .i64 0, .int .i64 0, .int .i64 0, .int .i64 0], .int .i64 e2]) ∧ Ext w w' := by
  have i0 : ∀ w : World, (Instr.index 131 (.agg #[.int .u64 a0, .int .u64 a1, .int .u64 a2, .int .u64 a3, .int .u64 a4, .int .u64 a5, .int .u64 a6, .int .u64 a7, .int .u64 a8, .int .u64 a9, .int .u64 a10, .int .u64 a11]) (.int .i64 0)).run Tryz.prog w = .ok (.agg #[.int .u64 a0, .int .u64 a1, .int .u64 a2]) w := fun _ => by kernel_rfl
  have i1 : ∀ w : World, (Instr.index 131 (.agg #[.int .u64 a0, .int .u64 a1, .int .u64 a2, .int .u64 a3, .int .u64 a4, .int .u64 a5, .int .u64 a6, .int .u64 a7, .int .u64 a8, .int .u64 a9, .int .u64 a10, .int .u64 a11]) (.int .i64 1)).run Tryz.prog w = .ok (.agg #[.int .u64 a3, .int .u64 a4, .int .u64 a5]) w := fun _ => by kernel_rfl
  have i2 : ∀ w : World, (Instr.index 131 (.agg #[.int .u64 a0, .int .u64 a1, .int .u64 a2, .int .u64 a3, .int .u64 a4, .int .u64 a5, .int .u64 a6, .int .u64 a7, .int .u64 a8, .int .u64 a9, .int .u64 a10, .int .u64 a11]) (.int .i64 2)).run Tryz.prog w = .ok (.agg #[.int .u64 a6, .int .u64 a7, .int .u64 a8]) w := fun _ => by kernel_rfl
  subst k0
  subst k1
  go_enter Tryz.func87, Tryz.ntmps87
  go_wp2_with fail
  refine wp_loop_rounds 5 ?_
  rw [rounds_succ]
  go_wp2_with fail
  refine (H0.out _ (by repeat (first | with_reducible assumption | with_reducible exact Ext.refl _ | with_reducible refine Ext.drew ?_ | with_reducible refine Ext.drewN ?_ _ | with_reducible refine Ext.alloc ?_ _ | with_reducible refine Ext.set ?_ (by first | exact Nat.le_refl _ | (dsimp only; omega) | (simp; done)) _))).mono ?_
  rintro e v0 ⟨⟨t0, rfl, h0⟩, y0⟩
  have MV0 : Hid (H4 v0 (w.heap.size + 1 + 1) (.int .i64 0) (.int .i64 0) (.int .i64 0) (.int .i64 0)) := (H4.alloc (h4_at (by simp)) _).ext y0
  have RV0 : Hid (H4 v0 (w.heap.size + 1) (.int .i64 0) (.int .i64 0) (.int .i64 0) (.int .i64 0)) := (H4.alloc (H4.alloc (h4_at (by simp)) _) _).ext y0
  have XV0 : Ext w v0 := Ext.trans (by repeat (first | with_reducible assumption | with_reducible exact Ext.refl _ | with_reducible refine Ext.drew ?_ | with_reducible refine Ext.drewN ?_ _ | with_reducible refine Ext.alloc ?_ _ | with_reducible refine Ext.set ?_ (by first | exact Nat.le_refl _ | (dsimp only; omega) | (simp; done)) _)) y0
  clear y0
  go_wp2_with fail
  refine (W0.out _ _ h0).mono ?_
  rintro e w1 ⟨rfl, x1⟩
  have MM1 : Hid (H4 w1 (w.heap.size + 1 + 1) (.int .i64 0) (.int .i64 0) (.int .i64 0) (.int .i64 0)) := MV0.out.ext x1
  have RR1 : Hid (H4 w1 (w.heap.size + 1) (.int .i64 0) (.int .i64 0) (.int .i64 0) (.int .i64 0)) := RV0.out.ext x1
  have X1 : Ext w w1 := XV0.trans x1
  clear x1 XV0
  obtain ⟨m0, m1, m2, m3, m4, m5, m6, m7, m8⟩ := MM1.out
  obtain ⟨q0, q1, q2, q3, q4, q5, q6, q7, q8⟩ := RR1.out
  go_wp2_with fail
  rw [rounds_succ]
  go_wp2_with fail
  refine (H1.out _ (by repeat (first | with_reducible assumption | with_reducible exact Ext.refl _ | with_reducible refine Ext.drew ?_ | with_reducible refine Ext.drewN ?_ _ | with_reducible refine Ext.alloc ?_ _ | with_reducible refine Ext.set ?_ (by first | exact Nat.le_refl _ | (dsimp only; omega) | (simp; done)) _))).mono ?_
  rintro e v1 ⟨⟨t1, rfl, h1⟩, y1⟩
  have MV1 : Hid (H4 v1 (w.heap.size + 1 + 1) (.int .i64 r0) (.int .i64 0) (.int .i64 0) (.int .i64 0)) := (H4.alloc (H4.set0 MM1.out _) _).ext y1
  have RV1 : Hid (H4 v1 (w.heap.size + 1) (.int .i64 0) (.int .i64 0) (.int .i64 0) (.int .i64 0)) := (H4.alloc (H4.far RR1.out (by omega)) _).ext y1
  have XV1 : Ext w v1 := Ext.trans (by repeat (first | with_reducible assumption | with_reducible exact Ext.refl _ | with_reducible refine Ext.drew ?_ | with_reducible refine Ext.drewN ?_ _ | with_reducible refine Ext.alloc ?_ _ | with_reducible refine Ext.set ?_ (by first | exact Nat.le_refl _ | (dsimp only; omega) | (simp; done)) _)) y1
  clear y1
  clear m0 m1 m2 m3 m4 m5 m6 m7 m8 q0 q1 q2 q3 q4 q5 q6 q7 q8 X1
  go_wp2_with fail
  refine (W1.out _ _ h1).mono ?_
  rintro e w2 ⟨rfl, x2⟩
  have MM2 : Hid (H4 w2 (w.heap.size + 1 + 1) (.int .i64 r0) (.int .i64 0) (.int .i64 0) (.int .i64 0)) := MV1.out.ext x2
  have RR2 : Hid (H4 w2 (w.heap.size + 1) (.int .i64 0) (.int .i64 0) (.int .i64 0) (.int .i64 0)) := RV1.out.ext x2
  have X2 : Ext w w2 := XV1.trans x2
  clear x2 XV1
  obtain ⟨m0, m1, m2, m3, m4, m5, m6, m7, m8⟩ := MM2.out
  obtain ⟨q0, q1, q2, q3, q4, q5, q6, q7, q8⟩ := RR2.out
  go_wp2_with fail
  rw [rounds_succ]
  go_wp2_with fail
  refine (H2.out _ (by repeat (first | with_reducible assumption | with_reducible exact Ext.refl _ | with_reducible refine Ext.drew ?_ | with_reducible refine Ext.drewN ?_ _ | with_reducible refine Ext.alloc ?_ _ | with_reducible refine Ext.set ?_ (by first | exact Nat.le_refl _ | (dsimp only; omega) | (simp; done)) _))).mono ?_
  rintro e v2 ⟨⟨t2, rfl, h2⟩, y2⟩
  have MV2 : Hid (H4 v2 (w.heap.size + 1 + 1) (.int .i64 r0) (.int .i64 r1) (.int .i64 0) (.int .i64 0)) := (H4.alloc (H4.set1 MM2.out _) _).ext y2
  have RV2 : Hid (H4 v2 (w.heap.size + 1) (.int .i64 0) (.int .i64 0) (.int .i64 0) (.int .i64 0)) := (H4.alloc (H4.far RR2.out (by omega)) _).ext y2
  have XV2 : Ext w v2 := Ext.trans (by repeat (first | with_reducible assumption | with_reducible exact Ext.refl _ | with_reducible refine Ext.drew ?_ | with_reducible refine Ext.drewN ?_ _ | with_reducible refine Ext.alloc ?_ _ | with_reducible refine Ext.set ?_ (by first | exact Nat.le_refl _ | (dsimp only; omega) | (simp; done)) _)) y2
  clear y2
  clear m0 m1 m2 m3 m4 m5 m6 m7 m8 q0 q1 q2 q3 q4 q5 q6 q7 q8 X2
  go_wp2_with fail
  refine (W2.out _ _ h2).mono ?_
  rintro e w3 ⟨rfl, x3⟩
  have MM3 : Hid (H4 w3 (w.heap.size + 1 + 1) (.int .i64 r0) (.int .i64 r1) (.int .i64 0) (.int .i64 0)) := MV2.out.ext x3
  have RR3 : Hid (H4 w3 (w.heap.size + 1) (.int .i64 0) (.int .i64 0) (.int .i64 0) (.int .i64 0)) := RV2.out.ext x3
  have X3 : Ext w w3 := XV2.trans x3
  clear x3 XV2
  obtain ⟨m0, m1, m2, m3, m4, m5, m6, m7, m8⟩ := MM3.out
  obtain ⟨q0, q1, q2, q3, q4, q5, q6, q7, q8⟩ := RR3.out
  go_wp2_with fail
  exact bodyPost_ret (v := .tuple #[.agg #[.int .i64 0, .int .i64 0, .int .i64 0, .int .i64 0], .int .i64 e2]) (by simp [results, Tryz.results87, go_sem, q0, q1, q2, q3]) rfl ⟨rfl, by repeat (first | with_reducible assumption | with_reducible exact Ext.refl _ | with_reducible refine Ext.drew ?_ | with_reducible refine Ext.drewN ?_ _ | with_reducible refine Ext.alloc ?_ _ | with_reducible refine Ext.set ?_ (by first | exact Nat.le_refl _ | (dsimp only; omega) | (simp; done)) _)⟩

set_option maxRecDepth 20000 in
set_option maxHeartbeats 4000000 in
theorem throughN_3 (a0 a1 a2 a3 a4 a5 a6 a7 a8 a9 a10 a11 Z0 Z1 Z2 Z3 r0 e0 r1 e1 r2 e2 r3 e3 : Int) (w : World) (k0 : e0 = 0) (k1 : e1 = 0) (k2 : e2 = 0) (n3 : (e3 != 0) = true)
    (H0 : Hid (∀ w', Ext w w' → Calls Tryz.prog 91 #[.agg #[.int .u64 a0, .int .u64 a1, .int .u64 a2]] w' fun e w'' => (∃ r, e = .returned r ∧ IsW r Z0) ∧ Ext w' w''))
    (W0 : Hid (∀ t w', IsW t Z0 → Calls Tryz.prog 96 #[t] w' fun e w'' => e = .returned (.tuple #[.int .i64 r0, .int .i64 e0]) ∧ Ext w' w''))
    (H1 : Hid (∀ w', Ext w w' → Calls Tryz.prog 91 #[.agg #[.int .u64 a3, .int .u64 a4, .int .u64 a5]] w' fun e w'' => (∃ r, e = .returned r ∧ IsW r Z1) ∧ Ext w' w''))
    (W1 : Hid (∀ t w', IsW t Z1 → Calls Tryz.prog 96 #[t] w' fun e w'' => e = .returned (.tuple #[.int .i64 r1, .int .i64 e1]) ∧ Ext w' w''))
    (H2 : Hid (∀ w', Ext w w' → Calls Tryz.prog 91 #[.agg #[.int .u64 a6, .int .u64 a7, .int .u64 a8]] w' fun e w'' => (∃ r, e = .returned r ∧ IsW r Z2) ∧ Ext w' w''))
    (W2 : Hid (∀ t w', IsW t Z2 → Calls Tryz.prog 96 #[t] w' fun e w'' => e = .returned (.tuple #[.int .i64 r2, .int .i64 e2]) ∧ Ext w' w''))
    (H3 : Hid (∀ w', Ext w w' → Calls Tryz.prog 91 #[.agg #[.int .u64 a9, .int .u64 a10, .int .u64 a11]] w' fun e w'' => (∃ r, e = .returned r ∧ IsW r Z3) ∧ Ext w' w''))
    (W3 : Hid (∀ t w', IsW t Z3 → Calls Tryz.prog 96 #[t] w' fun e w'' => e = .returned (.tuple #[.int .i64 r3, .int .i64 e3]) ∧ Ext w' w'')) :
    Calls Tryz.prog 87 #[.agg #[.int .u64 a0, .int .u64 a1, .int .u64 a2, .int .u64 a3, .int .u64 a4, .int .u64 a5, .int .u64 a6, .int .u64 a7, .int .u64 a8, .int .u64 a9, .int .u64 a10, .int .u64 a11], .func (.func 91) #[] #[]] w fun e w' => e = .returned (.tuple #[.agg #[.int .i64 0, .int .i64 0, .int .i64 0, .int .i64 0], .int .i64 e3]) ∧ Ext w w' := by
  have i0 : ∀ w : World, (Instr.index 131 (.agg #[.int .u64 a0, .int .u64 a1, .int .u64 a2, .int .u64 a3, .int .u64 a4, .int .u64 a5, .int .u64 a6, .int .u64 a7, .int .u64 a8, .int .u64 a9, .int .u64 a10, .int .u64 a11]) (.int .i64 0)).run Tryz.prog w = .ok (.agg #[.int .u64 a0, .int .u64 a1, .int .u64 a2]) w := fun _ => by kernel_rfl
  have i1 : ∀ w : World, (Instr.index 131 (.agg #[.int .u64 a0, .int .u64 a1, .int .u64 a2, .int .u64 a3, .int .u64 a4, .int .u64 a5, .int .u64 a6, .int .u64 a7, .int .u64 a8, .int .u64 a9, .int .u64 a10, .int .u64 a11]) (.int .i64 1)).run Tryz.prog w = .ok (.agg #[.int .u64 a3, .int .u64 a4, .int .u64 a5]) w := fun _ => by kernel_rfl
  have i2 : ∀ w : World, (Instr.index 131 (.agg #[.int .u64 a0, .int .u64 a1, .int .u64 a2, .int .u64 a3, .int .u64 a4, .int .u64 a5, .int .u64 a6, .int .u64 a7, .int .u64 a8, .int .u64 a9, .int .u64 a10, .int .u64 a11]) (.int .i64 2)).run Tryz.prog w = .ok (.agg #[.int .u64 a6, .int .u64 a7, .int .u64 a8]) w := fun _ => by kernel_rfl
  have i3 : ∀ w : World, (Instr.index 131 (.agg #[.int .u64 a0, .int .u64 a1, .int .u64 a2, .int .u64 a3, .int .u64 a4, .int .u64 a5, .int .u64 a6, .int .u64 a7, .int .u64 a8, .int .u64 a9, .int .u64 a10, .int .u64 a11]) (.int .i64 3)).run Tryz.prog w = .ok (.agg #[.int .u64 a9, .int .u64 a10, .int .u64 a11]) w := fun _ => by kernel_rfl
  subst k0
  subst k1
  subst k2
  go_enter Tryz.func87, Tryz.ntmps87
  go_wp2_with fail
  refine wp_loop_rounds 5 ?_
  rw [rounds_succ]
  go_wp2_with fail
  refine (H0.out _ (by repeat (first | with_reducible assumption | with_reducible exact Ext.refl _ | with_reducible refine Ext.drew ?_ | with_reducible refine Ext.drewN ?_ _ | with_reducible refine Ext.alloc ?_ _ | with_reducible refine Ext.set ?_ (by first | exact Nat.le_refl _ | (dsimp only; omega) | (simp; done)) _))).mono ?_
  rintro e v0 ⟨⟨t0, rfl, h0⟩, y0⟩
  have MV0 : Hid (H4 v0 (w.heap.size + 1 + 1) (.int .i64 0) (.int .i64 0) (.int .i64 0) (.int .i64 0)) := (H4.alloc (h4_at (by simp)) _).ext y0
  have RV0 : Hid (H4 v0 (w.heap.size + 1) (.int .i64 0) (.int .i64 0) (.int .i64 0) (.int .i64 0)) := (H4.alloc (H4.alloc (h4_at (by simp)) _) _).ext y0
  have XV0 : Ext w v0 := Ext.trans (by repeat (first | with_reducible assumption | with_reducible exact Ext.refl _ | with_reducible refine Ext.drew ?_ | with_reducible refine Ext.drewN ?_ _ | with_reducible refine Ext.alloc ?_ _ | with_reducible refine Ext.set ?_ (by first | exact Nat.le_refl _ | (dsimp only; omega) | (simp; done)) _)) y0
  clear y0
  go_wp2_with fail
  refine (W0.out _ _ h0).mono ?_
  rintro e w1 ⟨rfl, x1⟩
  have MM1 : Hid (H4 w1 (w.heap.size + 1 + 1) (.int .i64 0) (.int .i64 0) (.int .i64 0) (.int .i64 0)) := MV0.out.ext x1
  have RR1 : Hid (H4 w1 (w.heap.size + 1) (.int .i64 0) (.int .i64 0) (.int .i64 0) (.int .i64 0)) := RV0.out.ext x1
  have X1 : Ext w w1 := XV0.trans x1
  clear x1 XV0
  obtain ⟨m0, m1, m2, m3, m4, m5, m6, m7, m8⟩ := MM1.out
  obtain ⟨q0, q1, q2, q3, q4, q5, q6, q7, q8⟩ := RR1.out
  go_wp2_with fail
  rw [rounds_succ]
  go_wp2_with fail
  refine (H1.out _ (by repeat (first | with_reducible assumption | with_reducible exact Ext.refl _ | with_reducible refine Ext.drew ?_ | with_reducible refine Ext.drewN ?_ _ | with_reducible refine Ext.alloc ?_ _ | with_reducible refine Ext.set ?_ (by first | exact Nat.le_refl _ | (dsimp only; omega) | (simp; done)) _))).mono ?_
  rintro e v1 ⟨⟨t1, rfl, h1⟩, y1⟩
  have MV1 : Hid (H4 v1 (w.heap.size + 1 + 1) (.int .i64 r0) (.int .i64 0) (.int .i64 0) (.int .i64 0)) := (H4.alloc (H4.set0 MM1.out _) _).ext y1
  have RV1 : Hid (H4 v1 (w.heap.size + 1) (.int .i64 0) (.int .i64 0) (.int .i64 0) (.int .i64 0)) := (H4.alloc (H4.far RR1.out (by omega)) _).ext y1
  have XV1 : Ext w v1 := Ext.trans (by repeat (first | with_reducible assumption | with_reducible exact Ext.refl _ | with_reducible refine Ext.drew ?_ | with_reducible refine Ext.drewN ?_ _ | with_reducible refine Ext.alloc ?_ _ | with_reducible refine Ext.set ?_ (by first | exact Nat.le_refl _ | (dsimp only; omega) | (simp; done)) _)) y1
  clear y1
  clear m0 m1 m2 m3 m4 m5 m6 m7 m8 q0 q1 q2 q3 q4 q5 q6 q7 q8 X1
  go_wp2_with fail
  refine (W1.out _ _ h1).mono ?_
  rintro e w2 ⟨rfl, x2⟩
  have MM2 : Hid (H4 w2 (w.heap.size + 1 + 1) (.int .i64 r0) (.int .i64 0) (.int .i64 0) (.int .i64 0)) := MV1.out.ext x2
  have RR2 : Hid (H4 w2 (w.heap.size + 1) (.int .i64 0) (.int .i64 0) (.int .i64 0) (.int .i64 0)) := RV1.out.ext x2
  have X2 : Ext w w2 := XV1.trans x2
  clear x2 XV1
  obtain ⟨m0, m1, m2, m3, m4, m5, m6, m7, m8⟩ := MM2.out
  obtain ⟨q0, q1, q2, q3, q4, q5, q6, q7, q8⟩ := RR2.out
  go_wp2_with fail
  rw [rounds_succ]
  go_wp2_with fail
  refine (H2.out _ (by repeat (first | with_reducible assumption | with_reducible exact Ext.refl _ | with_reducible refine Ext.drew ?_ | with_reducible refine Ext.drewN ?_ _ | with_reducible refine Ext.alloc ?_ _ | with_reducible refine Ext.set ?_ (by first | exact Nat.le_refl _ | (dsimp only; omega) | (simp; done)) _))).mono ?_
  rintro e v2 ⟨⟨t2, rfl, h2⟩, y2⟩
  have MV2 : Hid (H4 v2 (w.heap.size + 1 + 1) (.int .i64 r0) (.int .i64 r1) (.int .i64 0) (.int .i64 0)) := (H4.alloc (H4.set1 MM2.out _) _).ext y2
  have RV2 : Hid (H4 v2 (w.heap.size + 1) (.int .i64 0) (.int .i64 0) (.int .i64 0) (.int .i64 0)) := (H4.alloc (H4.far RR2.out (by omega)) _).ext y2
  have XV2 : Ext w v2 := Ext.trans (by repeat (first | with_reducible assumption | with_reducible exact Ext.refl _ | with_reducible refine Ext.drew ?_ | with_reducible refine Ext.drewN ?_ _ | with_reducible refine Ext.alloc ?_ _ | with_reducible refine Ext.set ?_ (by first | exact Nat.le_refl _ | (dsimp only; omega) | (simp; done)) _)) y2
  clear y2
  clear m0 m1 m2 m3 m4 m5 m6 m7 m8 q0 q1 q2 q3 q4 q5 q6 q7 q8 X2
  go_wp2_with fail
  refine (W2.out _ _ h2).mono ?_
  rintro e w3 ⟨rfl, x3⟩
  have MM3 : Hid (H4 w3 (w.heap.size + 1 + 1) (.int .i64 r0) (.int .i64 r1) (.int .i64 0) (.int .i64 0)) := MV2.out.ext x3
  have RR3 : Hid (H4 w3 (w.heap.size + 1) (.int .i64 0) (.int .i64 0) (.int .i64 0) (.int .i64 0)) := RV2.out.ext x3
  have X3 : Ext w w3 := XV2.trans x3
  clear x3 XV2
  obtain ⟨m0, m1, m2, m3, m4, m5, m6, m7, m8⟩ := MM3.out
  obtain ⟨q0, q1, q2, q3, q4, q5, q6, q7, q8⟩ := RR3.out
  go_wp2_with fail
  rw [rounds_succ]
  go_wp2_with fail
  refine (H3.out _ (by repeat (first | with_reducible assumption | with_reducible exact Ext.refl _ | with_reducible refine Ext.drew ?_ | with_reducible refine Ext.drewN ?_ _ | with_reducible refine Ext.alloc ?_ _ | with_reducible refine Ext.set ?_ (by first | exact Nat.le_refl _ | (dsimp only; omega) | (simp; done)) _))).mono ?_
  rintro e v3 ⟨⟨t3, rfl, h3⟩, y3⟩
  have MV3 : Hid (H4 v3 (w.heap.size + 1 + 1) (.int .i64 r0) (.int .i64 r1) (.int .i64 r2) (.int .i64 0)) := (H4.alloc (H4.set2 MM3.out _) _).ext y3
  have RV3 : Hid (H4 v3 (w.heap.size + 1) (.int .i64 0) (.int .i64 0) (.int .i64 0) (.int .i64 0)) := (H4.alloc (H4.far RR3.out (by omega)) _).ext y3
  have XV3 : Ext w v3 := Ext.trans (by repeat (first | with_reducible assumption | with_reducible exact Ext.refl _ | with_reducible refine Ext.drew ?_ | with_reducible refine Ext.drewN ?_ _ | with_reducible refine Ext.alloc ?_ _ | with_reducible refine Ext.set ?_ (by first | exact Nat.le_refl _ | (dsimp only; omega) | (simp; done)) _)) y3
  clear y3
  clear m0 m1 m2 m3 m4 m5 m6 m7 m8 q0 q1 q2 q3 q4 q5 q6 q7 q8 X3
  go_wp2_with fail
  refine (W3.out _ _ h3).mono ?_
  rintro e w4 ⟨rfl, x4⟩
  have MM4 : Hid (H4 w4 (w.heap.size + 1 + 1) (.int .i64 r0) (.int .i64 r1) (.int .i64 r2) (.int .i64 0)) := MV3.out.ext x4
  have RR4 : Hid (H4 w4 (w.heap.size + 1) (.int .i64 0) (.int .i64 0) (.int .i64 0) (.int .i64 0)) := RV3.out.ext x4
  have X4 : Ext w w4 := XV3.trans x4
  clear x4 XV3
  obtain ⟨m0, m1, m2, m3, m4, m5, m6, m7, m8⟩ := MM4.out
  obtain ⟨q0, q1, q2, q3, q4, q5, q6, q7, q8⟩ := RR4.out
  go_wp2_with fail
  exact bodyPost_ret (v := .tuple #[.agg #[.int .i64 0, .int .i64 0, .int .i64 0, .int .i64 0], .int .i64 e3]) (by simp [results, Tryz.results87, go_sem, q0, q1, q2, q3]) rfl ⟨rfl, by repeat (first | with_reducible assumption | with_reducible exact Ext.refl _ | with_reducible refine Ext.drew ?_ | with_reducible refine Ext.drewN ?_ _ | with_reducible refine Ext.alloc ?_ _ | with_reducible refine Ext.set ?_ (by first | exact Nat.le_refl _ | (dsimp only; omega) | (simp; done)) _)⟩

set_option maxRecDepth 20000 in
set_option maxHeartbeats 4000000 in
theorem throughN_4 (a0 a1 a2 a3 a4 a5 a6 a7 a8 a9 a10 a11 Z0 Z1 Z2 Z3 r0 e0 r1 e1 r2 e2 r3 e3 : Int) (w : World) (k0 : e0 = 0) (k1 : e1 = 0) (k2 : e2 = 0) (k3 : e3 = 0)
    (H0 : Hid (∀ w', Ext w w' → Calls Tryz.prog 91 #[.agg #[.int .u64 a0, .int .u64 a1, .int .u64 a2]] w' fun e w'' => (∃ r, e = .returned r ∧ IsW r Z0) ∧ Ext w' w''))
    (W0 : Hid (∀ t w', IsW t Z0 → Calls Tryz.prog 96 #[t] w' fun e w'' => e = .returned (.tuple #[.int .i64 r0, .int .i64 e0]) ∧ Ext w' w''))
    (H1 : Hid (∀ w', Ext w w' → Calls Tryz.prog 91 #[.agg #[.int .u64 a3, .int .u64 a4, .int .u64 a5]] w' fun e w'' => (∃ r, e = .returned r ∧ IsW r Z1) ∧ Ext w' w''))
    (W1 : Hid (∀ t w', IsW t Z1 → Calls Tryz.prog 96 #[t] w' fun e w'' => e = .returned (.tuple #[.int .i64 r1, .int .i64 e1]) ∧ Ext w' w''))
    (H2 : Hid (∀ w', Ext w w' → Calls Tryz.prog 91 #[.agg #[.int .u64 a6, .int .u64 a7, .int .u64 a8]] w' fun e w'' => (∃ r, e = .returned r ∧ IsW r Z2) ∧ Ext w' w''))
    (W2 : Hid (∀ t w', IsW t Z2 → Calls Tryz.prog 96 #[t] w' fun e w'' => e = .returned (.tuple #[.int .i64 r2, .int .i64 e2]) ∧ Ext w' w''))
    (H3 : Hid (∀ w', Ext w w' → Calls Tryz.prog 91 #[.agg #[.int .u64 a9, .int .u64 a10, .int .u64 a11]] w' fun e w'' => (∃ r, e = .returned r ∧ IsW r Z3) ∧ Ext w' w''))
    (W3 : Hid (∀ t w', IsW t Z3 → Calls Tryz.prog 96 #[t] w' fun e w'' => e = .returned (.tuple #[.int .i64 r3, .int .i64 e3]) ∧ Ext w' w'')) :
    Calls Tryz.prog 87 #[.agg #[.int .u64 a0, .int .u64 a1, .int .u64 a2, .int .u64 a3, .int .u64 a4, .int .u64 a5, .int .u64 a6, .int .u64 a7, .int .u64 a8, .int .u64 a9, .int .u64 a10, .int .u64 a11], .func (.func 91) #[] #[]] w fun e w' => e = .returned (.tuple #[.agg #[.int .i64 r0, .int .i64 r1, .int .i64 r2, .int .i64 r3], .int .i64 0]) ∧ Ext w w' := by
  have i0 : ∀ w : World, (Instr.index 131 (.agg #[.int .u64 a0, .int .u64 a1, .int .u64 a2, .int .u64 a3, .int .u64 a4, .int .u64 a5, .int .u64 a6, .int .u64 a7, .int .u64 a8, .int .u64 a9, .int .u64 a10, .int .u64 a11]) (.int .i64 0)).run Tryz.prog w = .ok (.agg #[.int .u64 a0, .int .u64 a1, .int .u64 a2]) w := fun _ => by kernel_rfl
  have i1 : ∀ w : World, (Instr.index 131 (.agg #[.int .u64 a0, .int .u64 a1, .int .u64 a2, .int .u64 a3, .int .u64 a4, .int .u64 a5, .int .u64 a6, .int .u64 a7, .int .u64 a8, .int .u64 a9, .int .u64 a10, .int .u64 a11]) (.int .i64 1)).run Tryz.prog w = .ok (.agg #[.int .u64 a3, .int .u64 a4, .int .u64 a5]) w := fun _ => by kernel_rfl
  have i2 : ∀ w : World, (Instr.index 131 (.agg #[.int .u64 a0, .int .u64 a1, .int .u64 a2, .int .u64 a3, .int .u64 a4, .int .u64 a5, .int .u64 a6, .int .u64 a7, .int .u64 a8, .int .u64 a9, .int .u64 a10, .int .u64 a11]) (.int .i64 2)).run Tryz.prog w = .ok (.agg #[.int .u64 a6, .int .u64 a7, .int .u64 a8]) w := fun _ => by kernel_rfl
  have i3 : ∀ w : World, (Instr.index 131 (.agg #[.int .u64 a0, .int .u64 a1, .int .u64 a2, .int .u64 a3, .int .u64 a4, .int .u64 a5, .int .u64 a6, .int .u64 a7, .int .u64 a8, .int .u64 a9, .int .u64 a10, .int .u64 a11]) (.int .i64 3)).run Tryz.prog w = .ok (.agg #[.int .u64 a9, .int .u64 a10, .int .u64 a11]) w := fun _ => by kernel_rfl
  subst k0
  subst k1
  subst k2
  subst k3
  go_enter Tryz.func87, Tryz.ntmps87
  go_wp2_with fail
  refine wp_loop_rounds 5 ?_
  rw [rounds_succ]
  go_wp2_with fail
  refine (H0.out _ (by repeat (first | with_reducible assumption | with_reducible exact Ext.refl _ | with_reducible refine Ext.drew ?_ | with_reducible refine Ext.drewN ?_ _ | with_reducible refine Ext.alloc ?_ _ | with_reducible refine Ext.set ?_ (by first | exact Nat.le_refl _ | (dsimp only; omega) | (simp; done)) _))).mono ?_
  rintro e v0 ⟨⟨t0, rfl, h0⟩, y0⟩
  have MV0 : Hid (H4 v0 (w.heap.size + 1 + 1) (.int .i64 0) (.int .i64 0) (.int .i64 0) (.int .i64 0)) := (H4.alloc (h4_at (by simp)) _).ext y0
  have RV0 : Hid (H4 v0 (w.heap.size + 1) (.int .i64 0) (.int .i64 0) (.int .i64 0) (.int .i64 0)) := (H4.alloc (H4.alloc (h4_at (by simp)) _) _).ext y0
  have XV0 : Ext w v0 := Ext.trans (by repeat (first | with_reducible assumption | with_reducible exact Ext.refl _ | with_reducible refine Ext.drew ?_ | with_reducible refine Ext.drewN ?_ _ | with_reducible refine Ext.alloc ?_ _ | with_reducible refine Ext.set ?_ (by first | exact Nat.le_refl _ | (dsimp only; omega) | (simp; done)) _)) y0
  clear y0
  go_wp2_with fail
  refine (W0.out _ _ h0).mono ?_
  rintro e w1 ⟨rfl, x1⟩
  have MM1 : Hid (H4 w1 (w.heap.size + 1 + 1) (.int .i64 0) (.int .i64 0) (.int .i64 0) (.int .i64 0)) := MV0.out.ext x1
  have RR1 : Hid (H4 w1 (w.heap.size + 1) (.int .i64 0) (.int .i64 0) (.int .i64 0) (.int .i64 0)) := RV0.out.ext x1
  have X1 : Ext w w1 := XV0.trans x1
  clear x1 XV0
  obtain ⟨m0, m1, m2, m3, m4, m5, m6, m7, m8⟩ := MM1.out
  obtain ⟨q0, q1, q2, q3, q4, q5, q6, q7, q8⟩ := RR1.out
  go_wp2_with fail
  rw [rounds_succ]
  go_wp2_with fail
  refine (H1.out _ (by repeat (first | with_reducible assumption | with_reducible exact Ext.refl _ | with_reducible refine Ext.drew ?_ | with_reducible refine Ext.drewN ?_ _ | with_reducible refine Ext.alloc ?_ _ | with_reducible refine Ext.set ?_ (by first | exact Nat.le_refl _ | (dsimp only; omega) | (simp; done)) _))).mono ?_
  rintro e v1 ⟨⟨t1, rfl, h1⟩, y1⟩
  have MV1 : Hid (H4 v1 (w.heap.size + 1 + 1) (.int .i64 r0) (.int .i64 0) (.int .i64 0) (.int .i64 0)) := (H4.alloc (H4.set0 MM1.out _) _).ext y1
  have RV1 : Hid (H4 v1 (w.heap.size + 1) (.int .i64 0) (.int .i64 0) (.int .i64 0) (.int .i64 0)) := (H4.alloc (H4.far RR1.out (by omega)) _).ext y1
  have XV1 : Ext w v1 := Ext.trans (by repeat (first | with_reducible assumption | with_reducible exact Ext.refl _ | with_reducible refine Ext.drew ?_ | with_reducible refine Ext.drewN ?_ _ | with_reducible refine Ext.alloc ?_ _ | with_reducible refine Ext.set ?_ (by first | exact Nat.le_refl _ | (dsimp only; omega) | (simp; done)) _)) y1
  clear y1
  clear m0 m1 m2 m3 m4 m5 m6 m7 m8 q0 q1 q2 q3 q4 q5 q6 q7 q8 X1
  go_wp2_with fail
  refine (W1.out _ _ h1).mono ?_
  rintro e w2 ⟨rfl, x2⟩
  have MM2 : Hid (H4 w2 (w.heap.size + 1 + 1) (.int .i64 r0) (.int .i64 0) (.int .i64 0) (.int .i64 0)) := MV1.out.ext x2
  have RR2 : Hid (H4 w2 (w.heap.size + 1) (.int .i64 0) (.int .i64 0) (.int .i64 0) (.int .i64 0)) := RV1.out.ext x2
  have X2 : Ext w w2 := XV1.trans x2
  clear x2 XV1
  obtain ⟨m0, m1, m2, m3, m4, m5, m6, m7, m8⟩ := MM2.out
  obtain ⟨q0, q1, q2, q3, q4, q5, q6, q7, q8⟩ := RR2.out
  go_wp2_with fail
  rw [rounds_succ]
  go_wp2_with fail
  refine (H2.out _ (by repeat (first | with_reducible assumption | with_reducible exact Ext.refl _ | with_reducible refine Ext.drew ?_ | with_reducible refine Ext.drewN ?_ _ | with_reducible refine Ext.alloc ?_ _ | with_reducible refine Ext.set ?_ (by first | exact Nat.le_refl _ | (dsimp only; omega) | (simp; done)) _))).mono ?_
  rintro e v2 ⟨⟨t2, rfl, h2⟩, y2⟩
  have MV2 : Hid (H4 v2 (w.heap.size + 1 + 1) (.int .i64 r0) (.int .i64 r1) (.int .i64 0) (.int .i64 0)) := (H4.alloc (H4.set1 MM2.out _) _).ext y2
  have RV2 : Hid (H4 v2 (w.heap.size + 1) (.int .i64 0) (.int .i64 0) (.int .i64 0) (.int .i64 0)) := (H4.alloc (H4.far RR2.out (by omega)) _).ext y2
  have XV2 : Ext w v2 := Ext.trans (by repeat (first | with_reducible assumption | with_reducible exact Ext.refl _ | with_reducible refine Ext.drew ?_ | with_reducible refine Ext.drewN ?_ _ | with_reducible refine Ext.alloc ?_ _ | with_reducible refine Ext.set ?_ (by first | exact Nat.le_refl _ | (dsimp only; omega) | (simp; done)) _)) y2
  clear y2
  clear m0 m1 m2 m3 m4 m5 m6 m7 m8 q0 q1 q2 q3 q4 q5 q6 q7 q8 X2
  go_wp2_with fail
  refine (W2.out _ _ h2).mono ?_
  rintro e w3 ⟨rfl, x3⟩
  have MM3 : Hid (H4 w3 (w.heap.size + 1 + 1) (.int .i64 r0) (.int .i64 r1) (.int .i64 0) (.int .i64 0)) := MV2.out.ext x3
  have RR3 : Hid (H4 w3 (w.heap.size + 1) (.int .i64 0) (.int .i64 0) (.int .i64 0) (.int .i64 0)) := RV2.out.ext x3
  have X3 : Ext w w3 := XV2.trans x3
  clear x3 XV2
  obtain ⟨m0, m1, m2, m3, m4, m5, m6, m7, m8⟩ := MM3.out
  obtain ⟨q0, q1, q2, q3, q4, q5, q6, q7, q8⟩ := RR3.out
  go_wp2_with fail
  rw [rounds_succ]
  go_wp2_with fail
  refine (H3.out _ (by repeat (first | with_reducible assumption | with_reducible exact Ext.refl _ | with_reducible refine Ext.drew ?_ | with_reducible refine Ext.drewN ?_ _ | with_reducible refine Ext.alloc ?_ _ | with_reducible refine Ext.set ?_ (by first | exact Nat.le_refl _ | (dsimp only; omega) | (simp; done)) _))).mono ?_
  rintro e v3 ⟨⟨t3, rfl, h3⟩, y3⟩
  have MV3 : Hid (H4 v3 (w.heap.size + 1 + 1) (.int .i64 r0) (.int .i64 r1) (.int .i64 r2) (.int .i64 0)) := (H4.alloc (H4.set2 MM3.out _) _).ext y3
  have RV3 : Hid (H4 v3 (w.heap.size + 1) (.int .i64 0) (.int .i64 0) (.int .i64 0) (.int .i64 0)) := (H4.alloc (H4.far RR3.out (by omega)) _).ext y3
  have XV3 : Ext w v3 := Ext.trans (by repeat (first | with_reducible assumption | with_reducible exact Ext.refl _ | with_reducible refine Ext.drew ?_ | with_reducible refine Ext.drewN ?_ _ | with_reducible refine Ext.alloc ?_ _ | with_reducible refine Ext.set ?_ (by first | exact Nat.le_refl _ | (dsimp only; omega) | (simp; done)) _)) y3
  clear y3
  clear m0 m1 m2 m3 m4 m5 m6 m7 m8 q0 q1 q2 q3 q4 q5 q6 q7 q8 X3
  go_wp2_with fail
  refine (W3.out _ _ h3).mono ?_
  rintro e w4 ⟨rfl, x4⟩
  have MM4 : Hid (H4 w4 (w.heap.size + 1 + 1) (.int .i64 r0) (.int .i64 r1) (.int .i64 r2) (.int .i64 0)) := MV3.out.ext x4
  have RR4 : Hid (H4 w4 (w.heap.size + 1) (.int .i64 0) (.int .i64 0) (.int .i64 0) (.int .i64 0)) := RV3.out.ext x4
  have X4 : Ext w w4 := XV3.trans x4
  clear x4 XV3
  obtain ⟨m0, m1, m2, m3, m4, m5, m6, m7, m8⟩ := MM4.out
  obtain ⟨q0, q1, q2, q3, q4, q5, q6, q7, q8⟩ := RR4.out
  go_wp2_with fail
  rw [rounds_succ]
  go_wp2_with fail
  exact bodyPost_ret (v := .tuple #[.agg #[.int .i64 r0, .int .i64 r1, .int .i64 r2, .int .i64 r3], .int .i64 0]) (by simp [results, Tryz.results87, go_sem, q0, q1, q2, q3]) rfl ⟨rfl, by repeat (first | with_reducible assumption | with_reducible exact Ext.refl _ | with_reducible refine Ext.drew ?_ | with_reducible refine Ext.drewN ?_ _ | with_reducible refine Ext.alloc ?_ _ | with_reducible refine Ext.set ?_ (by first | exact Nat.le_refl _ | (dsimp only; omega) | (simp; done)) _)⟩

theorem throughN_any (a0 a1 a2 a3 a4 a5 a6 a7 a8 a9 a10 a11 Z0 Z1 Z2 Z3 : Int) (w : World) (z0 : InW Z0) (z1 : InW Z1) (z2 : InW Z2) (z3 : InW Z3)
    (H0 : ∀ w', Ext w w' → Calls Tryz.prog 91 #[.agg #[.int .u64 a0, .int .u64 a1, .int .u64 a2]] w' fun e w'' => (∃ r, e = .returned r ∧ IsW r Z0) ∧ Ext w' w'')
    (H1 : ∀ w', Ext w w' → Calls Tryz.prog 91 #[.agg #[.int .u64 a3, .int .u64 a4, .int .u64 a5]] w' fun e w'' => (∃ r, e = .returned r ∧ IsW r Z1) ∧ Ext w' w'')
    (H2 : ∀ w', Ext w w' → Calls Tryz.prog 91 #[.agg #[.int .u64 a6, .int .u64 a7, .int .u64 a8]] w' fun e w'' => (∃ r, e = .returned r ∧ IsW r Z2) ∧ Ext w' w'')
    (H3 : ∀ w', Ext w w' → Calls Tryz.prog 91 #[.agg #[.int .u64 a9, .int .u64 a10, .int .u64 a11]] w' fun e w'' => (∃ r, e = .returned r ∧ IsW r Z3) ∧ Ext w' w'') :
    Calls Tryz.prog 87 #[.agg #[.int .u64 a0, .int .u64 a1, .int .u64 a2, .int .u64 a3, .int .u64 a4, .int .u64 a5, .int .u64 a6, .int .u64 a7, .int .u64 a8, .int .u64 a9, .int .u64 a10, .int .u64 a11], .func (.func 91) #[] #[]] w fun e w' => e = .returned (qres Z0 Z1 Z2 Z3) ∧ Ext w w' := by
  rw [← thr4_fit]
  unfold thr4
  have V0 : ∀ t w', IsW t Z0 → _ := fun t w' ht => wordw_any Z0 t w' ht z0
  have V1 : ∀ t w', IsW t Z1 → _ := fun t w' ht => wordw_any Z1 t w' ht z1
  have V2 : ∀ t w', IsW t Z2 → _ := fun t w' ht => wordw_any Z2 t w' ht z2
  have V3 : ∀ t w', IsW t Z3 → _ := fun t w' ht => wordw_any Z3 t w' ht z3
  by_cases k0 : (fitR Z0).2 = 0
  · rw [if_pos k0]
    by_cases k1 : (fitR Z1).2 = 0
    · rw [if_pos k1]
      by_cases k2 : (fitR Z2).2 = 0
      · rw [if_pos k2]
        by_cases k3 : (fitR Z3).2 = 0
        · rw [if_pos k3]
          exact throughN_4 _ _ _ _ _ _ _ _ _ _ _ _ _ _ _ _ _ _ _ _ _ _ _ _ w k0 k1 k2 k3 H0 V0 H1 V1 H2 V2 H3 V3
        · rw [if_neg k3]
          exact throughN_3 _ _ _ _ _ _ _ _ _ _ _ _ _ _ _ _ _ _ _ _ _ _ _ _ w k0 k1 k2 (by simp [k3]) H0 V0 H1 V1 H2 V2 H3 V3
      · rw [if_neg k2]
        exact throughN_2 _ _ _ _ _ _ _ _ _ _ _ _ _ _ _ _ _ _ _ _ _ _ _ _ w k0 k1 (by simp [k2]) H0 V0 H1 V1 H2 V2 H3 V3
    · rw [if_neg k1]
      exact throughN_1 _ _ _ _ _ _ _ _ _ _ _ _ _ _ _ _ _ _ _ _ _ _ _ _ w k0 (by simp [k1]) H0 V0 H1 V1 H2 V2 H3 V3
  · rw [if_neg k0]
    exact throughN_0 _ _ _ _ _ _ _ _ _ _ _ _ _ _ _ _ _ _ _ _ _ _ _ _ w (by simp [k0]) H0 V0 H1 V1 H2 V2 H3 V3
end Go.Proofs.YtfmalpnlencmbaaGreat

namespace Go.Proofs.YtfmalpnlencmbaaGreat
open Go.RowKit Go.Shelf

set_option maxHeartbeats 4000000 in
theorem eqQ (x y z u a b c d : Int) (w : World) : (Op.equalIn 10000 49 (.agg #[.int .i64 x, .int .i64 y, .int .i64 z, .int .i64 u]) (.agg #[.int .i64 a, .int .i64 b, .int .i64 c, .int .i64 d])).run Tryz.prog w = .ok (x == a && (y == b && (z == c && u == d))) w := by
  by_cases hx : x = a <;> by_cases hy : y = b <;> by_cases hz : z = c <;> by_cases hu : u = d <;> simp [go_sem, hx, hy, hz, hu]

set_option maxHeartbeats 2000000 in
theorem qunit1_raw (v b0 b1 b2 z : Int) (g : Nat) (w : World) (GB : H3 w g (.int .u64 b0) (.int .u64 b1) (.int .u64 b2))
    (HO : Hid (∀ w', Calls Tryz.prog 141 #[.int .i64 v, .agg #[.int .u64 b0, .int .u64 b1, .int .u64 b2]] w' fun e w'' => (∃ r, e = .returned r ∧ IsW r z) ∧ Ext w' w'')) :
    Calls Tryz.prog 151 #[.int .i64 v, .pointer (some ⟨g, 0, none⟩)] w fun e w' => (∃ r, e = .returned r ∧ IsW r z) ∧ Ext w w' := by
  have hg := GB.2.2.2.2.2.2
  have GG := GB.alloc (.cells #[.int .u64 0, .int .u64 0, .int .u64 0] 129)
  obtain ⟨g0, g1, g2, g3, g4, g5, g6⟩ := GG
  clear GB
  go_enter Tryz.func151, Tryz.ntmps151
  go_wp2_with fail
  refine (HO.out _).mono ?_
  rintro e w1 ⟨⟨r, rfl, s0, s1, s2, rfl, hr⟩, x1⟩
  have HR : Hid _ := hr
  clear hr
  have X1 : Ext w w1 := Ext.trans (by repeat (first | with_reducible assumption | with_reducible exact Ext.refl _ | with_reducible refine Ext.drew ?_ | with_reducible refine Ext.drewN ?_ _ | with_reducible refine Ext.alloc ?_ _ | with_reducible refine Ext.set ?_ (by first | exact Nat.le_refl _ | (dsimp only; omega) | (simp; done)) _)) x1
  obtain ⟨c0, c1, c2, c3, c4, c5, c6⟩ : H3 w1 w.heap.size _ _ _ := (h3_at rfl).ext x1
  clear x1 g0 g1 g2 g3 g4 g5 g6
  go_wp2_with fail
  exact bodyPost_ret (v := .agg #[.int .u64 s0, .int .u64 s1, .int .u64 s2]) (by simp [results, Tryz.results151, go_sem, c0, c1, c2]) rfl ⟨⟨_, rfl, _, _, _, rfl, HR.out⟩, by repeat (first | with_reducible assumption | with_reducible exact Ext.refl _ | with_reducible refine Ext.drew ?_ | with_reducible refine Ext.drewN ?_ _ | with_reducible refine Ext.alloc ?_ _ | with_reducible refine Ext.set ?_ (by first | exact Nat.le_refl _ | (dsimp only; omega) | (simp; done)) _)⟩

set_option maxHeartbeats 2000000 in
theorem qinQ30_any (z : Int) (u : Value) (w : World) (hu : IsW u z) (hz : InW (z + 536870912)) (hz' : InW z) :
    Calls Tryz.prog 91 #[u] w fun e w' => (∃ r, e = .returned r ∧ IsW r (nearQ z)) ∧ Ext w w' := by
  have HO : Hid (∀ w', Calls Tryz.prog 149 #[u, .int .i64 30] w' fun e w'' => (∃ r, e = .returned r ∧ IsW r (nearQ z)) ∧ Ext w' w'') := fun w' => nearestw_any z u w' hu hz hz'
  obtain ⟨a0, a1, a2, rfl, ha⟩ := hu
  clear ha hz hz'
  go_enter Tryz.func91, Tryz.ntmps91
  go_wp2_with fail
  refine (HO.out _).mono ?_
  rintro e w1 ⟨⟨r, rfl, s0, s1, s2, rfl, hr⟩, x1⟩
  have HR : Hid _ := hr
  clear hr
  have X1 : Ext w w1 := Ext.trans (by repeat (first | with_reducible assumption | with_reducible exact Ext.refl _ | with_reducible refine Ext.drew ?_ | with_reducible refine Ext.drewN ?_ _ | with_reducible refine Ext.alloc ?_ _ | with_reducible refine Ext.set ?_ (by first | exact Nat.le_refl _ | (dsimp only; omega) | (simp; done)) _)) x1
  obtain ⟨c0, c1, c2, c3, c4, c5, c6⟩ : H3 w1 (w.heap.size + 1) _ _ _ := (h3_at (by simp)).ext x1
  clear x1
  go_wp2_with fail
  exact bodyPost_ret (v := .agg #[.int .u64 s0, .int .u64 s1, .int .u64 s2]) (by simp [results, Tryz.results91, go_sem, c0, c1, c2]) rfl ⟨⟨_, rfl, _, _, _, rfl, HR.out⟩, by repeat (first | with_reducible assumption | with_reducible exact Ext.refl _ | with_reducible refine Ext.drew ?_ | with_reducible refine Ext.drewN ?_ _ | with_reducible refine Ext.alloc ?_ _ | with_reducible refine Ext.set ?_ (by first | exact Nat.le_refl _ | (dsimp only; omega) | (simp; done)) _)⟩

set_option maxRecDepth 20000 in
set_option maxHeartbeats 4000000 in
theorem qunit_raw (a b c d N E0 E1 E2 E3 ee : Int) (w : World)
    (HS : Hid (∀ w', Calls Tryz.prog 95 #[.agg #[.int .i64 a, .int .i64 b, .int .i64 c, .int .i64 d]] w' fun e w'' => (∃ r, e = .returned r ∧ IsW r N) ∧ Ext w' w''))
    (HT : Hid (∀ g b0 b1 b2 w', IsW (.agg #[.int .u64 b0, .int .u64 b1, .int .u64 b2]) N → H3 w' g (.int .u64 b0) (.int .u64 b1) (.int .u64 b2) → Calls Tryz.prog 150 #[.agg #[.int .i64 a, .int .i64 b, .int .i64 c, .int .i64 d], .func (.func 151) #[] #[.pointer (some ⟨g, 0, none⟩)]] w' fun e w'' => e = .returned (.tuple #[.agg #[.int .i64 E0, .int .i64 E1, .int .i64 E2, .int .i64 E3], .int .i64 ee]) ∧ Ext w' w'')) :
    Calls Tryz.prog 94 #[.agg #[.int .i64 a, .int .i64 b, .int .i64 c, .int .i64 d]] w fun e w' => e = .returned (.tuple #[.agg #[.int .i64 E0, .int .i64 E1, .int .i64 E2, .int .i64 E3], .int .i64 ee]) ∧ Ext w w' := by
  go_enter Tryz.func94, Tryz.ntmps94
  go_wp2_with fail
  refine (HS.out _).mono ?_
  rintro e w1 ⟨⟨uN, rfl, b0, b1, b2, rfl, hN0⟩, x1⟩
  have HN : Hid (IsW (.agg #[.int .u64 b0, .int .u64 b1, .int .u64 b2]) N) := ⟨_, _, _, rfl, hN0⟩
  clear hN0
  have QB : Hid (H4 w1 w.heap.size (.int .i64 a) (.int .i64 b) (.int .i64 c) (.int .i64 d)) := (H4.alloc (h4_at rfl) _).ext x1
  have RB : Hid (H4 w1 (w.heap.size + 1) (.int .i64 0) (.int .i64 0) (.int .i64 0) (.int .i64 0)) := (h4_at (by simp)).ext x1
  have X1 : Ext w w1 := Ext.trans (by repeat (first | with_reducible assumption | with_reducible exact Ext.refl _ | with_reducible refine Ext.drew ?_ | with_reducible refine Ext.drewN ?_ _ | with_reducible refine Ext.alloc ?_ _ | with_reducible refine Ext.set ?_ (by first | exact Nat.le_refl _ | (dsimp only; omega) | (simp; done)) _)) x1
  clear x1
  have d0 := fun o => (QB.out.alloc o).1
  have d1 := fun o => (QB.out.alloc o).2.1
  have d2 := fun o => (QB.out.alloc o).2.2.1
  have d3 := fun o => (QB.out.alloc o).2.2.2.1
  go_wp2_with fail
  refine (HT.out _ _ _ _ _ HN.out (h3_at rfl)).mono ?_
  rintro e w2 ⟨rfl, x2⟩
  have X2 : Ext w w2 := Ext.trans (X1.alloc _) x2
  obtain ⟨r0, r1, r2, r3, r4, r5, r6, r7, r8⟩ := (RB.out.alloc _).ext x2
  clear x2 X1 d0 d1 d2 d3
  go_wp2_with fail
  exact bodyPost_ret (v := .tuple #[.agg #[.int .i64 E0, .int .i64 E1, .int .i64 E2, .int .i64 E3], .int .i64 ee]) (by simp [results, Tryz.results94, go_sem, r0, r1, r2, r3]) rfl ⟨rfl, by repeat (first | with_reducible assumption | with_reducible exact Ext.refl _ | with_reducible refine Ext.drew ?_ | with_reducible refine Ext.drewN ?_ _ | with_reducible refine Ext.alloc ?_ _ | with_reducible refine Ext.set ?_ (by first | exact Nat.le_refl _ | (dsimp only; omega) | (simp; done)) _)⟩

theorem le_sq4 (a b c d : Int) : a.natAbs * a.natAbs ≤ sq4 a b c d ∧ b.natAbs * b.natAbs ≤ sq4 a b c d ∧ c.natAbs * c.natAbs ≤ sq4 a b c d ∧ d.natAbs * d.natAbs ≤ sq4 a b c d := by
  unfold sq4; refine ⟨?_, ?_, ?_, ?_⟩ <;> omega
theorem word_abs {a : Int} (h : okW a = true) : a.natAbs < 35184372088832 := by unfold okW at h; simp at h; omega
theorem sgd_le {v : Int} {k : Nat} : (sgd v k).natAbs = k := by unfold sgd; split <;> omega
theorem unit_k_le {v : Int} {n k : Nat} (hn : 0 < n) (hv : v.natAbs * v.natAbs ≤ n) (hk : RootQ (v.natAbs * v.natAbs * 1152921504606846976) n k) : k ≤ 1073741824 := by
  apply Nat.le_of_not_lt
  intro hc
  rcases hk.2.1 with h | h
  · omega
  · have h1 : 2147483649 * 2147483649 ≤ (2 * k - 1) * (2 * k - 1) := Nat.mul_le_mul (by omega) (by omega)
    have h2 : 2147483649 * 2147483649 * n ≤ (2 * k - 1) * (2 * k - 1) * n := Nat.mul_le_mul_right _ h1
    have h3 : v.natAbs * v.natAbs * 1152921504606846976 ≤ n * 1152921504606846976 := Nat.mul_le_mul_right _ hv
    omega
theorem qunit_any (a b c d : Int) (k0 k1 k2 k3 : Nat) (w : World) (h : ok4 a b c d = true) (hq : ¬ (a = 0 ∧ b = 0 ∧ c = 0 ∧ d = 0))
    (q0 : RootQ (a.natAbs * a.natAbs * 1152921504606846976) (sq4 a b c d) k0) (q1 : RootQ (b.natAbs * b.natAbs * 1152921504606846976) (sq4 a b c d) k1) (q2 : RootQ (c.natAbs * c.natAbs * 1152921504606846976) (sq4 a b c d) k2) (q3 : RootQ (d.natAbs * d.natAbs * 1152921504606846976) (sq4 a b c d) k3) :
    Calls Tryz.prog 94 #[.agg #[.int .i64 a, .int .i64 b, .int .i64 c, .int .i64 d]] w fun e w' => e = .returned (qres (sgd a k0) (sgd b k1) (sgd c k2) (sgd d k3)) ∧ Ext w w' := by
  have n0 := sq4_pos hq
  unfold ok4 at h
  simp only [Bool.and_eq_true] at h
  obtain ⟨ha, hb, hc, hd⟩ := h
  have n1 := sq4_lt ha hb hc hd
  obtain ⟨l0, l1, l2, l3⟩ := le_sq4 a b c d
  have m0 := unit_k_le n0 l0 q0; have m1 := unit_k_le n0 l1 q1; have m2 := unit_k_le n0 l2 q2; have m3 := unit_k_le n0 l3 q3
  obtain ⟨E0, E1, E2, E3, ee, hE⟩ := qres_shape (sgd a k0) (sgd b k1) (sgd c k2) (sgd d k3)
  rw [hE]
  refine qunit_raw a b c d _ E0 E1 E2 E3 ee w (fun w' => squares_any a b c d w' ha hb hc hd) ?_
  intro g b0 b1 b2 w' hN hG
  rw [← hE]
  have iw : ∀ (v : Int) (k : Nat), k ≤ 1073741824 → InW (sgd v k) := fun v k hk => inW_of (by rw [sgd_le]; omega)
  exact throughQ_any a b c d _ _ _ _ g w' (iw _ _ m0) (iw _ _ m1) (iw _ _ m2) (iw _ _ m3)
    (fun w2 hx => qunit1_raw a b0 b1 b2 _ g w2 (hG.ext hx) (fun w3 => unitw_any a _ k0 _ w3 hN n0 n1 (word_abs ha) l0 q0))
    (fun w2 hx => qunit1_raw b b0 b1 b2 _ g w2 (hG.ext hx) (fun w3 => unitw_any b _ k1 _ w3 hN n0 n1 (word_abs hb) l1 q1))
    (fun w2 hx => qunit1_raw c b0 b1 b2 _ g w2 (hG.ext hx) (fun w3 => unitw_any c _ k2 _ w3 hN n0 n1 (word_abs hc) l2 q2))
    (fun w2 hx => qunit1_raw d b0 b1 b2 _ g w2 (hG.ext hx) (fun w3 => unitw_any d _ k3 _ w3 hN n0 n1 (word_abs hd) l3 q3))

set_option maxRecDepth 20000 in
set_option maxHeartbeats 4000000 in
theorem qUnit_raw (a b c d E0 E1 E2 E3 ee : Int) (w : World) (hz : (a == 0 && (b == 0 && (c == 0 && d == 0))) = false)
    (HK : Hid (∀ w', Calls Tryz.prog 36 #[.agg #[.int .i64 a, .int .i64 b, .int .i64 c, .int .i64 d]] w' fun e w'' => e = .returned (.int .i64 0) ∧ Ext w' w''))
    (HF : Hid (∀ w', Calls Tryz.prog 89 #[.agg #[.int .i64 a, .int .i64 b, .int .i64 c, .int .i64 d]] w' fun e w'' => e = .returned (.agg #[.int .i64 a, .int .i64 b, .int .i64 c, .int .i64 d]) ∧ Ext w' w''))
    (HU : Hid (∀ w', Calls Tryz.prog 94 #[.agg #[.int .i64 a, .int .i64 b, .int .i64 c, .int .i64 d]] w' fun e w'' => e = .returned (.tuple #[.agg #[.int .i64 E0, .int .i64 E1, .int .i64 E2, .int .i64 E3], .int .i64 ee]) ∧ Ext w' w''))
    (HA : Hid (∀ w', Calls Tryz.prog 86 #[.agg #[.int .i64 E0, .int .i64 E1, .int .i64 E2, .int .i64 E3], .int .i64 ee] w' fun e w'' => e = .returned (.tuple #[.agg #[.int .i64 E0, .int .i64 E1, .int .i64 E2, .int .i64 E3], .int .i64 ee]) ∧ Ext w' w'')) :
    Calls Tryz.prog 39 #[.agg #[.int .i64 a, .int .i64 b, .int .i64 c, .int .i64 d]] w fun e w' => e = .returned (.tuple #[.agg #[.int .i64 E0, .int .i64 E1, .int .i64 E2, .int .i64 E3], .int .i64 ee]) ∧ Ext w w' := by
  have he := eqQ a b c d 0 0 0 0
  rw [hz] at he
  clear hz
  go_enter Tryz.func39, Tryz.ntmps39
  go_wp2_with fail
  refine (HK.out _).mono ?_
  rintro e w1 ⟨rfl, x1⟩
  have QB : Hid (H4 w1 w.heap.size (.int .i64 a) (.int .i64 b) (.int .i64 c) (.int .i64 d)) := (H4.alloc (h4_at rfl) _).ext x1
  have RB : Hid (H4 w1 (w.heap.size + 1) (.int .i64 0) (.int .i64 0) (.int .i64 0) (.int .i64 0)) := (h4_at (by simp)).ext x1
  have X1 : Ext w w1 := Ext.trans (by repeat (first | with_reducible assumption | with_reducible exact Ext.refl _ | with_reducible refine Ext.drew ?_ | with_reducible refine Ext.drewN ?_ _ | with_reducible refine Ext.alloc ?_ _ | with_reducible refine Ext.set ?_ (by first | exact Nat.le_refl _ | (dsimp only; omega) | (simp; done)) _)) x1
  clear x1
  obtain ⟨s0, s1, s2, s3, s4, s5, s6, s7, s8⟩ := QB.out
  go_wp2_with fail
  refine (HF.out _).mono ?_
  rintro e w2 ⟨rfl, x2⟩
  go_wp2_with fail
  refine (HU.out _).mono ?_
  rintro e w3 ⟨rfl, x3⟩
  go_wp2_with fail
  refine (HA.out _).mono ?_
  rintro e w4 ⟨rfl, x4⟩
  have X4 : Ext w w4 := ((X1.trans x2).trans x3).trans x4
  obtain ⟨r0, r1, r2, r3, r4, r5, r6, r7, r8⟩ := ((RB.out.ext x2).ext x3).ext x4
  clear x2 x3 x4 X1 s0 s1 s2 s3 s4 s5 s6 s7 s8
  go_wp2_with fail
  exact bodyPost_ret (v := .tuple #[.agg #[.int .i64 E0, .int .i64 E1, .int .i64 E2, .int .i64 E3], .int .i64 ee]) (by simp [results, Tryz.results39, go_sem, r0, r1, r2, r3]) rfl ⟨rfl, by repeat (first | with_reducible assumption | with_reducible exact Ext.refl _ | with_reducible refine Ext.drew ?_ | with_reducible refine Ext.drewN ?_ _ | with_reducible refine Ext.alloc ?_ _ | with_reducible refine Ext.set ?_ (by first | exact Nat.le_refl _ | (dsimp only; omega) | (simp; done)) _)⟩

theorem chk4_y {a b c d : Int} (h : ok4 a b c d = true) : chk4 a b c d = 0 := by unfold chk4; rw [if_pos h]
theorem qUnit_yes (a b c d : Int) (k0 k1 k2 k3 : Nat) (w : World) (h : ok4 a b c d = true) (hq : ¬ (a = 0 ∧ b = 0 ∧ c = 0 ∧ d = 0))
    (q0 : RootQ (a.natAbs * a.natAbs * 1152921504606846976) (sq4 a b c d) k0) (q1 : RootQ (b.natAbs * b.natAbs * 1152921504606846976) (sq4 a b c d) k1) (q2 : RootQ (c.natAbs * c.natAbs * 1152921504606846976) (sq4 a b c d) k2) (q3 : RootQ (d.natAbs * d.natAbs * 1152921504606846976) (sq4 a b c d) k3) :
    Calls Tryz.prog 39 #[.agg #[.int .i64 a, .int .i64 b, .int .i64 c, .int .i64 d]] w fun e w' => e = .returned (.tuple #[.agg #[.int .i64 (sgd a k0), .int .i64 (sgd b k1), .int .i64 (sgd c k2), .int .i64 (sgd d k3)], .int .i64 0]) ∧ Ext w w' := by
  have n0 := sq4_pos hq
  obtain ⟨l0, l1, l2, l3⟩ := le_sq4 a b c d
  have m0 := unit_k_le n0 l0 q0; have m1 := unit_k_le n0 l1 q1; have m2 := unit_k_le n0 l2 q2; have m3 := unit_k_le n0 l3 q3
  have K := qCheck_any a b c d
  rw [chk4_y h] at K
  have U := fun w' => qunit_any a b c d k0 k1 k2 k3 w' h hq q0 q1 q2 q3
  have ow : ∀ (v : Int) (k : Nat), k ≤ 1073741824 → okW (sgd v k) = true := fun v k hk => by
    have := sgd_le (v := v) (k := k)
    unfold okW; simp; omega
  have e : qres (sgd a k0) (sgd b k1) (sgd c k2) (sgd d k3) = .tuple #[.agg #[.int .i64 (sgd a k0), .int .i64 (sgd b k1), .int .i64 (sgd c k2), .int .i64 (sgd d k3)], .int .i64 0] := by
    unfold qres ok4; rw [ow _ _ m0, ow _ _ m1, ow _ _ m2, ow _ _ m3]; rfl
  rw [e] at U
  have hz : (a == 0 && (b == 0 && (c == 0 && d == 0))) = false := by
    cases hh : (a == 0 && (b == 0 && (c == 0 && d == 0)))
    · rfl
    · exfalso; simp at hh; exact hq hh
  exact qUnit_raw a b c d _ _ _ _ 0 w hz K (qof_any a b c d) U (asQuat_any _ _ _ _ _)

set_option maxRecDepth 20000 in
set_option maxHeartbeats 4000000 in
theorem qNorm_raw (a b c d N M r s : Int) (w : World)
    (HK : Hid (∀ w', Calls Tryz.prog 36 #[.agg #[.int .i64 a, .int .i64 b, .int .i64 c, .int .i64 d]] w' fun e w'' => e = .returned (.int .i64 0) ∧ Ext w' w''))
    (HF : Hid (∀ w', Calls Tryz.prog 89 #[.agg #[.int .i64 a, .int .i64 b, .int .i64 c, .int .i64 d]] w' fun e w'' => e = .returned (.agg #[.int .i64 a, .int .i64 b, .int .i64 c, .int .i64 d]) ∧ Ext w' w''))
    (HS : Hid (∀ w', Calls Tryz.prog 95 #[.agg #[.int .i64 a, .int .i64 b, .int .i64 c, .int .i64 d]] w' fun e w'' => (∃ r, e = .returned r ∧ IsW r N) ∧ Ext w' w''))
    (HI : Hid (∀ t w', IsW t N → Calls Tryz.prog 91 #[t] w' fun e w'' => (∃ r, e = .returned r ∧ IsW r M) ∧ Ext w' w''))
    (HW : Hid (∀ t w', IsW t M → Calls Tryz.prog 96 #[t] w' fun e w'' => e = .returned (.tuple #[.int .i64 r, .int .i64 s]) ∧ Ext w' w'')) :
    Calls Tryz.prog 40 #[.agg #[.int .i64 a, .int .i64 b, .int .i64 c, .int .i64 d]] w fun e w' => e = .returned (.tuple #[.int .i64 r, .int .i64 s]) ∧ Ext w w' := by
  go_enter Tryz.func40, Tryz.ntmps40
  go_wp2_with fail
  refine (HK.out _).mono ?_
  rintro e w1 ⟨rfl, x1⟩
  have QB : Hid (H4 w1 w.heap.size (.int .i64 a) (.int .i64 b) (.int .i64 c) (.int .i64 d)) := (h4_at rfl).ext x1
  have X1 : Ext w w1 := Ext.trans (by repeat (first | with_reducible assumption | with_reducible exact Ext.refl _ | with_reducible refine Ext.drew ?_ | with_reducible refine Ext.drewN ?_ _ | with_reducible refine Ext.alloc ?_ _ | with_reducible refine Ext.set ?_ (by first | exact Nat.le_refl _ | (dsimp only; omega) | (simp; done)) _)) x1
  clear x1
  obtain ⟨s0, s1, s2, s3, s4, s5, s6, s7, s8⟩ := QB.out
  go_wp2_with fail
  refine (HF.out _).mono ?_
  rintro e w2 ⟨rfl, x2⟩
  go_wp2_with fail
  refine (HS.out _).mono ?_
  rintro e w3 ⟨⟨u3, rfl, h3⟩, x3⟩
  go_wp2_with fail
  refine (HI.out _ _ h3).mono ?_
  rintro e w4 ⟨⟨u4, rfl, h4⟩, x4⟩
  go_wp2_with fail
  refine (HW.out _ _ h4).mono ?_
  rintro e w5 ⟨rfl, x5⟩
  have X5 : Ext w w5 := (((X1.trans x2).trans x3).trans x4).trans x5
  clear x2 x3 x4 x5 X1 h3 h4
  go_wp2_with fail
  go_ret2
  exact ⟨rfl, X5⟩
theorem qNorm_yes (a b c d : Int) (w : World) (h : ok4 a b c d = true) :
    Calls Tryz.prog 40 #[.agg #[.int .i64 a, .int .i64 b, .int .i64 c, .int .i64 d]] w fun e w' => e = .returned (.tuple #[.int .i64 (fitR (nearQ (sq4 a b c d : Nat))).1, .int .i64 (fitR (nearQ (sq4 a b c d : Nat))).2]) ∧ Ext w w' := by
  have K := qCheck_any a b c d
  rw [chk4_y h] at K
  unfold ok4 at h
  simp only [Bool.and_eq_true] at h
  obtain ⟨ha, hb, hc, hd⟩ := h
  have n1 := sq4_lt ha hb hc hd
  have hw : InW (nearQ (sq4 a b c d : Nat)) := inW_of (by unfold nearQ oddQ; omega)
  exact qNorm_raw a b c d _ _ _ _ w K (qof_any a b c d) (fun w' => squares_any a b c d w' ha hb hc hd) (fun t w' ht => qinQ30_any _ t w' ht (inW_of (by omega)) (inW_of (by omega))) (fun t w' ht => wordw_any _ t w' ht hw)
end Go.Proofs.YtfmalpnlencmbaaGreat

namespace Go.Proofs.YtfmalpnlencmbaaGreat
open Go.RowKit Go.Shelf

end Go.Proofs.YtfmalpnlencmbaaGreat
