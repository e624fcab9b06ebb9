/- vec: unit, Unit. quat: through, by unit. -/
import Derived.Test.YtfmalpnlencmbaaGreatV1mp
import Derived.Test.YtfmalpnlencmbaaGreatMg16p
import Derived.Test.YtfmalpnlencmbaaGreatW9mp
import Derived.Test.YtfmalpnlencmbaaGreatMg10p
import Derived.Test.YtfmalpnlencmbaaGreatMg9p
namespace Go.Proofs.YtfmalpnlencmbaaGreat
open Go.RowKit Go.Shelf

end Go.Proofs.YtfmalpnlencmbaaGreat

namespace Go.Proofs.YtfmalpnlencmbaaGreat
open Go.RowKit Go.Shelf

set_option maxRecDepth 20000 in
set_option maxHeartbeats 4000000 in
theorem throughQ_0 (a0 a1 a2 a3 Z0 Z1 Z2 Z3 r0 e0 r1 e1 r2 e2 r3 e3 : Int) (g : Nat) (w : World) (n0 : (e0 != 0) = true)
    (H0 : Hid (∀ w', Ext w w' → Calls Tryz.prog 151 #[.int .i64 a0, .pointer (some ⟨g, 0, none⟩)] w' fun e w'' => (∃ r, e = .returned r ∧ IsW r Z0) ∧ Ext w' w''))
    (W0 : Hid (∀ t w', IsW t Z0 → Calls Tryz.prog 96 #[t] w' fun e w'' => e = .returned (.tuple #[.int .i64 r0, .int .i64 e0]) ∧ Ext w' w''))
    (_H1 : Hid (∀ w', Ext w w' → Calls Tryz.prog 151 #[.int .i64 a1, .pointer (some ⟨g, 0, none⟩)] w' fun e w'' => (∃ r, e = .returned r ∧ IsW r Z1) ∧ Ext w' w''))
    (_W1 : Hid (∀ t w', IsW t Z1 → Calls Tryz.prog 96 #[t] w' fun e w'' => e = .returned (.tuple #[.int .i64 r1, .int .i64 e1]) ∧ Ext w' w''))
    (_H2 : Hid (∀ w', Ext w w' → Calls Tryz.prog 151 #[.int .i64 a2, .pointer (some ⟨g, 0, none⟩)] w' fun e w'' => (∃ r, e = .returned r ∧ IsW r Z2) ∧ Ext w' w''))
    (_W2 : Hid (∀ t w', IsW t Z2 → Calls Tryz.prog 96 #[t] w' fun e w'' => e = .returned (.tuple #[.int .i64 r2, .int .i64 e2]) ∧ Ext w' w''))
    (_H3 : Hid (∀ w', Ext w w' → Calls Tryz.prog 151 #[.int .i64 a3, .pointer (some ⟨g, 0, none⟩)] w' fun e w'' => (∃ r, e = .returned r ∧ IsW r Z3) ∧ Ext w' w''))
    (_W3 : Hid (∀ t w', IsW t Z3 → Calls Tryz.prog 96 #[t] w' fun e w'' => e = .returned (.tuple #[.int .i64 r3, .int .i64 e3]) ∧ Ext w' w'')) :
    Calls Tryz.prog 150 #[.agg #[.int .i64 a0, .int .i64 a1, .int .i64 a2, .int .i64 a3], .func (.func 151) #[] #[.pointer (some ⟨g, 0, none⟩)]] w fun e w' => e = .returned (.tuple #[.agg #[.int .i64 0, .int .i64 0, .int .i64 0, .int .i64 0], .int .i64 e0]) ∧ Ext w w' := by
  have i0 : ∀ w : World, (Instr.index 124 (.agg #[.int .i64 a0, .int .i64 a1, .int .i64 a2, .int .i64 a3]) (.int .i64 0)).run Tryz.prog w = .ok (.int .i64 a0) w := fun _ => by kernel_rfl
  go_enter Tryz.func150, Tryz.ntmps150
  go_wp2_with fail
  refine wp_loop_rounds 5 ?_
  rw [rounds_succ]
  go_wp2_with fail
  refine (H0.out _ (by repeat (first | with_reducible assumption | with_reducible exact Ext.refl _ | with_reducible refine Ext.drew ?_ | with_reducible refine Ext.drewN ?_ _ | with_reducible refine Ext.alloc ?_ _ | with_reducible refine Ext.set ?_ (by first | exact Nat.le_refl _ | (dsimp only; omega) | (simp; done)) _))).mono ?_
  rintro e v0 ⟨⟨t0, rfl, h0⟩, y0⟩
  have MV0 : Hid (H4 v0 (w.heap.size + 1 + 1) (.int .i64 0) (.int .i64 0) (.int .i64 0) (.int .i64 0)) := (h4_at (by simp)).ext y0
  have RV0 : Hid (H4 v0 (w.heap.size + 1) (.int .i64 0) (.int .i64 0) (.int .i64 0) (.int .i64 0)) := (H4.alloc (h4_at (by simp)) _).ext y0
  have XV0 : Ext w v0 := Ext.trans (by repeat (first | with_reducible assumption | with_reducible exact Ext.refl _ | with_reducible refine Ext.drew ?_ | with_reducible refine Ext.drewN ?_ _ | with_reducible refine Ext.alloc ?_ _ | with_reducible refine Ext.set ?_ (by first | exact Nat.le_refl _ | (dsimp only; omega) | (simp; done)) _)) y0
  clear y0
  go_wp2_with fail
  refine (W0.out _ _ h0).mono ?_
  rintro e w1 ⟨rfl, x1⟩
  have MM1 : Hid (H4 w1 (w.heap.size + 1 + 1) (.int .i64 0) (.int .i64 0) (.int .i64 0) (.int .i64 0)) := MV0.out.ext x1
  have RR1 : Hid (H4 w1 (w.heap.size + 1) (.int .i64 0) (.int .i64 0) (.int .i64 0) (.int .i64 0)) := RV0.out.ext x1
  have X1 : Ext w w1 := XV0.trans x1
  clear x1 XV0
  obtain ⟨m0, m1, m2, m3, m4, m5, m6, m7, m8⟩ := MM1.out
  obtain ⟨q0, q1, q2, q3, q4, q5, q6, q7, q8⟩ := RR1.out
  go_wp2_with fail
  exact bodyPost_ret (v := .tuple #[.agg #[.int .i64 0, .int .i64 0, .int .i64 0, .int .i64 0], .int .i64 e0]) (by simp [results, Tryz.results150, go_sem, q0, q1, q2, q3]) rfl ⟨rfl, by repeat (first | with_reducible assumption | with_reducible exact Ext.refl _ | with_reducible refine Ext.drew ?_ | with_reducible refine Ext.drewN ?_ _ | with_reducible refine Ext.alloc ?_ _ | with_reducible refine Ext.set ?_ (by first | exact Nat.le_refl _ | (dsimp only; omega) | (simp; done)) _)⟩

set_option maxRecDepth 20000 in
set_option maxHeartbeats 4000000 in
theorem throughQ_1 (a0 a1 a2 a3 Z0 Z1 Z2 Z3 r0 e0 r1 e1 r2 e2 r3 e3 : Int) (g : Nat) (w : World) (k0 : e0 = 0) (n1 : (e1 != 0) = true)
    (H0 : Hid (∀ w', Ext w w' → Calls Tryz.prog 151 #[.int .i64 a0, .pointer (some ⟨g, 0, none⟩)] w' fun e w'' => (∃ r, e = .returned r ∧ IsW r Z0) ∧ Ext w' w''))
    (W0 : Hid (∀ t w', IsW t Z0 → Calls Tryz.prog 96 #[t] w' fun e w'' => e = .returned (.tuple #[.int .i64 r0, .int .i64 e0]) ∧ Ext w' w''))
    (H1 : Hid (∀ w', Ext w w' → Calls Tryz.prog 151 #[.int .i64 a1, .pointer (some ⟨g, 0, none⟩)] w' fun e w'' => (∃ r, e = .returned r ∧ IsW r Z1) ∧ Ext w' w''))
    (W1 : Hid (∀ t w', IsW t Z1 → Calls Tryz.prog 96 #[t] w' fun e w'' => e = .returned (.tuple #[.int .i64 r1, .int .i64 e1]) ∧ Ext w' w''))
    (_H2 : Hid (∀ w', Ext w w' → Calls Tryz.prog 151 #[.int .i64 a2, .pointer (some ⟨g, 0, none⟩)] w' fun e w'' => (∃ r, e = .returned r ∧ IsW r Z2) ∧ Ext w' w''))
    (_W2 : Hid (∀ t w', IsW t Z2 → Calls Tryz.prog 96 #[t] w' fun e w'' => e = .returned (.tuple #[.int .i64 r2, .int .i64 e2]) ∧ Ext w' w''))
    (_H3 : Hid (∀ w', Ext w w' → Calls Tryz.prog 151 #[.int .i64 a3, .pointer (some ⟨g, 0, none⟩)] w' fun e w'' => (∃ r, e = .returned r ∧ IsW r Z3) ∧ Ext w' w''))
    (_W3 : Hid (∀ t w', IsW t Z3 → Calls Tryz.prog 96 #[t] w' fun e w'' => e = .returned (.tuple #[.int .i64 r3, .int .i64 e3]) ∧ Ext w' w'')) :
    Calls Tryz.prog 150 #[.agg #[.int .i64 a0, .int .i64 a1, .int .i64 a2, .int .i64 a3], .func (.func 151) #[] #[.pointer (some ⟨g, 0, none⟩)]] w fun e w' => e = .returned (.tuple #[.agg #[.int .i64 0, .int .i64 0, .int .i64 0, .int .i64 0], .int .i64 e1]) ∧ Ext w w' := by
  have i0 : ∀ w : World, (Instr.index 124 (.agg #[.int .i64 a0, .int .i64 a1, .int .i64 a2, .int .i64 a3]) (.int .i64 0)).run Tryz.prog w = .ok (.int .i64 a0) w := fun _ => by kernel_rfl
  have i1 : ∀ w : World, (Instr.index 124 (.agg #[.int .i64 a0, .int .i64 a1, .int .i64 a2, .int .i64 a3]) (.int .i64 1)).run Tryz.prog w = .ok (.int .i64 a1) w := fun _ => by kernel_rfl
  subst k0
  go_enter Tryz.func150, Tryz.ntmps150
  go_wp2_with fail
  refine wp_loop_rounds 5 ?_
  rw [rounds_succ]
  go_wp2_with fail
  refine (H0.out _ (by repeat (first | with_reducible assumption | with_reducible exact Ext.refl _ | with_reducible refine Ext.drew ?_ | with_reducible refine Ext.drewN ?_ _ | with_reducible refine Ext.alloc ?_ _ | with_reducible refine Ext.set ?_ (by first | exact Nat.le_refl _ | (dsimp only; omega) | (simp; done)) _))).mono ?_
  rintro e v0 ⟨⟨t0, rfl, h0⟩, y0⟩
  have MV0 : Hid (H4 v0 (w.heap.size + 1 + 1) (.int .i64 0) (.int .i64 0) (.int .i64 0) (.int .i64 0)) := (h4_at (by simp)).ext y0
  have RV0 : Hid (H4 v0 (w.heap.size + 1) (.int .i64 0) (.int .i64 0) (.int .i64 0) (.int .i64 0)) := (H4.alloc (h4_at (by simp)) _).ext y0
  have XV0 : Ext w v0 := Ext.trans (by repeat (first | with_reducible assumption | with_reducible exact Ext.refl _ | with_reducible refine Ext.drew ?_ | with_reducible refine Ext.drewN ?_ _ | with_reducible refine Ext.alloc ?_ _ | with_reducible refine Ext.set ?_ (by first | exact Nat.le_refl _ | (dsimp only; omega) | (simp; done)) _)) y0
  clear y0
  go_wp2_with fail
  refine (W0.out _ _ h0).mono ?_
  rintro e w1 ⟨rfl, x1⟩
  have MM1 : Hid (H4 w1 (w.heap.size + 1 + 1) (.int .i64 0) (.int .i64 0) (.int .i64 0) (.int .i64 0)) := MV0.out.ext x1
  have RR1 : Hid (H4 w1 (w.heap.size + 1) (.int .i64 0) (.int .i64 0) (.int .i64 0) (.int .i64 0)) := RV0.out.ext x1
  have X1 : Ext w w1 := XV0.trans x1
  clear x1 XV0
  obtain ⟨m0, m1, m2, m3, m4, m5, m6, m7, m8⟩ := MM1.out
  obtain ⟨q0, q1, q2, q3, q4, q5, q6, q7, q8⟩ := RR1.out
  go_wp2_with fail
  rw [rounds_succ]
  go_wp2_with fail
  refine (H1.out _ (by repeat (first | with_reducible assumption | with_reducible exact Ext.refl _ | with_reducible refine Ext.drew ?_ | with_reducible refine Ext.drewN ?_ _ | with_reducible refine Ext.alloc ?_ _ | with_reducible refine Ext.set ?_ (by first | exact Nat.le_refl _ | (dsimp only; omega) | (simp; done)) _))).mono ?_
  rintro e v1 ⟨⟨t1, rfl, h1⟩, y1⟩
  have MV1 : Hid (H4 v1 (w.heap.size + 1 + 1) (.int .i64 r0) (.int .i64 0) (.int .i64 0) (.int .i64 0)) := (H4.set0 MM1.out _).ext y1
  have RV1 : Hid (H4 v1 (w.heap.size + 1) (.int .i64 0) (.int .i64 0) (.int .i64 0) (.int .i64 0)) := (H4.far RR1.out (by omega)).ext y1
  have XV1 : Ext w v1 := Ext.trans (by repeat (first | with_reducible assumption | with_reducible exact Ext.refl _ | with_reducible refine Ext.drew ?_ | with_reducible refine Ext.drewN ?_ _ | with_reducible refine Ext.alloc ?_ _ | with_reducible refine Ext.set ?_ (by first | exact Nat.le_refl _ | (dsimp only; omega) | (simp; done)) _)) y1
  clear y1
  clear m0 m1 m2 m3 m4 m5 m6 m7 m8 q0 q1 q2 q3 q4 q5 q6 q7 q8 X1
  go_wp2_with fail
  refine (W1.out _ _ h1).mono ?_
  rintro e w2 ⟨rfl, x2⟩
  have MM2 : Hid (H4 w2 (w.heap.size + 1 + 1) (.int .i64 r0) (.int .i64 0) (.int .i64 0) (.int .i64 0)) := MV1.out.ext x2
  have RR2 : Hid (H4 w2 (w.heap.size + 1) (.int .i64 0) (.int .i64 0) (.int .i64 0) (.int .i64 0)) := RV1.out.ext x2
  have X2 : Ext w w2 := XV1.trans x2
  clear x2 XV1
  obtain ⟨m0, m1, m2, m3, m4, m5, m6, m7, m8⟩ := MM2.out
  obtain ⟨q0, q1, q2, q3, q4, q5, q6, q7, q8⟩ := RR2.out
  go_wp2_with fail
  exact bodyPost_ret (v := .tuple #[.agg #[.int .i64 0, .int .i64 0, .int .i64 0, .int .i64 0], .int .i64 e1]) (by simp [results, Tryz.results150, go_sem, q0, q1, q2, q3]) rfl ⟨rfl, by repeat (first | with_reducible assumption | with_reducible exact Ext.refl _ | with_reducible refine Ext.drew ?_ | with_reducible refine Ext.drewN ?_ _ | with_reducible refine Ext.alloc ?_ _ | with_reducible refine Ext.set ?_ (by first | exact Nat.le_refl _ | (dsimp only; omega) | (simp; done)) _)⟩

set_option maxRecDepth 20000 in
set_option maxHeartbeats 4000000 in
theorem throughQ_2 (a0 a1 a2 a3 Z0 Z1 Z2 Z3 r0 e0 r1 e1 r2 e2 r3 e3 : Int) (g : Nat) (w : World) (k0 : e0 = 0) (k1 : e1 = 0) (n2 : (e2 != 0) = true)
    (H0 : Hid (∀ w', Ext w w' → Calls Tryz.prog 151 #[.int .i64 a0, .pointer (some ⟨g, 0, none⟩)] w' fun e w'' => (∃ r, e = .returned r ∧ IsW r Z0) ∧ Ext w' w''))
    (W0 : Hid (∀ t w', IsW t Z0 → Calls Tryz.prog 96 #[t] w' fun e w'' => e = .returned (.tuple #[.int .i64 r0, .int .i64 e0]) ∧ Ext w' w''))
    (H1 : Hid (∀ w', Ext w w' → Calls Tryz.prog 151 #[.int .i64 a1, .pointer (some ⟨g, 0, none⟩)] w' fun e w'' => (∃ r, e = .returned r ∧ IsW r Z1) ∧ Ext w' w''))
    (W1 : Hid (∀ t w', IsW t Z1 → Calls Tryz.prog 96 #[t] w' fun e w'' => e = .returned (.tuple #[.int .i64 r1, .int .i64 e1]) ∧ Ext w' w''))
    (H2 : Hid (∀ w', Ext w w' → Calls Tryz.prog 151 #[.int .i64 a2, .pointer (some ⟨g, 0, none⟩)] w' fun e w'' => (∃ r, e = .returned r ∧ IsW r Z2) ∧ Ext w' w''))
    (W2 : Hid (∀ t w', IsW t Z2 → Calls Tryz.prog 96 #[t] w' fun e w'' => e = .returned (.tuple #[.int .i64 r2, .int .i64 e2]) ∧ Ext w' w''))
    (_H3 : Hid (∀ w', Ext w w' → Calls Tryz.prog 151 #[.int .i64 a3, .pointer (some ⟨g, 0, none⟩)] w' fun e w'' => (∃ r, e = .returned r ∧ IsW r Z3) ∧ Ext w' w''))
    (_W3 : Hid (∀ t w', IsW t Z3 → Calls Tryz.prog 96 #[t] w' fun e w'' => e = .returned (.tuple #[.int .i64 r3, .int .i64 e3]) ∧ Ext w' w'')) :
    Calls Tryz.prog 150 #[.agg #[.int .i64 a0, .int .i64 a1, .int .i64 a2, .int .i64 a3], .func (.func 151) #[] #[.pointer (some ⟨g, 0, none⟩)]] w fun e w' => e = .returned (.tuple #[.agg #[.int .i64 0, .int .i64 0, .int .i64 0, .int .i64 0], .int .i64 e2]) ∧ Ext w w' := by
  have i0 : ∀ w : World, (Instr.index 124 (.agg #[.int .i64 a0, .int .i64 a1, .int .i64 a2, .int .i64 a3]) (.int .i64 0)).run Tryz.prog w = .ok (.int .i64 a0) w := fun _ => by kernel_rfl
  have i1 : ∀ w : World, (Instr.index 124 (.agg #[.int .i64 a0, .int .i64 a1, .int .i64 a2, .int .i64 a3]) (.int .i64 1)).run Tryz.prog w = .ok (.int .i64 a1) w := fun _ => by kernel_rfl
  have i2 : ∀ w : World, (Instr.index 124 (.agg #[.int .i64 a0, .int .i64 a1, .int .i64 a2, .int .i64 a3]) (.int .i64 2)).run Tryz.prog w = .ok (.int .i64 a2) w := fun _ => by kernel_rfl
  subst k0
  subst k1
  go_enter Tryz.func150, Tryz.ntmps150
  go_wp2_with fail
  refine wp_loop_rounds 5 ?_
  rw [rounds_succ]
  go_wp2_with fail
  refine (H0.out _ (by repeat (first | with_reducible assumption | with_reducible exact Ext.refl _ | with_reducible refine Ext.drew ?_ | with_reducible refine Ext.drewN ?_ _ | with_reducible refine Ext.alloc ?_ _ | with_reducible refine Ext.set ?_ (by first | exact Nat.le_refl _ | (dsimp only; omega) | (simp; done)) _))).mono ?_
  rintro e v0 ⟨⟨t0, rfl, h0⟩, y0⟩
  have MV0 : Hid (H4 v0 (w.heap.size + 1 + 1) (.int .i64 0) (.int .i64 0) (.int .i64 0) (.int .i64 0)) := (h4_at (by simp)).ext y0
  have RV0 : Hid (H4 v0 (w.heap.size + 1) (.int .i64 0) (.int .i64 0) (.int .i64 0) (.int .i64 0)) := (H4.alloc (h4_at (by simp)) _).ext y0
  have XV0 : Ext w v0 := Ext.trans (by repeat (first | with_reducible assumption | with_reducible exact Ext.refl _ | with_reducible refine Ext.drew ?_ | with_reducible refine Ext.drewN ?_ _ | with_reducible refine Ext.alloc ?_ _ | with_reducible refine Ext.set ?_ (by first | exact Nat.le_refl _ | (dsimp only; omega) | (simp; done)) _)) y0
  clear y0
  go_wp2_with fail
  refine (W0.out _ _ h0).mono ?_
  rintro e w1 ⟨rfl, x1⟩
  have MM1 : Hid (H4 w1 (w.heap.size + 1 + 1) (.int .i64 0) (.int .i64 0) (.int .i64 0) (.int .i64 0)) := MV0.out.ext x1
  have RR1 : Hid (H4 w1 (w.heap.size + 1) (.int .i64 0) (.int .i64 0) (.int .i64 0) (.int .i64 0)) := RV0.out.ext x1
  have X1 : Ext w w1 := XV0.trans x1
  clear x1 XV0
  obtain ⟨m0, m1, m2, m3, m4, m5, m6, m7, m8⟩ := MM1.out
  obtain ⟨q0, q1, q2, q3, q4, q5, q6, q7, q8⟩ := RR1.out
  go_wp2_with fail
  rw [rounds_succ]
  go_wp2_with fail
  refine (H1.out _ (by repeat (first | with_reducible assumption | with_reducible exact Ext.refl _ | with_reducible refine Ext.drew ?_ | with_reducible refine Ext.drewN ?_ _ | with_reducible refine Ext.alloc ?_ _ | with_reducible refine Ext.set ?_ (by first | exact Nat.le_refl _ | (dsimp only; omega) | (simp; done)) _))).mono ?_
  rintro e v1 ⟨⟨t1, rfl, h1⟩, y1⟩
  have MV1 : Hid (H4 v1 (w.heap.size + 1 + 1) (.int .i64 r0) (.int .i64 0) (.int .i64 0) (.int .i64 0)) := (H4.set0 MM1.out _).ext y1
  have RV1 : Hid (H4 v1 (w.heap.size + 1) (.int .i64 0) (.int .i64 0) (.int .i64 0) (.int .i64 0)) := (H4.far RR1.out (by omega)).ext y1
  have XV1 : Ext w v1 := Ext.trans (by repeat (first | with_reducible assumption | with_reducible exact Ext.refl _ | with_reducible refine Ext.drew ?_ | with_reducible refine Ext.drewN ?_ _ | with_reducible refine Ext.alloc ?_ _ | with_reducible refine Ext.set ?_ (by first | exact Nat.le_refl _ | (dsimp only; omega) | (simp; done)) _)) y1
  clear y1
  clear m0 m1 m2 m3 m4 m5 m6 m7 m8 q0 q1 q2 q3 q4 q5 q6 q7 q8 X1
  go_wp2_with fail
  refine (W1.out _ _ h1).mono ?_
  rintro e w2 ⟨rfl, x2⟩
  have MM2 : Hid (H4 w2 (w.heap.size + 1 + 1) (.int .i64 r0) (.int .i64 0) (.int .i64 0) (.int .i64 0)) := MV1.out.ext x2
  have RR2 : Hid (H4 w2 (w.heap.size + 1) (.int .i64 0) (.int .i64 0) (.int .i64 0) (.int .i64 0)) := RV1.out.ext x2
  have X2 : Ext w w2 := XV1.trans x2
  clear x2 XV1
  obtain ⟨m0, m1, m2, m3, m4, m5, m6, m7, m8⟩ := MM2.out
  obtain ⟨q0, q1, q2, q3, q4, q5, q6, q7, q8⟩ := RR2.out
  go_wp2_with fail
  rw [rounds_succ]
  go_wp2_with fail
  refine (H2.out _ (by repeat (first | with_reducible assumption | with_reducible exact Ext.refl _ | with_reducible refine Ext.drew ?_ | with_reducible refine Ext.drewN ?_ _ | with_reducible refine Ext.alloc ?_ _ | with_reducible refine Ext.set ?_ (by first | exact Nat.le_refl _ | (dsimp only; omega) | (simp; done)) _))).mono ?_
  rintro e v2 ⟨⟨t2, rfl, h2⟩, y2⟩
  have MV2 : Hid (H4 v2 (w.heap.size + 1 + 1) (.int .i64 r0) (.int .i64 r1) (.int .i64 0) (.int .i64 0)) := (H4.set1 MM2.out _).ext y2
  have RV2 : Hid (H4 v2 (w.heap.size + 1) (.int .i64 0) (.int .i64 0) (.int .i64 0) (.int .i64 0)) := (H4.far RR2.out (by omega)).ext y2
  have XV2 : Ext w v2 := Ext.trans (by repeat (first | with_reducible assumption | with_reducible exact Ext.refl _ | with_reducible refine Ext.drew ?_ | with_reducible refine Ext.drewN ?_ _ | with_reducible refine Ext.alloc ?_ _ | with_reducible refine Ext.set ?_ (by first | exact Nat.le_refl _ | (dsimp only; omega) | (simp; done)) _)) y2
  clear y2
  clear m0 m1 m2 m3 m4 m5 m6 m7 m8 q0 q1 q2 q3 q4 q5 q6 q7 q8 X2
  go_wp2_with fail
  refine (W2.out _ _ h2).mono ?_
  rintro e w3 ⟨rfl, x3⟩
  have MM3 : Hid (H4 w3 (w.heap.size + 1 + 1) (.int .i64 r0) (.int .i64 r1) (.int .i64 0) (.int .i64 0)) := MV2.out.ext x3
  have RR3 : Hid (H4 w3 (w.heap.size + 1) (.int .i64 0) (.int .i64 0) (.int .i64 0) (.int .i64 0)) := RV2.out.ext x3
  have X3 : Ext w w3 := XV2.trans x3
  clear x3 XV2
  obtain ⟨m0, m1, m2, m3, m4, m5, m6, m7, m8⟩ := MM3.out
  obtain ⟨q0, q1, q2, q3, q4, q5, q6, q7, q8⟩ := RR3.out
  go_wp2_with fail
  exact bodyPost_ret (v := .tuple #[.agg #[.int .i64 0, .int .i64 0, .int .i64 0, .int .i64 0], .int .i64 e2]) (by simp [results, Tryz.results150, go_sem, q0, q1, q2, q3]) rfl ⟨rfl, by repeat (first | with_reducible assumption | with_reducible exact Ext.refl _ | with_reducible refine Ext.drew ?_ | with_reducible refine Ext.drewN ?_ _ | with_reducible refine Ext.alloc ?_ _ | with_reducible refine Ext.set ?_ (by first | exact Nat.le_refl _ | (dsimp only; omega) | (simp; done)) _)⟩

set_option maxRecDepth 20000 in
set_option maxHeartbeats 4000000 in
theorem throughQ_3 (a0 a1 a2 a3 Z0 Z1 Z2 Z3 r0 e0 r1 e1 r2 e2 r3 e3 : Int) (g : Nat) (w : World) (k0 : e0 = 0) (k1 : e1 = 0) (k2 : e2 = 0) (n3 : (e3 != 0) = true)
    (H0 : Hid (∀ w', Ext w w' → Calls Tryz.prog 151 #[.int .i64 a0, .pointer (some ⟨g, 0, none⟩)] w' fun e w'' => (∃ r, e = .returned r ∧ IsW r Z0) ∧ Ext w' w''))
    (W0 : Hid (∀ t w', IsW t Z0 → Calls Tryz.prog 96 #[t] w' fun e w'' => e = .returned (.tuple #[.int .i64 r0, .int .i64 e0]) ∧ Ext w' w''))
    (H1 : Hid (∀ w', Ext w w' → Calls Tryz.prog 151 #[.int .i64 a1, .pointer (some ⟨g, 0, none⟩)] w' fun e w'' => (∃ r, e = .returned r ∧ IsW r Z1) ∧ Ext w' w''))
    (W1 : Hid (∀ t w', IsW t Z1 → Calls Tryz.prog 96 #[t] w' fun e w'' => e = .returned (.tuple #[.int .i64 r1, .int .i64 e1]) ∧ Ext w' w''))
    (H2 : Hid (∀ w', Ext w w' → Calls Tryz.prog 151 #[.int .i64 a2, .pointer (some ⟨g, 0, none⟩)] w' fun e w'' => (∃ r, e = .returned r ∧ IsW r Z2) ∧ Ext w' w''))
    (W2 : Hid (∀ t w', IsW t Z2 → Calls Tryz.prog 96 #[t] w' fun e w'' => e = .returned (.tuple #[.int .i64 r2, .int .i64 e2]) ∧ Ext w' w''))
    (H3 : Hid (∀ w', Ext w w' → Calls Tryz.prog 151 #[.int .i64 a3, .pointer (some ⟨g, 0, none⟩)] w' fun e w'' => (∃ r, e = .returned r ∧ IsW r Z3) ∧ Ext w' w''))
    (W3 : Hid (∀ t w', IsW t Z3 → Calls Tryz.prog 96 #[t] w' fun e w'' => e = .returned (.tuple #[.int .i64 r3, .int .i64 e3]) ∧ Ext w' w'')) :
    Calls Tryz.prog 150 #[.agg #[.int .i64 a0, .int .i64 a1, .int .i64 a2, .int .i64 a3], .func (.func 151) #[] #[.pointer (some ⟨g, 0, none⟩)]] w fun e w' => e = .returned (.tuple #[.agg #[.int .i64 0, .int .i64 0, .int .i64 0, .int .i64 0], .int .i64 e3]) ∧ Ext w w' := by
  have i0 : ∀ w : World, (Instr.index 124 (.agg #[.int .i64 a0, .int .i64 a1, .int .i64 a2, .int .i64 a3]) (.int .i64 0)).run Tryz.prog w = .ok (.int .i64 a0) w := fun _ => by kernel_rfl
  have i1 : ∀ w : World, (Instr.index 124 (.agg #[.int .i64 a0, .int .i64 a1, .int .i64 a2, .int .i64 a3]) (.int .i64 1)).run Tryz.prog w = .ok (.int .i64 a1) w := fun _ => by kernel_rfl
  have i2 : ∀ w : World, (Instr.index 124 (.agg #[.int .i64 a0, .int .i64 a1, .int .i64 a2, .int .i64 a3]) (.int .i64 2)).run Tryz.prog w = .ok (.int .i64 a2) w := fun _ => by kernel_rfl
  have i3 : ∀ w : World, (Instr.index 124 (.agg #[.int .i64 a0, .int .i64 a1, .int .i64 a2, .int .i64 a3]) (.int .i64 3)).run Tryz.prog w = .ok (.int .i64 a3) w := fun _ => by kernel_rfl
  subst k0
  subst k1
  subst k2
  go_enter Tryz.func150, Tryz.ntmps150
  go_wp2_with fail
  refine wp_loop_rounds 5 ?_
  rw [rounds_succ]
  go_wp2_with fail
  refine (H0.out _ (by repeat (first | with_reducible assumption | with_reducible exact Ext.refl _ | with_reducible refine Ext.drew ?_ | with_reducible refine Ext.drewN ?_ _ | with_reducible refine Ext.alloc ?_ _ | with_reducible refine Ext.set ?_ (by first | exact Nat.le_refl _ | (dsimp only; omega) | (simp; done)) _))).mono ?_
  rintro e v0 ⟨⟨t0, rfl, h0⟩, y0⟩
  have MV0 : Hid (H4 v0 (w.heap.size + 1 + 1) (.int .i64 0) (.int .i64 0) (.int .i64 0) (.int .i64 0)) := (h4_at (by simp)).ext y0
  have RV0 : Hid (H4 v0 (w.heap.size + 1) (.int .i64 0) (.int .i64 0) (.int .i64 0) (.int .i64 0)) := (H4.alloc (h4_at (by simp)) _).ext y0
  have XV0 : Ext w v0 := Ext.trans (by repeat (first | with_reducible assumption | with_reducible exact Ext.refl _ | with_reducible refine Ext.drew ?_ | with_reducible refine Ext.drewN ?_ _ | with_reducible refine Ext.alloc ?_ _ | with_reducible refine Ext.set ?_ (by first | exact Nat.le_refl _ | (dsimp only; omega) | (simp; done)) _)) y0
  clear y0
  go_wp2_with fail
  refine (W0.out _ _ h0).mono ?_
  rintro e w1 ⟨rfl, x1⟩
  have MM1 : Hid (H4 w1 (w.heap.size + 1 + 1) (.int .i64 0) (.int .i64 0) (.int .i64 0) (.int .i64 0)) := MV0.out.ext x1
  have RR1 : Hid (H4 w1 (w.heap.size + 1) (.int .i64 0) (.int .i64 0) (.int .i64 0) (.int .i64 0)) := RV0.out.ext x1
  have X1 : Ext w w1 := XV0.trans x1
  clear x1 XV0
  obtain ⟨m0, m1, m2, m3, m4, m5, m6, m7, m8⟩ := MM1.out
  obtain ⟨q0, q1, q2, q3, q4, q5, q6, q7, q8⟩ := RR1.out
  go_wp2_with fail
  rw [rounds_succ]
  go_wp2_with fail
  refine (H1.out _ (by repeat (first | with_reducible assumption | with_reducible exact Ext.refl _ | with_reducible refine Ext.drew ?_ | with_reducible refine Ext.drewN ?_ _ | with_reducible refine Ext.alloc ?_ _ | with_reducible refine Ext.set ?_ (by first | exact Nat.le_refl _ | (dsimp only; omega) | (simp; done)) _))).mono ?_
  rintro e v1 ⟨⟨t1, rfl, h1⟩, y1⟩
  have MV1 : Hid (H4 v1 (w.heap.size + 1 + 1) (.int .i64 r0) (.int .i64 0) (.int .i64 0) (.int .i64 0)) := (H4.set0 MM1.out _).ext y1
  have RV1 : Hid (H4 v1 (w.heap.size + 1) (.int .i64 0) (.int .i64 0) (.int .i64 0) (.int .i64 0)) := (H4.far RR1.out (by omega)).ext y1
  have XV1 : Ext w v1 := Ext.trans (by repeat (first | with_reducible assumption | with_reducible exact Ext.refl _ | with_reducible refine Ext.drew ?_ | with_reducible refine Ext.drewN ?_ _ | with_reducible refine Ext.alloc ?_ _ | with_reducible refine Ext.set ?_ (by first | exact Nat.le_refl _ | (dsimp only; omega) | (simp; done)) _)) y1
  clear y1
  clear m0 m1 m2 m3 m4 m5 m6 m7 m8 q0 q1 q2 q3 q4 q5 q6 q7 q8 X1
  go_wp2_with fail
  refine (W1.out _ _ h1).mono ?_
  rintro e w2 ⟨rfl, x2⟩
  have MM2 : Hid (H4 w2 (w.heap.size + 1 + 1) (.int .i64 r0) (.int .i64 0) (.int .i64 0) (.int .i64 0)) := MV1.out.ext x2
  have RR2 : Hid (H4 w2 (w.heap.size + 1) (.int .i64 0) (.int .i64 0) (.int .i64 0) (.int .i64 0)) := RV1.out.ext x2
  have X2 : Ext w w2 := XV1.trans x2
  clear x2 XV1
  obtain ⟨m0, m1, m2, m3, m4, m5, m6, m7, m8⟩ := MM2.out
  obtain ⟨q0, q1, q2, q3, q4, q5, q6, q7, q8⟩ := RR2.out
  go_wp2_with fail
  rw [rounds_succ]
  go_wp2_with fail
  refine (H2.out _ (by repeat (first | with_reducible assumption | with_reducible exact Ext.refl _ | with_reducible refine Ext.drew ?_ | with_reducible refine Ext.drewN ?_ _ | with_reducible refine Ext.alloc ?_ _ | with_reducible refine Ext.set ?_ (by first | exact Nat.le_refl _ | (dsimp only; omega) | (simp; done)) _))).mono ?_
  rintro e v2 ⟨⟨t2, rfl, h2⟩, y2⟩
  have MV2 : Hid (H4 v2 (w.heap.size + 1 + 1) (.int .i64 r0) (.int .i64 r1) (.int .i64 0) (.int .i64 0)) := (H4.set1 MM2.out _).ext y2
  have RV2 : Hid (H4 v2 (w.heap.size + 1) (.int .i64 0) (.int .i64 0) (.int .i64 0) (.int .i64 0)) := (H4.far RR2.out (by omega)).ext y2
  have XV2 : Ext w v2 := Ext.trans (by repeat (first | with_reducible assumption | with_reducible exact Ext.refl _ | with_reducible refine Ext.drew ?_ | with_reducible refine Ext.drewN ?_ _ | with_reducible refine Ext.alloc ?_ _ | with_reducible refine Ext.set ?_ (by first | exact Nat.le_refl _ | (dsimp only; omega) | (simp; done)) _)) y2
  clear y2
  clear m0 m1 m2 m3 m4 m5 m6 m7 m8 q0 q1 q2 q3 q4 q5 q6 q7 q8 X2
  go_wp2_with fail
  refine (W2.out _ _ h2).mono ?_
  rintro e w3 ⟨rfl, x3⟩
  have MM3 : Hid (H4 w3 (w.heap.size + 1 + 1) (.int .i64 r0) (.int .i64 r1) (.int .i64 0) (.int .i64 0)) := MV2.out.ext x3
  have RR3 : Hid (H4 w3 (w.heap.size + 1) (.int .i64 0) (.int .i64 0) (.int .i64 0) (.int .i64 0)) := RV2.out.ext x3
  have X3 : Ext w w3 := XV2.trans x3
  clear x3 XV2
  obtain ⟨m0, m1, m2, m3, m4, m5, m6, m7, m8⟩ := MM3.out
  obtain ⟨q0, q1, q2, q3, q4, q5, q6, q7, q8⟩ := RR3.out
  go_wp2_with fail
  rw [rounds_succ]
  go_wp2_with fail
  refine (H3.out _ (by repeat (first | with_reducible assumption | with_reducible exact Ext.refl _ | with_reducible refine Ext.drew ?_ | with_reducible refine Ext.drewN ?_ _ | with_reducible refine Ext.alloc ?_ _ | with_reducible refine Ext.set ?_ (by first | exact Nat.le_refl _ | (dsimp only; omega) | (simp; done)) _))).mono ?_
  rintro e v3 ⟨⟨t3, rfl, h3⟩, y3⟩
  have MV3 : Hid (H4 v3 (w.heap.size + 1 + 1) (.int .i64 r0) (.int .i64 r1) (.int .i64 r2) (.int .i64 0)) := (H4.set2 MM3.out _).ext y3
  have RV3 : Hid (H4 v3 (w.heap.size + 1) (.int .i64 0) (.int .i64 0) (.int .i64 0) (.int .i64 0)) := (H4.far RR3.out (by omega)).ext y3
  have XV3 : Ext w v3 := Ext.trans (by repeat (first | with_reducible assumption | with_reducible exact Ext.refl _ | with_reducible refine Ext.drew ?_ | with_reducible refine Ext.drewN ?_ _ | with_reducible refine Ext.alloc ?_ _ | with_reducible refine Ext.set ?_ (by first | exact Nat.le_refl _ | (dsimp only; omega) | (simp; done)) _)) y3
  clear y3
  clear m0 m1 m2 m3 m4 m5 m6 m7 m8 q0 q1 q2 q3 q4 q5 q6 q7 q8 X3
  go_wp2_with fail
  refine (W3.out _ _ h3).mono ?_
  rintro e w4 ⟨rfl, x4⟩
  have MM4 : Hid (H4 w4 (w.heap.size + 1 + 1) (.int .i64 r0) (.int .i64 r1) (.int .i64 r2) (.int .i64 0)) := MV3.out.ext x4
  have RR4 : Hid (H4 w4 (w.heap.size + 1) (.int .i64 0) (.int .i64 0) (.int .i64 0) (.int .i64 0)) := RV3.out.ext x4
  have X4 : Ext w w4 := XV3.trans x4
  clear x4 XV3
  obtain ⟨m0, m1, m2, m3, m4, m5, m6, m7, m8⟩ := MM4.out
  obtain ⟨q0, q1, q2, q3, q4, q5, q6, q7, q8⟩ := RR4.out
  go_wp2_with fail
  exact bodyPost_ret (v := .tuple #[.agg #[.int .i64 0, .int .i64 0, .int .i64 0, .int .i64 0], .int .i64 e3]) (by simp [results, Tryz.results150, go_sem, q0, q1, q2, q3]) rfl ⟨rfl, by repeat (first | with_reducible assumption | with_reducible exact Ext.refl _ | with_reducible refine Ext.drew ?_ | with_reducible refine Ext.drewN ?_ _ | with_reducible refine Ext.alloc ?_ _ | with_reducible refine Ext.set ?_ (by first | exact Nat.le_refl _ | (dsimp only; omega) | (simp; done)) _)⟩

set_option maxRecDepth 20000 in
set_option maxHeartbeats 4000000 in
theorem throughQ_4 (a0 a1 a2 a3 Z0 Z1 Z2 Z3 r0 e0 r1 e1 r2 e2 r3 e3 : Int) (g : Nat) (w : World) (k0 : e0 = 0) (k1 : e1 = 0) (k2 : e2 = 0) (k3 : e3 = 0)
    (H0 : Hid (∀ w', Ext w w' → Calls Tryz.prog 151 #[.int .i64 a0, .pointer (some ⟨g, 0, none⟩)] w' fun e w'' => (∃ r, e = .returned r ∧ IsW r Z0) ∧ Ext w' w''))
    (W0 : Hid (∀ t w', IsW t Z0 → Calls Tryz.prog 96 #[t] w' fun e w'' => e = .returned (.tuple #[.int .i64 r0, .int .i64 e0]) ∧ Ext w' w''))
    (H1 : Hid (∀ w', Ext w w' → Calls Tryz.prog 151 #[.int .i64 a1, .pointer (some ⟨g, 0, none⟩)] w' fun e w'' => (∃ r, e = .returned r ∧ IsW r Z1) ∧ Ext w' w''))
    (W1 : Hid (∀ t w', IsW t Z1 → Calls Tryz.prog 96 #[t] w' fun e w'' => e = .returned (.tuple #[.int .i64 r1, .int .i64 e1]) ∧ Ext w' w''))
    (H2 : Hid (∀ w', Ext w w' → Calls Tryz.prog 151 #[.int .i64 a2, .pointer (some ⟨g, 0, none⟩)] w' fun e w'' => (∃ r, e = .returned r ∧ IsW r Z2) ∧ Ext w' w''))
    (W2 : Hid (∀ t w', IsW t Z2 → Calls Tryz.prog 96 #[t] w' fun e w'' => e = .returned (.tuple #[.int .i64 r2, .int .i64 e2]) ∧ Ext w' w''))
    (H3 : Hid (∀ w', Ext w w' → Calls Tryz.prog 151 #[.int .i64 a3, .pointer (some ⟨g, 0, none⟩)] w' fun e w'' => (∃ r, e = .returned r ∧ IsW r Z3) ∧ Ext w' w''))
    (W3 : Hid (∀ t w', IsW t Z3 → Calls Tryz.prog 96 #[t] w' fun e w'' => e = .returned (.tuple #[.int .i64 r3, .int .i64 e3]) ∧ Ext w' w'')) :
    Calls Tryz.prog 150 #[.agg #[.int .i64 a0, .int .i64 a1, .int .i64 a2, .int .i64 a3], .func (.func 151) #[] #[.pointer (some ⟨g, 0, none⟩)]] w fun e w' => e = .returned (.tuple #[.agg #[.int .i64 r0, .int .i64 r1, .int .i64 r2, .int .i64 r3], .int .i64 0]) ∧ Ext w w' := by
  have i0 : ∀ w : World, (Instr.index 124 (.agg #[.int .i64 a0, .int .i64 a1, .int .i64 a2, .int .i64 a3]) (.int .i64 0)).run Tryz.prog w = .ok (.int .i64 a0) w := fun _ => by kernel_rfl
  have i1 : ∀ w : World, (Instr.index 124 (.agg #[.int .i64 a0, .int .i64 a1, .int .i64 a2, .int .i64 a3]) (.int .i64 1)).run Tryz.prog w = .ok (.int .i64 a1) w := fun _ => by kernel_rfl
  have i2 : ∀ w : World, (Instr.index 124 (.agg #[.int .i64 a0, .int .i64 a1, .int .i64 a2, .int .i64 a3]) (.int .i64 2)).run Tryz.prog w = .ok (.int .i64 a2) w := fun _ => by kernel_rfl
  have i3 : ∀ w : World, (Instr.index 124 (.agg #[.int .i64 a0, .int .i64 a1, .int .i64 a2, .int .i64 a3]) (.int .i64 3)).run Tryz.prog w = .ok (.int .i64 a3) w := fun _ => by kernel_rfl
  subst k0
  subst k1
  subst k2
  subst k3
  go_enter Tryz.func150, Tryz.ntmps150
  go_wp2_with fail
  refine wp_loop_rounds 5 ?_
  rw [rounds_succ]
  go_wp2_with fail
  refine (H0.out _ (by repeat (first | with_reducible assumption | with_reducible exact Ext.refl _ | with_reducible refine Ext.drew ?_ | with_reducible refine Ext.drewN ?_ _ | with_reducible refine Ext.alloc ?_ _ | with_reducible refine Ext.set ?_ (by first | exact Nat.le_refl _ | (dsimp only; omega) | (simp; done)) _))).mono ?_
  rintro e v0 ⟨⟨t0, rfl, h0⟩, y0⟩
  have MV0 : Hid (H4 v0 (w.heap.size + 1 + 1) (.int .i64 0) (.int .i64 0) (.int .i64 0) (.int .i64 0)) := (h4_at (by simp)).ext y0
  have RV0 : Hid (H4 v0 (w.heap.size + 1) (.int .i64 0) (.int .i64 0) (.int .i64 0) (.int .i64 0)) := (H4.alloc (h4_at (by simp)) _).ext y0
  have XV0 : Ext w v0 := Ext.trans (by repeat (first | with_reducible assumption | with_reducible exact Ext.refl _ | with_reducible refine Ext.drew ?_ | with_reducible refine Ext.drewN ?_ _ | with_reducible refine Ext.alloc ?_ _ | with_reducible refine Ext.set ?_ (by first | exact Nat.le_refl _ | (dsimp only; omega) | (simp; done)) _)) y0
  clear y0
  go_wp2_with fail
  refine (W0.out _ _ h0).mono ?_
  rintro e w1 ⟨rfl, x1⟩
  have MM1 : Hid (H4 w1 (w.heap.size + 1 + 1) (.int .i64 0) (.int .i64 0) (.int .i64 0) (.int .i64 0)) := MV0.out.ext x1
  have RR1 : Hid (H4 w1 (w.heap.size + 1) (.int .i64 0) (.int .i64 0) (.int .i64 0) (.int .i64 0)) := RV0.out.ext x1
  have X1 : Ext w w1 := XV0.trans x1
  clear x1 XV0
  obtain ⟨m0, m1, m2, m3, m4, m5, m6, m7, m8⟩ := MM1.out
  obtain ⟨q0, q1, q2, q3, q4, q5, q6, q7, q8⟩ := RR1.out
  go_wp2_with fail
  rw [rounds_succ]
  go_wp2_with fail
  refine (H1.out _ (by repeat (first | with_reducible assumption | with_reducible exact Ext.refl _ | with_reducible refine Ext.drew ?_ | with_reducible refine Ext.drewN ?_ _ | with_reducible refine Ext.alloc ?_ _ | with_reducible refine Ext.set ?_ (by first | exact Nat.le_refl _ | (dsimp only; omega) | (simp; done)) _))).mono ?_
  rintro e v1 ⟨⟨t1, rfl, h1⟩, y1⟩
  have MV1 : Hid (H4 v1 (w.heap.size + 1 + 1) (.int .i64 r0) (.int .i64 0) (.int .i64 0) (.int .i64 0)) := (H4.set0 MM1.out _).ext y1
  have RV1 : Hid (H4 v1 (w.heap.size + 1) (.int .i64 0) (.int .i64 0) (.int .i64 0) (.int .i64 0)) := (H4.far RR1.out (by omega)).ext y1
  have XV1 : Ext w v1 := Ext.trans (by repeat (first | with_reducible assumption | with_reducible exact Ext.refl _ | with_reducible refine Ext.drew ?_ | with_reducible refine Ext.drewN ?_ _ | with_reducible refine Ext.alloc ?_ _ | with_reducible refine Ext.set ?_ (by first | exact Nat.le_refl _ | (dsimp only; omega) | (simp; done)) _)) y1
  clear y1
  clear m0 m1 m2 m3 m4 m5 m6 m7 m8 q0 q1 q2 q3 q4 q5 q6 q7 q8 X1
  go_wp2_with fail
  refine (W1.out _ _ h1).mono ?_
  rintro e w2 ⟨rfl, x2⟩
  have MM2 : Hid (H4 w2 (w.heap.size + 1 + 1) (.int .i64 r0) (.int .i64 0) (.int .i64 0) (.int .i64 0)) := MV1.out.ext x2
  have RR2 : Hid (H4 w2 (w.heap.size + 1) (.int .i64 0) (.int .i64 0) (.int .i64 0) (.int .i64 0)) := RV1.out.ext x2
  have X2 : Ext w w2 := XV1.trans x2
  clear x2 XV1
  obtain ⟨m0, m1, m2, m3, m4, m5, m6, m7, m8⟩ := MM2.out
  obtain ⟨q0, q1, q2, q3, q4, q5, q6, q7, q8⟩ := RR2.out
  go_wp2_with fail
  rw [rounds_succ]
  go_wp2_with fail
  refine (H2.out _ (by repeat (first | with_reducible assumption | with_reducible exact Ext.refl _ | with_reducible refine Ext.drew ?_ | with_reducible refine Ext.drewN ?_ _ | with_reducible refine Ext.alloc ?_ _ | with_reducible refine Ext.set ?_ (by first | exact Nat.le_refl _ | (dsimp only; omega) | (simp; done)) _))).mono ?_
  rintro e v2 ⟨⟨t2, rfl, h2⟩, y2⟩
  have MV2 : Hid (H4 v2 (w.heap.size + 1 + 1) (.int .i64 r0) (.int .i64 r1) (.int .i64 0) (.int .i64 0)) := (H4.set1 MM2.out _).ext y2
  have RV2 : Hid (H4 v2 (w.heap.size + 1) (.int .i64 0) (.int .i64 0) (.int .i64 0) (.int .i64 0)) := (H4.far RR2.out (by omega)).ext y2
  have XV2 : Ext w v2 := Ext.trans (by repeat (first | with_reducible assumption | with_reducible exact Ext.refl _ | with_reducible refine Ext.drew ?_ | with_reducible refine Ext.drewN ?_ _ | with_reducible refine Ext.alloc ?_ _ | with_reducible refine Ext.set ?_ (by first | exact Nat.le_refl _ | (dsimp only; omega) | (simp; done)) _)) y2
  clear y2
  clear m0 m1 m2 m3 m4 m5 m6 m7 m8 q0 q1 q2 q3 q4 q5 q6 q7 q8 X2
  go_wp2_with fail
  refine (W2.out _ _ h2).mono ?_
  rintro e w3 ⟨rfl, x3⟩
  have MM3 : Hid (H4 w3 (w.heap.size + 1 + 1) (.int .i64 r0) (.int .i64 r1) (.int .i64 0) (.int .i64 0)) := MV2.out.ext x3
  have RR3 : Hid (H4 w3 (w.heap.size + 1) (.int .i64 0) (.int .i64 0) (.int .i64 0) (.int .i64 0)) := RV2.out.ext x3
  have X3 : Ext w w3 := XV2.trans x3
  clear x3 XV2
  obtain ⟨m0, m1, m2, m3, m4, m5, m6, m7, m8⟩ := MM3.out
  obtain ⟨q0, q1, q2, q3, q4, q5, q6, q7, q8⟩ := RR3.out
  go_wp2_with fail
  rw [rounds_succ]
  go_wp2_with fail
  refine (H3.out _ (by repeat (first | with_reducible assumption | with_reducible exact Ext.refl _ | with_reducible refine Ext.drew ?_ | with_reducible refine Ext.drewN ?_ _ | with_reducible refine Ext.alloc ?_ _ | with_reducible refine Ext.set ?_ (by first | exact Nat.le_refl _ | (dsimp only; omega) | (simp; done)) _))).mono ?_
  rintro e v3 ⟨⟨t3, rfl, h3⟩, y3⟩
  have MV3 : Hid (H4 v3 (w.heap.size + 1 + 1) (.int .i64 r0) (.int .i64 r1) (.int .i64 r2) (.int .i64 0)) := (H4.set2 MM3.out _).ext y3
  have RV3 : Hid (H4 v3 (w.heap.size + 1) (.int .i64 0) (.int .i64 0) (.int .i64 0) (.int .i64 0)) := (H4.far RR3.out (by omega)).ext y3
  have XV3 : Ext w v3 := Ext.trans (by repeat (first | with_reducible assumption | with_reducible exact Ext.refl _ | with_reducible refine Ext.drew ?_ | with_reducible refine Ext.drewN ?_ _ | with_reducible refine Ext.alloc ?_ _ | with_reducible refine Ext.set ?_ (by first | exact Nat.le_refl _ | (dsimp only; omega) | (simp; done)) _)) y3
  clear y3
  clear m0 m1 m2 m3 m4 m5 m6 m7 m8 q0 q1 q2 q3 q4 q5 q6 q7 q8 X3
  go_wp2_with fail
  refine (W3.out _ _ h3).mono ?_
  rintro e w4 ⟨rfl, x4⟩
  have MM4 : Hid (H4 w4 (w.heap.size + 1 + 1) (.int .i64 r0) (.int .i64 r1) (.int .i64 r2) (.int .i64 0)) := MV3.out.ext x4
  have RR4 : Hid (H4 w4 (w.heap.size + 1) (.int .i64 0) (.int .i64 0) (.int .i64 0) (.int .i64 0)) := RV3.out.ext x4
  have X4 : Ext w w4 := XV3.trans x4
  clear x4 XV3
  obtain ⟨m0, m1, m2, m3, m4, m5, m6, m7, m8⟩ := MM4.out
  obtain ⟨q0, q1, q2, q3, q4, q5, q6, q7, q8⟩ := RR4.out
  go_wp2_with fail
  rw [rounds_succ]
  go_wp2_with fail
  exact bodyPost_ret (v := .tuple #[.agg #[.int .i64 r0, .int .i64 r1, .int .i64 r2, .int .i64 r3], .int .i64 0]) (by simp [results, Tryz.results150, go_sem, q0, q1, q2, q3]) rfl ⟨rfl, by repeat (first | with_reducible assumption | with_reducible exact Ext.refl _ | with_reducible refine Ext.drew ?_ | with_reducible refine Ext.drewN ?_ _ | with_reducible refine Ext.alloc ?_ _ | with_reducible refine Ext.set ?_ (by first | exact Nat.le_refl _ | (dsimp only; omega) | (simp; done)) _)⟩

theorem throughQ_any (a0 a1 a2 a3 Z0 Z1 Z2 Z3 : Int) (g : Nat) (w : World) (z0 : InW Z0) (z1 : InW Z1) (z2 : InW Z2) (z3 : InW Z3)
    (H0 : ∀ w', Ext w w' → Calls Tryz.prog 151 #[.int .i64 a0, .pointer (some ⟨g, 0, none⟩)] w' fun e w'' => (∃ r, e = .returned r ∧ IsW r Z0) ∧ Ext w' w'')
    (H1 : ∀ w', Ext w w' → Calls Tryz.prog 151 #[.int .i64 a1, .pointer (some ⟨g, 0, none⟩)] w' fun e w'' => (∃ r, e = .returned r ∧ IsW r Z1) ∧ Ext w' w'')
    (H2 : ∀ w', Ext w w' → Calls Tryz.prog 151 #[.int .i64 a2, .pointer (some ⟨g, 0, none⟩)] w' fun e w'' => (∃ r, e = .returned r ∧ IsW r Z2) ∧ Ext w' w'')
    (H3 : ∀ w', Ext w w' → Calls Tryz.prog 151 #[.int .i64 a3, .pointer (some ⟨g, 0, none⟩)] w' fun e w'' => (∃ r, e = .returned r ∧ IsW r Z3) ∧ Ext w' w'') :
    Calls Tryz.prog 150 #[.agg #[.int .i64 a0, .int .i64 a1, .int .i64 a2, .int .i64 a3], .func (.func 151) #[] #[.pointer (some ⟨g, 0, none⟩)]] w fun e w' => e = .returned (qres Z0 Z1 Z2 Z3) ∧ Ext w w' := by
  rw [← thr4_fit]
  unfold thr4
  have V0 : ∀ t w', IsW t Z0 → _ := fun t w' ht => wordw_any Z0 t w' ht z0
  have V1 : ∀ t w', IsW t Z1 → _ := fun t w' ht => wordw_any Z1 t w' ht z1
  have V2 : ∀ t w', IsW t Z2 → _ := fun t w' ht => wordw_any Z2 t w' ht z2
  have V3 : ∀ t w', IsW t Z3 → _ := fun t w' ht => wordw_any Z3 t w' ht z3
  by_cases k0 : (fitR Z0).2 = 0
  · rw [if_pos k0]
    by_cases k1 : (fitR Z1).2 = 0
    · rw [if_pos k1]
      by_cases k2 : (fitR Z2).2 = 0
      · rw [if_pos k2]
        by_cases k3 : (fitR Z3).2 = 0
        · rw [if_pos k3]
          exact throughQ_4 _ _ _ _ _ _ _ _ _ _ _ _ _ _ _ _ g w k0 k1 k2 k3 H0 V0 H1 V1 H2 V2 H3 V3
        · rw [if_neg k3]
          exact throughQ_3 _ _ _ _ _ _ _ _ _ _ _ _ _ _ _ _ g w k0 k1 k2 (by simp [k3]) H0 V0 H1 V1 H2 V2 H3 V3
      · rw [if_neg k2]
        exact throughQ_2 _ _ _ _ _ _ _ _ _ _ _ _ _ _ _ _ g w k0 k1 (by simp [k2]) H0 V0 H1 V1 H2 V2 H3 V3
    · rw [if_neg k1]
      exact throughQ_1 _ _ _ _ _ _ _ _ _ _ _ _ _ _ _ _ g w k0 (by simp [k1]) H0 V0 H1 V1 H2 V2 H3 V3
  · rw [if_neg k0]
    exact throughQ_0 _ _ _ _ _ _ _ _ _ _ _ _ _ _ _ _ g w (by simp [k0]) H0 V0 H1 V1 H2 V2 H3 V3
end Go.Proofs.YtfmalpnlencmbaaGreat
