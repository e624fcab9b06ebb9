/- quat: through, by turned. quat: what is told of each number; turned. cmp.Or. quat: check, Check. -/
import Derived.Test.YtfmalpnlencmbaaGreatMg9p
import Derived.Test.YtfmalpnlencmbaaGreatQ2mp
import Derived.Test.YtfmalpnlencmbaaGreatW8mp
import Derived.Deep.RegionHeld
import Derived.Deep.DeepCutAuto
import Derived.Test.YtfmalpnlencmbaaGreatMg3p
import Derived.Test.YtfmalpnlencmbaaGreatMg2p
namespace Go.Proofs.YtfmalpnlencmbaaGreat
open Go.RowKit Go.Shelf

set_option maxRecDepth 20000 in
set_option maxHeartbeats 4000000 in
theorem throughT_0 (a0 a1 a2 a3 a4 a5 a6 a7 a8 a9 a10 a11 Z0 Z1 Z2 Z3 r0 e0 r1 e1 r2 e2 r3 e3 : Int) (g : Nat) (w : World) (n0 : (e0 != 0) = true)
    (H0 : Hid (∀ w', Ext w w' → Calls Tryz.prog 181 #[.agg #[.int .u64 a0, .int .u64 a1, .int .u64 a2], .pointer (some ⟨g, 0, none⟩)] w' fun e w'' => (∃ r, e = .returned r ∧ IsW r Z0) ∧ Ext w' w''))
    (W0 : Hid (∀ t w', IsW t Z0 → Calls Tryz.prog 96 #[t] w' fun e w'' => e = .returned (.tuple #[.int .i64 r0, .int .i64 e0]) ∧ Ext w' w''))
    (_H1 : Hid (∀ w', Ext w w' → Calls Tryz.prog 181 #[.agg #[.int .u64 a3, .int .u64 a4, .int .u64 a5], .pointer (some ⟨g, 0, none⟩)] w' fun e w'' => (∃ r, e = .returned r ∧ IsW r Z1) ∧ Ext w' w''))
    (_W1 : Hid (∀ t w', IsW t Z1 → Calls Tryz.prog 96 #[t] w' fun e w'' => e = .returned (.tuple #[.int .i64 r1, .int .i64 e1]) ∧ Ext w' w''))
    (_H2 : Hid (∀ w', Ext w w' → Calls Tryz.prog 181 #[.agg #[.int .u64 a6, .int .u64 a7, .int .u64 a8], .pointer (some ⟨g, 0, none⟩)] w' fun e w'' => (∃ r, e = .returned r ∧ IsW r Z2) ∧ Ext w' w''))
    (_W2 : Hid (∀ t w', IsW t Z2 → Calls Tryz.prog 96 #[t] w' fun e w'' => e = .returned (.tuple #[.int .i64 r2, .int .i64 e2]) ∧ Ext w' w''))
    (_H3 : Hid (∀ w', Ext w w' → Calls Tryz.prog 181 #[.agg #[.int .u64 a9, .int .u64 a10, .int .u64 a11], .pointer (some ⟨g, 0, none⟩)] w' fun e w'' => (∃ r, e = .returned r ∧ IsW r Z3) ∧ Ext w' w''))
    (_W3 : Hid (∀ t w', IsW t Z3 → Calls Tryz.prog 96 #[t] w' fun e w'' => e = .returned (.tuple #[.int .i64 r3, .int .i64 e3]) ∧ Ext w' w'')) :
    Calls Tryz.prog 87 #[.agg #[.int .u64 a0, .int .u64 a1, .int .u64 a2, .int .u64 a3, .int .u64 a4, .int .u64 a5, .int .u64 a6, .int .u64 a7, .int .u64 a8, .int .u64 a9, .int .u64 a10, .int .u64 a11], .func (.func 181) #[] #[.pointer (some ⟨g, 0, none⟩)]] w fun e w' => e = .returned (.tuple #[.agg #[.int .i64 0, .int .i64 0, .int .i64 0, .int .i64 0], .int .i64 e0]) ∧ Ext w w' := by
  have i0 : ∀ w : World, (Instr.index 131 (.agg #[.int .u64 a0, .int .u64 a1, .int .u64 a2, .int .u64 a3, .int .u64 a4, .int .u64 a5, .int .u64 a6, .int .u64 a7, .int .u64 a8, .int .u64 a9, .int .u64 a10, .int .u64 a11]) (.int .i64 0)).run Tryz.prog w = .ok (.agg #[.int .u64 a0, .int .u64 a1, .int .u64 a2]) w := fun _ => by kernel_rfl
  go_enter Tryz.func87, Tryz.ntmps87
  go_wp2_with fail
  refine wp_loop_rounds 5 ?_
  rw [rounds_succ]
  go_wp2_with fail
  refine (H0.out _ (by repeat (first | with_reducible assumption | with_reducible exact Ext.refl _ | with_reducible refine Ext.drew ?_ | with_reducible refine Ext.drewN ?_ _ | with_reducible refine Ext.alloc ?_ _ | with_reducible refine Ext.set ?_ (by first | exact Nat.le_refl _ | (dsimp only; omega) | (simp; done)) _))).mono ?_
  rintro e v0 ⟨⟨t0, rfl, h0⟩, y0⟩
  have MV0 : Hid (H4 v0 (w.heap.size + 1 + 1) (.int .i64 0) (.int .i64 0) (.int .i64 0) (.int .i64 0)) := (H4.alloc (h4_at (by simp)) _).ext y0
  have RV0 : Hid (H4 v0 (w.heap.size + 1) (.int .i64 0) (.int .i64 0) (.int .i64 0) (.int .i64 0)) := (H4.alloc (H4.alloc (h4_at (by simp)) _) _).ext y0
  have XV0 : Ext w v0 := Ext.trans (by repeat (first | with_reducible assumption | with_reducible exact Ext.refl _ | with_reducible refine Ext.drew ?_ | with_reducible refine Ext.drewN ?_ _ | with_reducible refine Ext.alloc ?_ _ | with_reducible refine Ext.set ?_ (by first | exact Nat.le_refl _ | (dsimp only; omega) | (simp; done)) _)) y0
  clear y0
  go_wp2_with fail
  refine (W0.out _ _ h0).mono ?_
  rintro e w1 ⟨rfl, x1⟩
  have MM1 : Hid (H4 w1 (w.heap.size + 1 + 1) (.int .i64 0) (.int .i64 0) (.int .i64 0) (.int .i64 0)) := MV0.out.ext x1
  have RR1 : Hid (H4 w1 (w.heap.size + 1) (.int .i64 0) (.int .i64 0) (.int .i64 0) (.int .i64 0)) := RV0.out.ext x1
  have X1 : Ext w w1 := XV0.trans x1
  clear x1 XV0
  obtain ⟨m0, m1, m2, m3, m4, m5, m6, m7, m8⟩ := MM1.out
  obtain ⟨q0, q1, q2, q3, q4, q5, q6, q7, q8⟩ := RR1.out
  go_wp2_with fail
  exact bodyPost_ret (v := .tuple #[.agg #[.int .i64 0, .int .i64 0, .int .i64 0, .int .i64 0], .int .i64 e0]) (by simp [results, Tryz.results87, go_sem, q0, q1, q2, q3]) rfl ⟨rfl, by repeat (first | with_reducible assumption | with_reducible exact Ext.refl _ | with_reducible refine Ext.drew ?_ | with_reducible refine Ext.drewN ?_ _ | with_reducible refine Ext.alloc ?_ _ | with_reducible refine Ext.set ?_ (by first | exact Nat.le_refl _ | (dsimp only; omega) | (simp; done)) _)⟩

set_option maxRecDepth 20000 in
set_option maxHeartbeats 4000000 in
theorem throughT_1 (a0 a1 a2 a3 a4 a5 a6 a7 a8 a9 a10 a11 Z0 Z1 Z2 Z3 r0 e0 r1 e1 r2 e2 r3 e3 : Int) (g : Nat) (w : World) (k0 : e0 = 0) (n1 : (e1 != 0) = true)
    (H0 : Hid (∀ w', Ext w w' → Calls Tryz.prog 181 #[.agg #[.int .u64 a0, .int .u64 a1, .int .u64 a2], .pointer (some ⟨g, 0, none⟩)] w' fun e w'' => (∃ r, e = .returned r ∧ IsW r Z0) ∧ Ext w' w''))
    (W0 : Hid (∀ t w', IsW t Z0 → Calls Tryz.prog 96 #[t] w' fun e w'' => e = .returned (.tuple #[.int .i64 r0, .int .i64 e0]) ∧ Ext w' w''))
    (H1 : Hid (∀ w', Ext w w' → Calls Tryz.prog 181 #[.agg #[.int .u64 a3, .int .u64 a4, .int .u64 a5], .pointer (some ⟨g, 0, none⟩)] w' fun e w'' => (∃ r, e = .returned r ∧ IsW r Z1) ∧ Ext w' w''))
    (W1 : Hid (∀ t w', IsW t Z1 → Calls Tryz.prog 96 #[t] w' fun e w'' => e = .returned (.tuple #[.int .i64 r1, .int .i64 e1]) ∧ Ext w' w''))
    (_H2 : Hid (∀ w', Ext w w' → Calls Tryz.prog 181 #[.agg #[.int .u64 a6, .int .u64 a7, .int .u64 a8], .pointer (some ⟨g, 0, none⟩)] w' fun e w'' => (∃ r, e = .returned r ∧ IsW r Z2) ∧ Ext w' w''))
    (_W2 : Hid (∀ t w', IsW t Z2 → Calls Tryz.prog 96 #[t] w' fun e w'' => e = .returned (.tuple #[.int .i64 r2, .int .i64 e2]) ∧ Ext w' w''))
    (_H3 : Hid (∀ w', Ext w w' → Calls Tryz.prog 181 #[.agg #[.int .u64 a9, .int .u64 a10, .int .u64 a11], .pointer (some ⟨g, 0, none⟩)] w' fun e w'' => (∃ r, e = .returned r ∧ IsW r Z3) ∧ Ext w' w''))
    (_W3 : Hid (∀ t w', IsW t Z3 → Calls Tryz.prog 96 #[t] w' fun e w'' => e = .returned (.tuple #[.int .i64 r3, .int .i64 e3]) ∧ Ext w' w'')) :
    Calls Tryz.prog 87 #[.agg #[.int .u64 a0, .int .u64 a1, .int .u64 a2, .int .u64 a3, .int .u64 a4, .int .u64 a5, .int .u64 a6, .int .u64 a7, .int .u64 a8, .int .u64 a9, .int .u64 a10, .int .u64 a11], .func (.func 181) #[] #[.pointer (some ⟨g, 0, none⟩)]] w fun e w' => e = .returned (.tuple #[.agg #[.int .i64 0, .int .i64 0, .int .i64 0, .int .i64 0], .int .i64 e1]) ∧ Ext w w' := by
  have i0 : ∀ w : World, (Instr.index 131 (.agg #[.int .u64 a0, .int .u64 a1, .int .u64 a2, .int .u64 a3, .int .u64 a4, .int .u64 a5, .int .u64 a6, .int .u64 a7, .int .u64 a8, .int .u64 a9, .int .u64 a10, .int .u64 a11]) (.int .i64 0)).run Tryz.prog w = .ok (.agg #[.int .u64 a0, .int .u64 a1, .int .u64 a2]) w := fun _ => by kernel_rfl
  have i1 : ∀ w : World, (Instr.index 131 (.agg #[.int .u64 a0, .int .u64 a1, .int .u64 a2, .int .u64 a3, .int .u64 a4, .int .u64 a5, .int .u64 a6, .int .u64 a7, .int .u64 a8, .int .u64 a9, .int .u64 a10, .int .u64 a11]) (.int .i64 1)).run Tryz.prog w = .ok (.agg #[.int .u64 a3, .int .u64 a4, .int .u64 a5]) w := fun _ => by kernel_rfl
  subst k0
  go_enter Tryz.func87, Tryz.ntmps87
  go_wp2_with fail
  refine wp_loop_rounds 5 ?_
  rw [rounds_succ]
  go_wp2_with fail
  refine (H0.out _ (by repeat (first | with_reducible assumption | with_reducible exact Ext.refl _ | with_reducible refine Ext.drew ?_ | with_reducible refine Ext.drewN ?_ _ | with_reducible refine Ext.alloc ?_ _ | with_reducible refine Ext.set ?_ (by first | exact Nat.le_refl _ | (dsimp only; omega) | (simp; done)) _))).mono ?_
  rintro e v0 ⟨⟨t0, rfl, h0⟩, y0⟩
  have MV0 : Hid (H4 v0 (w.heap.size + 1 + 1) (.int .i64 0) (.int .i64 0) (.int .i64 0) (.int .i64 0)) := (H4.alloc (h4_at (by simp)) _).ext y0
  have RV0 : Hid (H4 v0 (w.heap.size + 1) (.int .i64 0) (.int .i64 0) (.int .i64 0) (.int .i64 0)) := (H4.alloc (H4.alloc (h4_at (by simp)) _) _).ext y0
  have XV0 : Ext w v0 := Ext.trans (by repeat (first | with_reducible assumption | with_reducible exact Ext.refl _ | with_reducible refine Ext.drew ?_ | with_reducible refine Ext.drewN ?_ _ | with_reducible refine Ext.alloc ?_ _ | with_reducible refine Ext.set ?_ (by first | exact Nat.le_refl _ | (dsimp only; omega) | (simp; done)) _)) y0
  clear y0
  go_wp2_with fail
  refine (W0.out _ _ h0).mono ?_
  rintro e w1 ⟨rfl, x1⟩
  have MM1 : Hid (H4 w1 (w.heap.size + 1 + 1) (.int .i64 0) (.int .i64 0) (.int .i64 0) (.int .i64 0)) := MV0.out.ext x1
  have RR1 : Hid (H4 w1 (w.heap.size + 1) (.int .i64 0) (.int .i64 0) (.int .i64 0) (.int .i64 0)) := RV0.out.ext x1
  have X1 : Ext w w1 := XV0.trans x1
  clear x1 XV0
  obtain ⟨m0, m1, m2, m3, m4, m5, m6, m7, m8⟩ := MM1.out
  obtain ⟨q0, q1, q2, q3, q4, q5, q6, q7, q8⟩ := RR1.out
  go_wp2_with fail
  rw [rounds_succ]
  go_wp2_with fail
  refine (H1.out _ (by repeat (first | with_reducible assumption | with_reducible exact Ext.refl _ | with_reducible refine Ext.drew ?_ | with_reducible refine Ext.drewN ?_ _ | with_reducible refine Ext.alloc ?_ _ | with_reducible refine Ext.set ?_ (by first | exact Nat.le_refl _ | (dsimp only; omega) | (simp; done)) _))).mono ?_
  rintro e v1 ⟨⟨t1, rfl, h1⟩, y1⟩
  have MV1 : Hid (H4 v1 (w.heap.size + 1 + 1) (.int .i64 r0) (.int .i64 0) (.int .i64 0) (.int .i64 0)) := (H4.alloc (H4.set0 MM1.out _) _).ext y1
  have RV1 : Hid (H4 v1 (w.heap.size + 1) (.int .i64 0) (.int .i64 0) (.int .i64 0) (.int .i64 0)) := (H4.alloc (H4.far RR1.out (by omega)) _).ext y1
  have XV1 : Ext w v1 := Ext.trans (by repeat (first | with_reducible assumption | with_reducible exact Ext.refl _ | with_reducible refine Ext.drew ?_ | with_reducible refine Ext.drewN ?_ _ | with_reducible refine Ext.alloc ?_ _ | with_reducible refine Ext.set ?_ (by first | exact Nat.le_refl _ | (dsimp only; omega) | (simp; done)) _)) y1
  clear y1
  clear m0 m1 m2 m3 m4 m5 m6 m7 m8 q0 q1 q2 q3 q4 q5 q6 q7 q8 X1
  go_wp2_with fail
  refine (W1.out _ _ h1).mono ?_
  rintro e w2 ⟨rfl, x2⟩
  have MM2 : Hid (H4 w2 (w.heap.size + 1 + 1) (.int .i64 r0) (.int .i64 0) (.int .i64 0) (.int .i64 0)) := MV1.out.ext x2
  have RR2 : Hid (H4 w2 (w.heap.size + 1) (.int .i64 0) (.int .i64 0) (.int .i64 0) (.int .i64 0)) := RV1.out.ext x2
  have X2 : Ext w w2 := XV1.trans x2
  clear x2 XV1
  obtain ⟨m0, m1, m2, m3, m4, m5, m6, m7, m8⟩ := MM2.out
  obtain ⟨q0, q1, q2, q3, q4, q5, q6, q7, q8⟩ := RR2.out
  go_wp2_with fail
  exact bodyPost_ret (v := .tuple #[.agg #[.int .i64 0, .int .i64 0, .int .i64 0, .int .i64 0], .int .i64 e1]) (by simp [results, Tryz.results87, go_sem, q0, q1, q2, q3]) rfl ⟨rfl, by repeat (first | with_reducible assumption | with_reducible exact Ext.refl _ | with_reducible refine Ext.drew ?_ | with_reducible refine Ext.drewN ?_ _ | with_reducible refine Ext.alloc ?_ _ | with_reducible refine Ext.set ?_ (by first | exact Nat.le_refl _ | (dsimp only; omega) | (simp; done)) _)⟩

set_option maxRecDepth 20000 in
set_option maxHeartbeats 4000000 in
theorem throughT_2 (a0 a1 a2 a3 a4 a5 a6 a7 a8 a9 a10 a11 Z0 Z1 Z2 Z3 r0 e0 r1 e1 r2 e2 r3 e3 : Int) (g : Nat) (w : World) (k0 : e0 = 0) (k1 : e1 = 0) (n2 : (e2 != 0) = true)
    (H0 : Hid (∀ w', Ext w w' → Calls Tryz.prog 181 #[.agg #[.int .u64 a0, .int .u64 a1, .int .u64 a2], .pointer (some ⟨g, 0, none⟩)] w' fun e w'' => (∃ r, e = .returned r ∧ IsW r Z0) ∧ Ext w' w''))
    (W0 : Hid (∀ t w', IsW t Z0 → Calls Tryz.prog 96 #[t] w' fun e w'' => e = .returned (.tuple #[.int .i64 r0, .int .i64 e0]) ∧ Ext w' w''))
    (H1 : Hid (∀ w', Ext w w' → Calls Tryz.prog 181 #[.agg #[.int .u64 a3, .int .u64 a4, .int .u64 a5], .pointer (some ⟨g, 0, none⟩)] w' fun e w'' => (∃ r, e = .returned r ∧ IsW r Z1) ∧ Ext w' w''))
    (W1 : Hid (∀ t w', IsW t Z1 → Calls Tryz.prog 96 #[t] w' fun e w'' => e = .returned (.tuple #[.int .i64 r1, .int .i64 e1]) ∧ Ext w' w''))
    (H2 : Hid (∀ w', Ext w w' → Calls Tryz.prog 181 #[.agg #[.int .u64 a6, .int .u64 a7, .int .u64 a8], .pointer (some ⟨g, 0, none⟩)] w' fun e w'' => (∃ r, e = .returned r ∧ IsW r Z2) ∧ Ext w' w''))
    (W2 : Hid (∀ t w', IsW t Z2 → Calls Tryz.prog 96 #[t] w' fun e w'' => e = .returned (.tuple #[.int .i64 r2, .int .i64 e2]) ∧ Ext w' w''))
    (_H3 : Hid (∀ w', Ext w w' → Calls Tryz.prog 181 #[.agg #[.int .u64 a9, .int .u64 a10, .int .u64 a11], .pointer (some ⟨g, 0, none⟩)] w' fun e w'' => (∃ r, e = .returned r ∧ IsW r Z3) ∧ Ext w' w''))
    (_W3 : Hid (∀ t w', IsW t Z3 → Calls Tryz.prog 96 #[t] w' fun e w'' => e = .returned (.tuple #[.int .i64 r3, .int .i64 e3]) ∧ Ext w' w'')) :
    Calls Tryz.prog 87 #[.agg #[.int .u64 a0, .int .u64 a1, .int .u64 a2, .int .u64 a3, .int .u64 a4, .int .u64 a5, .int .u64 a6, .int .u64 a7, .int .u64 a8, .int .u64 a9, .int .u64 a10, .int .u64 a11], .func (.func 181) #[] #[.pointer (some ⟨g, 0, none⟩)]] w fun e w' => e = .returned (.tuple #[.agg #[.int .i64 0, .int .i64 0, .int .i64 0, .int .i64 0], .int .i64 e2]) ∧ Ext w w' := by
  have i0 : ∀ w : World, (Instr.index 131 (.agg #[.int .u64 a0, .int .u64 a1, .int .u64 a2, .int .u64 a3, .int .u64 a4, .int .u64 a5, .int .u64 a6, .int .u64 a7, .int .u64 a8, .int .u64 a9, .int .u64 a10, .int .u64 a11]) (.int .i64 0)).run Tryz.prog w = .ok (.agg #[.int .u64 a0, .int .u64 a1, .int .u64 a2]) w := fun _ => by kernel_rfl
  have i1 : ∀ w : World, (Instr.index 131 (.agg #[.int .u64 a0, .int .u64 a1, .int .u64 a2, .int .u64 a3, .int .u64 a4, .int .u64 a5, .int .u64 a6, .int .u64 a7, .int .u64 a8, .int .u64 a9, .int .u64 a10, .int .u64 a11]) (.int .i64 1)).run Tryz.prog w = .ok (.agg #[.int .u64 a3, .int .u64 a4, .int .u64 a5]) w := fun _ => by kernel_rfl
  have i2 : ∀ w : World, (Instr.index 131 (.agg #[.int .u64 a0, .int .u64 a1, .int .u64 a2, .int .u64 a3, .int .u64 a4, .int .u64 a5, .int .u64 a6, .int .u64 a7, .int .u64 a8, .int .u64 a9, .int .u64 a10, .int .u64 a11]) (.int .i64 2)).run Tryz.prog w = .ok (.agg #[.int .u64 a6, .int .u64 a7, .int .u64 a8]) w := fun _ => by kernel_rfl
  subst k0
  subst k1
  go_enter Tryz.func87, Tryz.ntmps87
  go_wp2_with fail
  refine wp_loop_rounds 5 ?_
  rw [rounds_succ]
  go_wp2_with fail
  refine (H0.out _ (by repeat (first | with_reducible assumption | with_reducible exact Ext.refl _ | with_reducible refine Ext.drew ?_ | with_reducible refine Ext.drewN ?_ _ | with_reducible refine Ext.alloc ?_ _ | with_reducible refine Ext.set ?_ (by first | exact Nat.le_refl _ | (dsimp only; omega) | (simp; done)) _))).mono ?_
  rintro e v0 ⟨⟨t0, rfl, h0⟩, y0⟩
  have MV0 : Hid (H4 v0 (w.heap.size + 1 + 1) (.int .i64 0) (.int .i64 0) (.int .i64 0) (.int .i64 0)) := (H4.alloc (h4_at (by simp)) _).ext y0
  have RV0 : Hid (H4 v0 (w.heap.size + 1) (.int .i64 0) (.int .i64 0) (.int .i64 0) (.int .i64 0)) := (H4.alloc (H4.alloc (h4_at (by simp)) _) _).ext y0
  have XV0 : Ext w v0 := Ext.trans (by repeat (first | with_reducible assumption | with_reducible exact Ext.refl _ | with_reducible refine Ext.drew ?_ | with_reducible refine Ext.drewN ?_ _ | with_reducible refine Ext.alloc ?_ _ | with_reducible refine Ext.set ?_ (by first | exact Nat.le_refl _ | (dsimp only; omega) | (simp; done)) _)) y0
  clear y0
  go_wp2_with fail
  refine (W0.out _ _ h0).mono ?_
  rintro e w1 ⟨rfl, x1⟩
  have MM1 : Hid (H4 w1 (w.heap.size + 1 + 1) (.int .i64 0) (.int .i64 0) (.int .i64 0) (.int .i64 0)) := MV0.out.ext x1
  have RR1 : Hid (H4 w1 (w.heap.size + 1) (.int .i64 0) (.int .i64 0) (.int .i64 0) (.int .i64 0)) := RV0.out.ext x1
  have X1 : Ext w w1 := XV0.trans x1
  clear x1 XV0
  obtain ⟨m0, m1, m2, m3, m4, m5, m6, m7, m8⟩ := MM1.out
  obtain ⟨q0, q1, q2, q3, q4, q5, q6, q7, q8⟩ := RR1.out
  go_wp2_with fail
  rw [rounds_succ]
  go_wp2_with fail
  refine (H1.out _ (by repeat (first | with_reducible assumption | with_reducible exact Ext.refl _ | with_reducible refine Ext.drew ?_ | with_reducible refine Ext.drewN ?_ _ | with_reducible refine Ext.alloc ?_ _ | with_reducible refine Ext.set ?_ (by first | exact Nat.le_refl _ | (dsimp only; omega) | (simp; done)) _))).mono ?_
  rintro e v1 ⟨⟨t1, rfl, h1⟩, y1⟩
  have MV1 : Hid (H4 v1 (w.heap.size + 1 + 1) (.int .i64 r0) (.int .i64 0) (.int .i64 0) (.int .i64 0)) := (H4.alloc (H4.set0 MM1.out _) _).ext y1
  have RV1 : Hid (H4 v1 (w.heap.size + 1) (.int .i64 0) (.int .i64 0) (.int .i64 0) (.int .i64 0)) := (H4.alloc (H4.far RR1.out (by omega)) _).ext y1
  have XV1 : Ext w v1 := Ext.trans (by repeat (first | with_reducible assumption | with_reducible exact Ext.refl _ | with_reducible refine Ext.drew ?_ | with_reducible refine Ext.drewN ?_ _ | with_reducible refine Ext.alloc ?_ _ | with_reducible refine Ext.set ?_ (by first | exact Nat.le_refl _ | (dsimp only; omega) | (simp; done)) _)) y1
  clear y1
  clear m0 m1 m2 m3 m4 m5 m6 m7 m8 q0 q1 q2 q3 q4 q5 q6 q7 q8 X1
  go_wp2_with fail
  refine (W1.out _ _ h1).mono ?_
  rintro e w2 ⟨rfl, x2⟩
  have MM2 : Hid (H4 w2 (w.heap.size + 1 + 1) (.int .i64 r0) (.int .i64 0) (.int .i64 0) (.int .i64 0)) := MV1.out.ext x2
  have RR2 : Hid (H4 w2 (w.heap.size + 1) (.int .i64 0) (.int .i64 0) (.int .i64 0) (.int .i64 0)) := RV1.out.ext x2
  have X2 : Ext w w2 := XV1.trans x2
  clear x2 XV1
  obtain ⟨m0, m1, m2, m3, m4, m5, m6, m7, m8⟩ := MM2.out
  obtain ⟨q0, q1, q2, q3, q4, q5, q6, q7, q8⟩ := RR2.out
  go_wp2_with fail
  rw [rounds_succ]
  go_wp2_with fail
  refine (H2.out _ (by repeat (first | with_reducible assumption | with_reducible exact Ext.refl _ | with_reducible refine Ext.drew ?_ | with_reducible refine Ext.drewN ?_ _ | with_reducible refine Ext.alloc ?_ _ | with_reducible refine Ext.set ?_ (by first | exact Nat.le_refl _ | (dsimp only; omega) | (simp; done)) _))).mono ?_
  rintro e v2 ⟨⟨t2, rfl, h2⟩, y2⟩
  have MV2 : Hid (H4 v2 (w.heap.size + 1 + 1) (.int .i64 r0) (.int .i64 r1) (.int .i64 0) (.int .i64 0)) := (H4.alloc (H4.set1 MM2.out _) _).ext y2
  have RV2 : Hid (H4 v2 (w.heap.size + 1) (.int .i64 0) (.int .i64 0) (.int .i64 0) (.int .i64 0)) := (H4.alloc (H4.far RR2.out (by omega)) _).ext y2
  have XV2 : Ext w v2 := Ext.trans (by repeat (first | with_reducible assumption | with_reducible exact Ext.refl _ | with_reducible refine Ext.drew ?_ | with_reducible refine Ext.drewN ?_ _ | with_reducible refine Ext.alloc ?_ _ | with_reducible refine Ext.set ?_ (by first | exact Nat.le_refl _ | (dsimp only; omega) | (simp; done)) _)) y2
  clear y2
  clear m0 m1 m2 m3 m4 m5 m6 m7 m8 q0 q1 q2 q3 q4 q5 q6 q7 q8 X2
  go_wp2_with fail
  refine (W2.out _ _ h2).mono ?_
  rintro e w3 ⟨rfl, x3⟩
  have MM3 : Hid (H4 w3 (w.heap.size + 1 + 1) (.int .i64 r0) (.int .i64 r1) (.int .i64 0) (.int .i64 0)) := MV2.out.ext x3
  have RR3 : Hid (H4 w3 (w.heap.size + 1) (.int .i64 0) (.int .i64 0) (.int .i64 0) (.int .i64 0)) := RV2.out.ext x3
  have X3 : Ext w w3 := XV2.trans x3
  clear x3 XV2
  obtain ⟨m0, m1, m2, m3, m4, m5, m6, m7, m8⟩ := MM3.out
  obtain ⟨q0, q1, q2, q3, q4, q5, q6, q7, q8⟩ := RR3.out
  go_wp2_with fail
  exact bodyPost_ret (v := .tuple #[.agg #[.int .i64 0, .int .i64 0, .int .i64 0, .int .i64 0], .int .i64 e2]) (by simp [results, Tryz.results87, go_sem, q0, q1, q2, q3]) rfl ⟨rfl, by repeat (first | with_reducible assumption | with_reducible exact Ext.refl _ | with_reducible refine Ext.drew ?_ | with_reducible refine Ext.drewN ?_ _ | with_reducible refine Ext.alloc ?_ _ | with_reducible refine Ext.set ?_ (by first | exact Nat.le_refl _ | (dsimp only; omega) | (simp; done)) _)⟩

set_option maxRecDepth 20000 in
set_option maxHeartbeats 4000000 in
theorem throughT_3 (a0 a1 a2 a3 a4 a5 a6 a7 a8 a9 a10 a11 Z0 Z1 Z2 Z3 r0 e0 r1 e1 r2 e2 r3 e3 : Int) (g : Nat) (w : World) (k0 : e0 = 0) (k1 : e1 = 0) (k2 : e2 = 0) (n3 : (e3 != 0) = true)
    (H0 : Hid (∀ w', Ext w w' → Calls Tryz.prog 181 #[.agg #[.int .u64 a0, .int .u64 a1, .int .u64 a2], .pointer (some ⟨g, 0, none⟩)] w' fun e w'' => (∃ r, e = .returned r ∧ IsW r Z0) ∧ Ext w' w''))
    (W0 : Hid (∀ t w', IsW t Z0 → Calls Tryz.prog 96 #[t] w' fun e w'' => e = .returned (.tuple #[.int .i64 r0, .int .i64 e0]) ∧ Ext w' w''))
    (H1 : Hid (∀ w', Ext w w' → Calls Tryz.prog 181 #[.agg #[.int .u64 a3, .int .u64 a4, .int .u64 a5], .pointer (some ⟨g, 0, none⟩)] w' fun e w'' => (∃ r, e = .returned r ∧ IsW r Z1) ∧ Ext w' w''))
    (W1 : Hid (∀ t w', IsW t Z1 → Calls Tryz.prog 96 #[t] w' fun e w'' => e = .returned (.tuple #[.int .i64 r1, .int .i64 e1]) ∧ Ext w' w''))
    (H2 : Hid (∀ w', Ext w w' → Calls Tryz.prog 181 #[.agg #[.int .u64 a6, .int .u64 a7, .int .u64 a8], .pointer (some ⟨g, 0, none⟩)] w' fun e w'' => (∃ r, e = .returned r ∧ IsW r Z2) ∧ Ext w' w''))
    (W2 : Hid (∀ t w', IsW t Z2 → Calls Tryz.prog 96 #[t] w' fun e w'' => e = .returned (.tuple #[.int .i64 r2, .int .i64 e2]) ∧ Ext w' w''))
    (H3 : Hid (∀ w', Ext w w' → Calls Tryz.prog 181 #[.agg #[.int .u64 a9, .int .u64 a10, .int .u64 a11], .pointer (some ⟨g, 0, none⟩)] w' fun e w'' => (∃ r, e = .returned r ∧ IsW r Z3) ∧ Ext w' w''))
    (W3 : Hid (∀ t w', IsW t Z3 → Calls Tryz.prog 96 #[t] w' fun e w'' => e = .returned (.tuple #[.int .i64 r3, .int .i64 e3]) ∧ Ext w' w'')) :
    Calls Tryz.prog 87 #[.agg #[.int .u64 a0, .int .u64 a1, .int .u64 a2, .int .u64 a3, .int .u64 a4, .int .u64 a5, .int .u64 a6, .int .u64 a7, .int .u64 a8, .int .u64 a9, .int .u64 a10, .int .u64 a11], .func (.func 181) #[] #[.pointer (some ⟨g, 0, none⟩)]] w fun e w' => e = .returned (.tuple #[.agg #[.int .i64 0, .int .i64 0, .int .i64 0, .int .i64 0], .int .i64 e3]) ∧ Ext w w' := by
  have i0 : ∀ w : World, (Instr.index 131 (.agg #[.int .u64 a0, .int .u64 a1, .int .u64 a2, .int .u64 a3, .int .u64 a4, .int .u64 a5, .int .u64 a6, .int .u64 a7, .int .u64 a8, .int .u64 a9, .int .u64 a10, .int .u64 a11]) (.int .i64 0)).run Tryz.prog w = .ok (.agg #[.int .u64 a0, .int .u64 a1, .int .u64 a2]) w := fun _ => by kernel_rfl
  have i1 : ∀ w : World, (Instr.index 131 (.agg #[.int .u64 a0, .int .u64 a1, .int .u64 a2, .int .u64 a3, .int .u64 a4, .int .u64 a5, .int .u64 a6, .int .u64 a7, .int .u64 a8, .int .u64 a9, .int .u64 a10, .int .u64 a11]) (.int .i64 1)).run Tryz.prog w = .ok (.agg #[.int .u64 a3, .int .u64 a4, .int .u64 a5]) w := fun _ => by kernel_rfl
  have i2 : ∀ w : World, (Instr.index 131 (.agg #[.int .u64 a0, .int .u64 a1, .int .u64 a2, .int .u64 a3, .int .u64 a4, .int .u64 a5, .int .u64 a6, .int .u64 a7, .int .u64 a8, .int .u64 a9, .int .u64 a10, .int .u64 a11]) (.int .i64 2)).run Tryz.prog w = .ok (.agg #[.int .u64 a6, .int .u64 a7, .int .u64 a8]) w := fun _ => by kernel_rfl
  have i3 : ∀ w : World, (Instr.index 131 (.agg #[.int .u64 a0, .int .u64 a1, .int .u64 a2, .int .u64 a3, .int .u64 a4, .int .u64 a5, .int .u64 a6, .int .u64 a7, .int .u64 a8, .int .u64 a9, .int .u64 a10, .int .u64 a11]) (.int .i64 3)).run Tryz.prog w = .ok (.agg #[.int .u64 a9, .int .u64 a10, .int .u64 a11]) w := fun _ => by kernel_rfl
  subst k0
  subst k1
  subst k2
  go_enter Tryz.func87, Tryz.ntmps87
  go_wp2_with fail
  refine wp_loop_rounds 5 ?_
  rw [rounds_succ]
  go_wp2_with fail
  refine (H0.out _ (by repeat (first | with_reducible assumption | with_reducible exact Ext.refl _ | with_reducible refine Ext.drew ?_ | with_reducible refine Ext.drewN ?_ _ | with_reducible refine Ext.alloc ?_ _ | with_reducible refine Ext.set ?_ (by first | exact Nat.le_refl _ | (dsimp only; omega) | (simp; done)) _))).mono ?_
  rintro e v0 ⟨⟨t0, rfl, h0⟩, y0⟩
  have MV0 : Hid (H4 v0 (w.heap.size + 1 + 1) (.int .i64 0) (.int .i64 0) (.int .i64 0) (.int .i64 0)) := (H4.alloc (h4_at (by simp)) _).ext y0
  have RV0 : Hid (H4 v0 (w.heap.size + 1) (.int .i64 0) (.int .i64 0) (.int .i64 0) (.int .i64 0)) := (H4.alloc (H4.alloc (h4_at (by simp)) _) _).ext y0
  have XV0 : Ext w v0 := Ext.trans (by repeat (first | with_reducible assumption | with_reducible exact Ext.refl _ | with_reducible refine Ext.drew ?_ | with_reducible refine Ext.drewN ?_ _ | with_reducible refine Ext.alloc ?_ _ | with_reducible refine Ext.set ?_ (by first | exact Nat.le_refl _ | (dsimp only; omega) | (simp; done)) _)) y0
  clear y0
  go_wp2_with fail
  refine (W0.out _ _ h0).mono ?_
  rintro e w1 ⟨rfl, x1⟩
  have MM1 : Hid (H4 w1 (w.heap.size + 1 + 1) (.int .i64 0) (.int .i64 0) (.int .i64 0) (.int .i64 0)) := MV0.out.ext x1
  have RR1 : Hid (H4 w1 (w.heap.size + 1) (.int .i64 0) (.int .i64 0) (.int .i64 0) (.int .i64 0)) := RV0.out.ext x1
  have X1 : Ext w w1 := XV0.trans x1
  clear x1 XV0
  obtain ⟨m0, m1, m2, m3, m4, m5, m6, m7, m8⟩ := MM1.out
  obtain ⟨q0, q1, q2, q3, q4, q5, q6, q7, q8⟩ := RR1.out
  go_wp2_with fail
  rw [rounds_succ]
  go_wp2_with fail
  refine (H1.out _ (by repeat (first | with_reducible assumption | with_reducible exact Ext.refl _ | with_reducible refine Ext.drew ?_ | with_reducible refine Ext.drewN ?_ _ | with_reducible refine Ext.alloc ?_ _ | with_reducible refine Ext.set ?_ (by first | exact Nat.le_refl _ | (dsimp only; omega) | (simp; done)) _))).mono ?_
  rintro e v1 ⟨⟨t1, rfl, h1⟩, y1⟩
  have MV1 : Hid (H4 v1 (w.heap.size + 1 + 1) (.int .i64 r0) (.int .i64 0) (.int .i64 0) (.int .i64 0)) := (H4.alloc (H4.set0 MM1.out _) _).ext y1
  have RV1 : Hid (H4 v1 (w.heap.size + 1) (.int .i64 0) (.int .i64 0) (.int .i64 0) (.int .i64 0)) := (H4.alloc (H4.far RR1.out (by omega)) _).ext y1
  have XV1 : Ext w v1 := Ext.trans (by repeat (first | with_reducible assumption | with_reducible exact Ext.refl _ | with_reducible refine Ext.drew ?_ | with_reducible refine Ext.drewN ?_ _ | with_reducible refine Ext.alloc ?_ _ | with_reducible refine Ext.set ?_ (by first | exact Nat.le_refl _ | (dsimp only; omega) | (simp; done)) _)) y1
  clear y1
  clear m0 m1 m2 m3 m4 m5 m6 m7 m8 q0 q1 q2 q3 q4 q5 q6 q7 q8 X1
  go_wp2_with fail
  refine (W1.out _ _ h1).mono ?_
  rintro e w2 ⟨rfl, x2⟩
  have MM2 : Hid (H4 w2 (w.heap.size + 1 + 1) (.int .i64 r0) (.int .i64 0) (.int .i64 0) (.int .i64 0)) := MV1.out.ext x2
  have RR2 : Hid (H4 w2 (w.heap.size + 1) (.int .i64 0) (.int .i64 0) (.int .i64 0) (.int .i64 0)) := RV1.out.ext x2
  have X2 : Ext w w2 := XV1.trans x2
  clear x2 XV1
  obtain ⟨m0, m1, m2, m3, m4, m5, m6, m7, m8⟩ := MM2.out
  obtain ⟨q0, q1, q2, q3, q4, q5, q6, q7, q8⟩ := RR2.out
  go_wp2_with fail
  rw [rounds_succ]
  go_wp2_with fail
  refine (H2.out _ (by repeat (first | with_reducible assumption | with_reducible exact Ext.refl _ | with_reducible refine Ext.drew ?_ | with_reducible refine Ext.drewN ?_ _ | with_reducible refine Ext.alloc ?_ _ | with_reducible refine Ext.set ?_ (by first | exact Nat.le_refl _ | (dsimp only; omega) | (simp; done)) _))).mono ?_
  rintro e v2 ⟨⟨t2, rfl, h2⟩, y2⟩
  have MV2 : Hid (H4 v2 (w.heap.size + 1 + 1) (.int .i64 r0) (.int .i64 r1) (.int .i64 0) (.int .i64 0)) := (H4.alloc (H4.set1 MM2.out _) _).ext y2
  have RV2 : Hid (H4 v2 (w.heap.size + 1) (.int .i64 0) (.int .i64 0) (.int .i64 0) (.int .i64 0)) := (H4.alloc (H4.far RR2.out (by omega)) _).ext y2
  have XV2 : Ext w v2 := Ext.trans (by repeat (first | with_reducible assumption | with_reducible exact Ext.refl _ | with_reducible refine Ext.drew ?_ | with_reducible refine Ext.drewN ?_ _ | with_reducible refine Ext.alloc ?_ _ | with_reducible refine Ext.set ?_ (by first | exact Nat.le_refl _ | (dsimp only; omega) | (simp; done)) _)) y2
  clear y2
  clear m0 m1 m2 m3 m4 m5 m6 m7 m8 q0 q1 q2 q3 q4 q5 q6 q7 q8 X2
  go_wp2_with fail
  refine (W2.out _ _ h2).mono ?_
  rintro e w3 ⟨rfl, x3⟩
  have MM3 : Hid (H4 w3 (w.heap.size + 1 + 1) (.int .i64 r0) (.int .i64 r1) (.int .i64 0) (.int .i64 0)) := MV2.out.ext x3
  have RR3 : Hid (H4 w3 (w.heap.size + 1) (.int .i64 0) (.int .i64 0) (.int .i64 0) (.int .i64 0)) := RV2.out.ext x3
  have X3 : Ext w w3 := XV2.trans x3
  clear x3 XV2
  obtain ⟨m0, m1, m2, m3, m4, m5, m6, m7, m8⟩ := MM3.out
  obtain ⟨q0, q1, q2, q3, q4, q5, q6, q7, q8⟩ := RR3.out
  go_wp2_with fail
  rw [rounds_succ]
  go_wp2_with fail
  refine (H3.out _ (by repeat (first | with_reducible assumption | with_reducible exact Ext.refl _ | with_reducible refine Ext.drew ?_ | with_reducible refine Ext.drewN ?_ _ | with_reducible refine Ext.alloc ?_ _ | with_reducible refine Ext.set ?_ (by first | exact Nat.le_refl _ | (dsimp only; omega) | (simp; done)) _))).mono ?_
  rintro e v3 ⟨⟨t3, rfl, h3⟩, y3⟩
  have MV3 : Hid (H4 v3 (w.heap.size + 1 + 1) (.int .i64 r0) (.int .i64 r1) (.int .i64 r2) (.int .i64 0)) := (H4.alloc (H4.set2 MM3.out _) _).ext y3
  have RV3 : Hid (H4 v3 (w.heap.size + 1) (.int .i64 0) (.int .i64 0) (.int .i64 0) (.int .i64 0)) := (H4.alloc (H4.far RR3.out (by omega)) _).ext y3
  have XV3 : Ext w v3 := Ext.trans (by repeat (first | with_reducible assumption | with_reducible exact Ext.refl _ | with_reducible refine Ext.drew ?_ | with_reducible refine Ext.drewN ?_ _ | with_reducible refine Ext.alloc ?_ _ | with_reducible refine Ext.set ?_ (by first | exact Nat.le_refl _ | (dsimp only; omega) | (simp; done)) _)) y3
  clear y3
  clear m0 m1 m2 m3 m4 m5 m6 m7 m8 q0 q1 q2 q3 q4 q5 q6 q7 q8 X3
  go_wp2_with fail
  refine (W3.out _ _ h3).mono ?_
  rintro e w4 ⟨rfl, x4⟩
  have MM4 : Hid (H4 w4 (w.heap.size + 1 + 1) (.int .i64 r0) (.int .i64 r1) (.int .i64 r2) (.int .i64 0)) := MV3.out.ext x4
  have RR4 : Hid (H4 w4 (w.heap.size + 1) (.int .i64 0) (.int .i64 0) (.int .i64 0) (.int .i64 0)) := RV3.out.ext x4
  have X4 : Ext w w4 := XV3.trans x4
  clear x4 XV3
  obtain ⟨m0, m1, m2, m3, m4, m5, m6, m7, m8⟩ := MM4.out
  obtain ⟨q0, q1, q2, q3, q4, q5, q6, q7, q8⟩ := RR4.out
  go_wp2_with fail
  exact bodyPost_ret (v := .tuple #[.agg #[.int .i64 0, .int .i64 0, .int .i64 0, .int .i64 0], .int .i64 e3]) (by simp [results, Tryz.results87, go_sem, q0, q1, q2, q3]) rfl ⟨rfl, by repeat (first | with_reducible assumption | with_reducible exact Ext.refl _ | with_reducible refine Ext.drew ?_ | with_reducible refine Ext.drewN ?_ _ | with_reducible refine Ext.alloc ?_ _ | with_reducible refine Ext.set ?_ (by first | exact Nat.le_refl _ | (dsimp only; omega) | (simp; done)) _)⟩

set_option maxRecDepth 20000 in
set_option maxHeartbeats 4000000 in
theorem throughT_4 (a0 a1 a2 a3 a4 a5 a6 a7 a8 a9 a10 a11 Z0 Z1 Z2 Z3 r0 e0 r1 e1 r2 e2 r3 e3 : Int) (g : Nat) (w : World) (k0 : e0 = 0) (k1 : e1 = 0) (k2 : e2 = 0) (k3 : e3 = 0)
    (H0 : Hid (∀ w', Ext w w' → Calls Tryz.prog 181 #[.agg #[.int .u64 a0, .int .u64 a1, .int .u64 a2], .pointer (some ⟨g, 0, none⟩)] w' fun e w'' => (∃ r, e = .returned r ∧ IsW r Z0) ∧ Ext w' w''))
    (W0 : Hid (∀ t w', IsW t Z0 → Calls Tryz.prog 96 #[t] w' fun e w'' => e = .returned (.tuple #[.int .i64 r0, .int .i64 e0]) ∧ Ext w' w''))
    (H1 : Hid (∀ w', Ext w w' → Calls Tryz.prog 181 #[.agg #[.int .u64 a3, .int .u64 a4, .int .u64 a5], .pointer (some ⟨g, 0, none⟩)] w' fun e w'' => (∃ r, e = .returned r ∧ IsW r Z1) ∧ Ext w' w''))
    (W1 : Hid (∀ t w', IsW t Z1 → Calls Tryz.prog 96 #[t] w' fun e w'' => e = .returned (.tuple #[.int .i64 r1, .int .i64 e1]) ∧ Ext w' w''))
    (H2 : Hid (∀ w', Ext w w' → Calls Tryz.prog 181 #[.agg #[.int .u64 a6, .int .u64 a7, .int .u64 a8], .pointer (some ⟨g, 0, none⟩)] w' fun e w'' => (∃ r, e = .returned r ∧ IsW r Z2) ∧ Ext w' w''))
    (W2 : Hid (∀ t w', IsW t Z2 → Calls Tryz.prog 96 #[t] w' fun e w'' => e = .returned (.tuple #[.int .i64 r2, .int .i64 e2]) ∧ Ext w' w''))
    (H3 : Hid (∀ w', Ext w w' → Calls Tryz.prog 181 #[.agg #[.int .u64 a9, .int .u64 a10, .int .u64 a11], .pointer (some ⟨g, 0, none⟩)] w' fun e w'' => (∃ r, e = .returned r ∧ IsW r Z3) ∧ Ext w' w''))
    (W3 : Hid (∀ t w', IsW t Z3 → Calls Tryz.prog 96 #[t] w' fun e w'' => e = .returned (.tuple #[.int .i64 r3, .int .i64 e3]) ∧ Ext w' w'')) :
    Calls Tryz.prog 87 #[.agg #[.int .u64 a0, .int .u64 a1, .int .u64 a2, .int .u64 a3, .int .u64 a4, .int .u64 a5, .int .u64 a6, .int .u64 a7, .int .u64 a8, .int .u64 a9, .int .u64 a10, .int .u64 a11], .func (.func 181) #[] #[.pointer (some ⟨g, 0, none⟩)]] w fun e w' => e = .returned (.tuple #[.agg #[.int .i64 r0, .int .i64 r1, .int .i64 r2, .int .i64 r3], .int .i64 0]) ∧ Ext w w' := by
  have i0 : ∀ w : World, (Instr.index 131 (.agg #[.int .u64 a0, .int .u64 a1, .int .u64 a2, .int .u64 a3, .int .u64 a4, .int .u64 a5, .int .u64 a6, .int .u64 a7, .int .u64 a8, .int .u64 a9, .int .u64 a10, .int .u64 a11]) (.int .i64 0)).run Tryz.prog w = .ok (.agg #[.int .u64 a0, .int .u64 a1, .int .u64 a2]) w := fun _ => by kernel_rfl
  have i1 : ∀ w : World, (Instr.index 131 (.agg #[.int .u64 a0, .int .u64 a1, .int .u64 a2, .int .u64 a3, .int .u64 a4, .int .u64 a5, .int .u64 a6, .int .u64 a7, .int .u64 a8, .int .u64 a9, .int .u64 a10, .int .u64 a11]) (.int .i64 1)).run Tryz.prog w = .ok (.agg #[.int .u64 a3, .int .u64 a4, .int .u64 a5]) w := fun _ => by kernel_rfl
  have i2 : ∀ w : World, (Instr.index 131 (.agg #[.int .u64 a0, .int .u64 a1, .int .u64 a2, .int .u64 a3, .int .u64 a4, .int .u64 a5, .int .u64 a6, .int .u64 a7, .int .u64 a8, .int .u64 a9, .int .u64 a10, .int .u64 a11]) (.int .i64 2)).run Tryz.prog w = .ok (.agg #[.int .u64 a6, .int .u64 a7, .int .u64 a8]) w := fun _ => by kernel_rfl
  have i3 : ∀ w : World, (Instr.index 131 (.agg #[.int .u64 a0, .int .u64 a1, .int .u64 a2, .int .u64 a3, .int .u64 a4, .int .u64 a5, .int .u64 a6, .int .u64 a7, .int .u64 a8, .int .u64 a9, .int .u64 a10, .int .u64 a11]) (.int .i64 3)).run Tryz.prog w = .ok (.agg #[.int .u64 a9, .int .u64 a10, .int .u64 a11]) w := fun _ => by kernel_rfl
  subst k0
  subst k1
  subst k2
  subst k3
  go_enter Tryz.func87, Tryz.ntmps87
  go_wp2_with fail
  refine wp_loop_rounds 5 ?_
  rw [rounds_succ]
  go_wp2_with fail
  refine (H0.out _ (by repeat (first | with_reducible assumption | with_reducible exact Ext.refl _ | with_reducible refine Ext.drew ?_ | with_reducible refine Ext.drewN ?_ _ | with_reducible refine Ext.alloc ?_ _ | with_reducible refine Ext.set ?_ (by first | exact Nat.le_refl _ | (dsimp only; omega) | (simp; done)) _))).mono ?_
  rintro e v0 ⟨⟨t0, rfl, h0⟩, y0⟩
  have MV0 : Hid (H4 v0 (w.heap.size + 1 + 1) (.int .i64 0) (.int .i64 0) (.int .i64 0) (.int .i64 0)) := (H4.alloc (h4_at (by simp)) _).ext y0
  have RV0 : Hid (H4 v0 (w.heap.size + 1) (.int .i64 0) (.int .i64 0) (.int .i64 0) (.int .i64 0)) := (H4.alloc (H4.alloc (h4_at (by simp)) _) _).ext y0
  have XV0 : Ext w v0 := Ext.trans (by repeat (first | with_reducible assumption | with_reducible exact Ext.refl _ | with_reducible refine Ext.drew ?_ | with_reducible refine Ext.drewN ?_ _ | with_reducible refine Ext.alloc ?_ _ | with_reducible refine Ext.set ?_ (by first | exact Nat.le_refl _ | (dsimp only; omega) | (simp; done)) _)) y0
  clear y0
  go_wp2_with fail
  refine (W0.out _ _ h0).mono ?_
  rintro e w1 ⟨rfl, x1⟩
  have MM1 : Hid (H4 w1 (w.heap.size + 1 + 1) (.int .i64 0) (.int .i64 0) (.int .i64 0) (.int .i64 0)) := MV0.out.ext x1
  have RR1 : Hid (H4 w1 (w.heap.size + 1) (.int .i64 0) (.int .i64 0) (.int .i64 0) (.int .i64 0)) := RV0.out.ext x1
  have X1 : Ext w w1 := XV0.trans x1
  clear x1 XV0
  obtain ⟨m0, m1, m2, m3, m4, m5, m6, m7, m8⟩ := MM1.out
  obtain ⟨q0, q1, q2, q3, q4, q5, q6, q7, q8⟩ := RR1.out
  go_wp2_with fail
  rw [rounds_succ]
  go_wp2_with fail
  refine (H1.out _ (by repeat (first | with_reducible assumption | with_reducible exact Ext.refl _ | with_reducible refine Ext.drew ?_ | with_reducible refine Ext.drewN ?_ _ | with_reducible refine Ext.alloc ?_ _ | with_reducible refine Ext.set ?_ (by first | exact Nat.le_refl _ | (dsimp only; omega) | (simp; done)) _))).mono ?_
  rintro e v1 ⟨⟨t1, rfl, h1⟩, y1⟩
  have MV1 : Hid (H4 v1 (w.heap.size + 1 + 1) (.int .i64 r0) (.int .i64 0) (.int .i64 0) (.int .i64 0)) := (H4.alloc (H4.set0 MM1.out _) _).ext y1
  have RV1 : Hid (H4 v1 (w.heap.size + 1) (.int .i64 0) (.int .i64 0) (.int .i64 0) (.int .i64 0)) := (H4.alloc (H4.far RR1.out (by omega)) _).ext y1
  have XV1 : Ext w v1 := Ext.trans (by repeat (first | with_reducible assumption | with_reducible exact Ext.refl _ | with_reducible refine Ext.drew ?_ | with_reducible refine Ext.drewN ?_ _ | with_reducible refine Ext.alloc ?_ _ | with_reducible refine Ext.set ?_ (by first | exact Nat.le_refl _ | (dsimp only; omega) | (simp; done)) _)) y1
  clear y1
  clear m0 m1 m2 m3 m4 m5 m6 m7 m8 q0 q1 q2 q3 q4 q5 q6 q7 q8 X1
  go_wp2_with fail
  refine (W1.out _ _ h1).mono ?_
  rintro e w2 ⟨rfl, x2⟩
  have MM2 : Hid (H4 w2 (w.heap.size + 1 + 1) (.int .i64 r0) (.int .i64 0) (.int .i64 0) (.int .i64 0)) := MV1.out.ext x2
  have RR2 : Hid (H4 w2 (w.heap.size + 1) (.int .i64 0) (.int .i64 0) (.int .i64 0) (.int .i64 0)) := RV1.out.ext x2
  have X2 : Ext w w2 := XV1.trans x2
  clear x2 XV1
  obtain ⟨m0, m1, m2, m3, m4, m5, m6, m7, m8⟩ := MM2.out
  obtain ⟨q0, q1, q2, q3, q4, q5, q6, q7, q8⟩ := RR2.out
  go_wp2_with fail
  rw [rounds_succ]
  go_wp2_with fail
  refine (H2.out _ (by repeat (first | with_reducible assumption | with_reducible exact Ext.refl _ | with_reducible refine Ext.drew ?_ | with_reducible refine Ext.drewN ?_ _ | with_reducible refine Ext.alloc ?_ _ | with_reducible refine Ext.set ?_ (by first | exact Nat.le_refl _ | (dsimp only; omega) | (simp; done)) _))).mono ?_
  rintro e v2 ⟨⟨t2, rfl, h2⟩, y2⟩
  have MV2 : Hid (H4 v2 (w.heap.size + 1 + 1) (.int .i64 r0) (.int .i64 r1) (.int .i64 0) (.int .i64 0)) := (H4.alloc (H4.set1 MM2.out _) _).ext y2
  have RV2 : Hid (H4 v2 (w.heap.size + 1) (.int .i64 0) (.int .i64 0) (.int .i64 0) (.int .i64 0)) := (H4.alloc (H4.far RR2.out (by omega)) _).ext y2
  have XV2 : Ext w v2 := Ext.trans (by repeat (first | with_reducible assumption | with_reducible exact Ext.refl _ | with_reducible refine Ext.drew ?_ | with_reducible refine Ext.drewN ?_ _ | with_reducible refine Ext.alloc ?_ _ | with_reducible refine Ext.set ?_ (by first | exact Nat.le_refl _ | (dsimp only; omega) | (simp; done)) _)) y2
  clear y2
  clear m0 m1 m2 m3 m4 m5 m6 m7 m8 q0 q1 q2 q3 q4 q5 q6 q7 q8 X2
  go_wp2_with fail
  refine (W2.out _ _ h2).mono ?_
  rintro e w3 ⟨rfl, x3⟩
  have MM3 : Hid (H4 w3 (w.heap.size + 1 + 1) (.int .i64 r0) (.int .i64 r1) (.int .i64 0) (.int .i64 0)) := MV2.out.ext x3
  have RR3 : Hid (H4 w3 (w.heap.size + 1) (.int .i64 0) (.int .i64 0) (.int .i64 0) (.int .i64 0)) := RV2.out.ext x3
  have X3 : Ext w w3 := XV2.trans x3
  clear x3 XV2
  obtain ⟨m0, m1, m2, m3, m4, m5, m6, m7, m8⟩ := MM3.out
  obtain ⟨q0, q1, q2, q3, q4, q5, q6, q7, q8⟩ := RR3.out
  go_wp2_with fail
  rw [rounds_succ]
  go_wp2_with fail
  refine (H3.out _ (by repeat (first | with_reducible assumption | with_reducible exact Ext.refl _ | with_reducible refine Ext.drew ?_ | with_reducible refine Ext.drewN ?_ _ | with_reducible refine Ext.alloc ?_ _ | with_reducible refine Ext.set ?_ (by first | exact Nat.le_refl _ | (dsimp only; omega) | (simp; done)) _))).mono ?_
  rintro e v3 ⟨⟨t3, rfl, h3⟩, y3⟩
  have MV3 : Hid (H4 v3 (w.heap.size + 1 + 1) (.int .i64 r0) (.int .i64 r1) (.int .i64 r2) (.int .i64 0)) := (H4.alloc (H4.set2 MM3.out _) _).ext y3
  have RV3 : Hid (H4 v3 (w.heap.size + 1) (.int .i64 0) (.int .i64 0) (.int .i64 0) (.int .i64 0)) := (H4.alloc (H4.far RR3.out (by omega)) _).ext y3
  have XV3 : Ext w v3 := Ext.trans (by repeat (first | with_reducible assumption | with_reducible exact Ext.refl _ | with_reducible refine Ext.drew ?_ | with_reducible refine Ext.drewN ?_ _ | with_reducible refine Ext.alloc ?_ _ | with_reducible refine Ext.set ?_ (by first | exact Nat.le_refl _ | (dsimp only; omega) | (simp; done)) _)) y3
  clear y3
  clear m0 m1 m2 m3 m4 m5 m6 m7 m8 q0 q1 q2 q3 q4 q5 q6 q7 q8 X3
  go_wp2_with fail
  refine (W3.out _ _ h3).mono ?_
  rintro e w4 ⟨rfl, x4⟩
  have MM4 : Hid (H4 w4 (w.heap.size + 1 + 1) (.int .i64 r0) (.int .i64 r1) (.int .i64 r2) (.int .i64 0)) := MV3.out.ext x4
  have RR4 : Hid (H4 w4 (w.heap.size + 1) (.int .i64 0) (.int .i64 0) (.int .i64 0) (.int .i64 0)) := RV3.out.ext x4
  have X4 : Ext w w4 := XV3.trans x4
  clear x4 XV3
  obtain ⟨m0, m1, m2, m3, m4, m5, m6, m7, m8⟩ := MM4.out
  obtain ⟨q0, q1, q2, q3, q4, q5, q6, q7, q8⟩ := RR4.out
  go_wp2_with fail
  rw [rounds_succ]
  go_wp2_with fail
  exact bodyPost_ret (v := .tuple #[.agg #[.int .i64 r0, .int .i64 r1, .int .i64 r2, .int .i64 r3], .int .i64 0]) (by simp [results, Tryz.results87, go_sem, q0, q1, q2, q3]) rfl ⟨rfl, by repeat (first | with_reducible assumption | with_reducible exact Ext.refl _ | with_reducible refine Ext.drew ?_ | with_reducible refine Ext.drewN ?_ _ | with_reducible refine Ext.alloc ?_ _ | with_reducible refine Ext.set ?_ (by first | exact Nat.le_refl _ | (dsimp only; omega) | (simp; done)) _)⟩

theorem throughT_any (a0 a1 a2 a3 a4 a5 a6 a7 a8 a9 a10 a11 Z0 Z1 Z2 Z3 : Int) (g : Nat) (w : World) (z0 : InW Z0) (z1 : InW Z1) (z2 : InW Z2) (z3 : InW Z3)
    (H0 : ∀ w', Ext w w' → Calls Tryz.prog 181 #[.agg #[.int .u64 a0, .int .u64 a1, .int .u64 a2], .pointer (some ⟨g, 0, none⟩)] w' fun e w'' => (∃ r, e = .returned r ∧ IsW r Z0) ∧ Ext w' w'')
    (H1 : ∀ w', Ext w w' → Calls Tryz.prog 181 #[.agg #[.int .u64 a3, .int .u64 a4, .int .u64 a5], .pointer (some ⟨g, 0, none⟩)] w' fun e w'' => (∃ r, e = .returned r ∧ IsW r Z1) ∧ Ext w' w'')
    (H2 : ∀ w', Ext w w' → Calls Tryz.prog 181 #[.agg #[.int .u64 a6, .int .u64 a7, .int .u64 a8], .pointer (some ⟨g, 0, none⟩)] w' fun e w'' => (∃ r, e = .returned r ∧ IsW r Z2) ∧ Ext w' w'')
    (H3 : ∀ w', Ext w w' → Calls Tryz.prog 181 #[.agg #[.int .u64 a9, .int .u64 a10, .int .u64 a11], .pointer (some ⟨g, 0, none⟩)] w' fun e w'' => (∃ r, e = .returned r ∧ IsW r Z3) ∧ Ext w' w'') :
    Calls Tryz.prog 87 #[.agg #[.int .u64 a0, .int .u64 a1, .int .u64 a2, .int .u64 a3, .int .u64 a4, .int .u64 a5, .int .u64 a6, .int .u64 a7, .int .u64 a8, .int .u64 a9, .int .u64 a10, .int .u64 a11], .func (.func 181) #[] #[.pointer (some ⟨g, 0, none⟩)]] w fun e w' => e = .returned (qres Z0 Z1 Z2 Z3) ∧ Ext w w' := by
  rw [← thr4_fit]
  unfold thr4
  have V0 : ∀ t w', IsW t Z0 → _ := fun t w' ht => wordw_any Z0 t w' ht z0
  have V1 : ∀ t w', IsW t Z1 → _ := fun t w' ht => wordw_any Z1 t w' ht z1
  have V2 : ∀ t w', IsW t Z2 → _ := fun t w' ht => wordw_any Z2 t w' ht z2
  have V3 : ∀ t w', IsW t Z3 → _ := fun t w' ht => wordw_any Z3 t w' ht z3
  by_cases k0 : (fitR Z0).2 = 0
  · rw [if_pos k0]
    by_cases k1 : (fitR Z1).2 = 0
    · rw [if_pos k1]
      by_cases k2 : (fitR Z2).2 = 0
      · rw [if_pos k2]
        by_cases k3 : (fitR Z3).2 = 0
        · rw [if_pos k3]
          exact throughT_4 _ _ _ _ _ _ _ _ _ _ _ _ _ _ _ _ _ _ _ _ _ _ _ _ g w k0 k1 k2 k3 H0 V0 H1 V1 H2 V2 H3 V3
        · rw [if_neg k3]
          exact throughT_3 _ _ _ _ _ _ _ _ _ _ _ _ _ _ _ _ _ _ _ _ _ _ _ _ g w k0 k1 k2 (by simp [k3]) H0 V0 H1 V1 H2 V2 H3 V3
      · rw [if_neg k2]
        exact throughT_2 _ _ _ _ _ _ _ _ _ _ _ _ _ _ _ _ _ _ _ _ _ _ _ _ g w k0 k1 (by simp [k2]) H0 V0 H1 V1 H2 V2 H3 V3
    · rw [if_neg k1]
      exact throughT_1 _ _ _ _ _ _ _ _ _ _ _ _ _ _ _ _ _ _ _ _ _ _ _ _ g w k0 (by simp [k1]) H0 V0 H1 V1 H2 V2 H3 V3
  · rw [if_neg k0]
    exact throughT_0 _ _ _ _ _ _ _ _ _ _ _ _ _ _ _ _ _ _ _ _ _ _ _ _ g w (by simp [k0]) H0 V0 H1 V1 H2 V2 H3 V3
end Go.Proofs.YtfmalpnlencmbaaGreat

namespace Go.Proofs.YtfmalpnlencmbaaGreat
open Go.RowKit Go.Shelf

theorem H12.set12 {w : World} {b : Nat} {v0 v1 v2 v3 v4 v5 v6 v7 v8 v9 v10 v11 : Value} (h : H12 w b v0 v1 v2 v3 v4 v5 v6 v7 v8 v9 v10 v11) (y0 y1 y2 y3 y4 y5 y6 y7 y8 y9 y10 y11 : Value) : H12 ((((((((((((w.setCell ⟨b, 0, none⟩ y0).setCell ⟨b, 1, none⟩ y1).setCell ⟨b, 2, none⟩ y2).setCell ⟨b, 3, none⟩ y3).setCell ⟨b, 4, none⟩ y4).setCell ⟨b, 5, none⟩ y5).setCell ⟨b, 6, none⟩ y6).setCell ⟨b, 7, none⟩ y7).setCell ⟨b, 8, none⟩ y8).setCell ⟨b, 9, none⟩ y9).setCell ⟨b, 10, none⟩ y10).setCell ⟨b, 11, none⟩ y11) b y0 y1 y2 y3 y4 y5 y6 y7 y8 y9 y10 y11 := by
  obtain ⟨c0, c1, c2, c3, c4, c5, c6, c7, c8, c9, c10, c11, f0, f1, f2, f3, f4, f5, f6, f7, f8, f9, f10, f11, hb⟩ := h
  refine ⟨?_, ?_, ?_, ?_, ?_, ?_, ?_, ?_, ?_, ?_, ?_, ?_, ?_, ?_, ?_, ?_, ?_, ?_, ?_, ?_, ?_, ?_, ?_, ?_, ?_⟩ <;> simp [go_sem, c0, c1, c2, c3, c4, c5, c6, c7, c8, c9, c10, c11, f0, f1, f2, f3, f4, f5, f6, f7, f8, f9, f10, f11, hb]
theorem ext_new12 {X w' : World} {v0 v1 v2 v3 v4 v5 v6 v7 v8 v9 v10 v11 : Value} {T : TypeId} (h : Ext (X.alloc (.cells #[v0, v1, v2, v3, v4, v5, v6, v7, v8, v9, v10, v11] T)) w') : Hid (H12 w' X.heap.size v0 v1 v2 v3 v4 v5 v6 v7 v8 v9 v10 v11) := (h12_at rfl).ext h
theorem ext_new12d {X w' : World} {v0 v1 v2 v3 v4 v5 v6 v7 v8 v9 v10 v11 : Value} {T : TypeId} (h : Ext (X.alloc (.cells #[v0, v1, v2, v3, v4, v5, v6, v7, v8, v9, v10, v11] T)).drew w') : Hid (H12 w' X.heap.size v0 v1 v2 v3 v4 v5 v6 v7 v8 v9 v10 v11) := (H12.drew (h12_at rfl)).ext h
theorem hid12_ext {w w' : World} {b : Nat} {v0 v1 v2 v3 v4 v5 v6 v7 v8 v9 v10 v11 : Value} (h : Hid (H12 w b v0 v1 v2 v3 v4 v5 v6 v7 v8 v9 v10 v11)) (hx : Ext w w') : Hid (H12 w' b v0 v1 v2 v3 v4 v5 v6 v7 v8 v9 v10 v11) := h.out.ext hx
/-- the variable behind, behind its region -/
def Part12 (w wx : World) (g : Nat) (z0 z1 z2 z3 : Int) : Prop := ∃ m0 m1 m2 m3 m4 m5 m6 m7 m8 m9 m10 m11 : Int, H12 wx g (.int .u64 m0) (.int .u64 m1) (.int .u64 m2) (.int .u64 m3) (.int .u64 m4) (.int .u64 m5) (.int .u64 m6) (.int .u64 m7) (.int .u64 m8) (.int .u64 m9) (.int .u64 m10) (.int .u64 m11) ∧ IsF (.agg #[.int .u64 m0, .int .u64 m1, .int .u64 m2, .int .u64 m3, .int .u64 m4, .int .u64 m5, .int .u64 m6, .int .u64 m7, .int .u64 m8, .int .u64 m9, .int .u64 m10, .int .u64 m11]) z0 z1 z2 z3 ∧ Ext w wx ∧ w.heap.size ≤ g
theorem part12_a {w wR : World} {m0 m1 m2 m3 m4 m5 m6 m7 m8 m9 m10 m11 z0 z1 z2 z3 : Int} {T : TypeId} (hR : Hid (IsF (.agg #[.int .u64 m0, .int .u64 m1, .int .u64 m2, .int .u64 m3, .int .u64 m4, .int .u64 m5, .int .u64 m6, .int .u64 m7, .int .u64 m8, .int .u64 m9, .int .u64 m10, .int .u64 m11]) z0 z1 z2 z3)) (y : Ext w wR) : Hid (Part12 w (wR.alloc (.cells #[.int .u64 m0, .int .u64 m1, .int .u64 m2, .int .u64 m3, .int .u64 m4, .int .u64 m5, .int .u64 m6, .int .u64 m7, .int .u64 m8, .int .u64 m9, .int .u64 m10, .int .u64 m11] T)) wR.heap.size z0 z1 z2 z3) :=
  ⟨_, _, _, _, _, _, _, _, _, _, _, _, h12_at rfl, hR.out, y.alloc _, y.size⟩
theorem part12_b {w wR : World} {g : Nat} {v0 v1 v2 v3 v4 v5 v6 v7 v8 v9 v10 v11 : Value} {m0 m1 m2 m3 m4 m5 m6 m7 m8 m9 m10 m11 z0 z1 z2 z3 : Int} (hN : Hid (H12 wR g v0 v1 v2 v3 v4 v5 v6 v7 v8 v9 v10 v11)) (hR : Hid (IsF (.agg #[.int .u64 m0, .int .u64 m1, .int .u64 m2, .int .u64 m3, .int .u64 m4, .int .u64 m5, .int .u64 m6, .int .u64 m7, .int .u64 m8, .int .u64 m9, .int .u64 m10, .int .u64 m11]) z0 z1 z2 z3)) (y : Ext w wR) (hg : w.heap.size ≤ g) :
    Hid (Part12 w ((((((((((((wR.setCell ⟨g, 0, none⟩ (.int .u64 m0)).setCell ⟨g, 1, none⟩ (.int .u64 m1)).setCell ⟨g, 2, none⟩ (.int .u64 m2)).setCell ⟨g, 3, none⟩ (.int .u64 m3)).setCell ⟨g, 4, none⟩ (.int .u64 m4)).setCell ⟨g, 5, none⟩ (.int .u64 m5)).setCell ⟨g, 6, none⟩ (.int .u64 m6)).setCell ⟨g, 7, none⟩ (.int .u64 m7)).setCell ⟨g, 8, none⟩ (.int .u64 m8)).setCell ⟨g, 9, none⟩ (.int .u64 m9)).setCell ⟨g, 10, none⟩ (.int .u64 m10)).setCell ⟨g, 11, none⟩ (.int .u64 m11)) g z0 z1 z2 z3) :=
  ⟨_, _, _, _, _, _, _, _, _, _, _, _, hN.out.set12 _ _ _ _ _ _ _ _ _ _ _ _, hR.out, (((((((((((y.set hg _).set hg _).set hg _).set hg _).set hg _).set hg _).set hg _).set hg _).set hg _).set hg _).set hg _).set hg _, hg⟩
theorem isF_keep {a0 a1 a2 a3 a4 a5 a6 a7 a8 a9 a10 a11 z0 z1 z2 z3 : Int} (h : IsW (.agg #[.int .u64 a0, .int .u64 a1, .int .u64 a2]) z0 ∧ IsW (.agg #[.int .u64 a3, .int .u64 a4, .int .u64 a5]) z1 ∧ IsW (.agg #[.int .u64 a6, .int .u64 a7, .int .u64 a8]) z2 ∧ IsW (.agg #[.int .u64 a9, .int .u64 a10, .int .u64 a11]) z3) : Hid (IsF (.agg #[.int .u64 a0, .int .u64 a1, .int .u64 a2, .int .u64 a3, .int .u64 a4, .int .u64 a5, .int .u64 a6, .int .u64 a7, .int .u64 a8, .int .u64 a9, .int .u64 a10, .int .u64 a11]) z0 z1 z2 z3) := ⟨_, _, _, _, _, _, _, _, _, _, _, _, rfl, h⟩

set_option maxHeartbeats 2000000 in
theorem turned1_raw (a0 a1 a2 b0 b1 b2 z : Int) (g : Nat) (w : World) (GB : H3 w g (.int .u64 b0) (.int .u64 b1) (.int .u64 b2))
    (HO : Hid (∀ w', Calls Tryz.prog 182 #[.agg #[.int .u64 a0, .int .u64 a1, .int .u64 a2], .agg #[.int .u64 b0, .int .u64 b1, .int .u64 b2]] w' fun e w'' => (∃ r, e = .returned r ∧ IsW r z) ∧ Ext w' w'')) :
    Calls Tryz.prog 181 #[.agg #[.int .u64 a0, .int .u64 a1, .int .u64 a2], .pointer (some ⟨g, 0, none⟩)] w fun e w' => (∃ r, e = .returned r ∧ IsW r z) ∧ Ext w w' := by
  have hg := GB.2.2.2.2.2.2
  have GG := (GB.alloc (.cells #[.int .u64 a0, .int .u64 a1, .int .u64 a2] 129)).alloc (.cells #[.int .u64 0, .int .u64 0, .int .u64 0] 129)
  obtain ⟨g0, g1, g2, g3, g4, g5, g6⟩ := GG
  clear GB
  go_enter Tryz.func181, Tryz.ntmps181
  go_wp2_with fail
  refine (HO.out _).mono ?_
  rintro e w1 ⟨⟨r, rfl, s0, s1, s2, rfl, hr⟩, x1⟩
  have HR : Hid _ := hr
  clear hr
  have X1 : Ext w w1 := Ext.trans (by repeat (first | with_reducible assumption | with_reducible exact Ext.refl _ | with_reducible refine Ext.drew ?_ | with_reducible refine Ext.drewN ?_ _ | with_reducible refine Ext.alloc ?_ _ | with_reducible refine Ext.set ?_ (by first | exact Nat.le_refl _ | (dsimp only; omega) | (simp; done)) _)) x1
  obtain ⟨c0, c1, c2, c3, c4, c5, c6⟩ : H3 w1 (w.heap.size + 1) _ _ _ := (h3_at (by simp)).ext x1
  clear x1 g0 g1 g2 g3 g4 g5 g6
  go_wp2_with fail
  exact bodyPost_ret (v := .agg #[.int .u64 s0, .int .u64 s1, .int .u64 s2]) (by simp [results, Tryz.results181, go_sem, c0, c1, c2]) rfl ⟨⟨_, rfl, _, _, _, rfl, HR.out⟩, by repeat (first | with_reducible assumption | with_reducible exact Ext.refl _ | with_reducible refine Ext.drew ?_ | with_reducible refine Ext.drewN ?_ _ | with_reducible refine Ext.alloc ?_ _ | with_reducible refine Ext.set ?_ (by first | exact Nat.le_refl _ | (dsimp only; omega) | (simp; done)) _)⟩
theorem turned1_any (p : Int) (n : Nat) (a0 a1 a2 b0 b1 b2 : Int) (g : Nat) (w : World) (hu : IsW (.agg #[.int .u64 a0, .int .u64 a1, .int .u64 a2]) p) (hv : IsW (.agg #[.int .u64 b0, .int .u64 b1, .int .u64 b2]) n) (GB : H3 w g (.int .u64 b0) (.int .u64 b1) (.int .u64 b2)) (h0 : 0 < n) (hn : n < 4951760157141521099596496896) (hp : p.natAbs / n < 70368744177664) (hp2 : p.natAbs < 98079714615416886934934209737619787751599303819750539264) :
    Calls Tryz.prog 181 #[.agg #[.int .u64 a0, .int .u64 a1, .int .u64 a2], .pointer (some ⟨g, 0, none⟩)] w fun e w' => (∃ r, e = .returned r ∧ IsW r (nearI p n)) ∧ Ext w w' := by
  refine turned1_raw a0 a1 a2 b0 b1 b2 _ g w GB (fun w' => ?_)
  refine (overw_any p n _ _ w' hu hv h0 hn hp hp2).mono ?_
  rintro e w1 ⟨⟨r, rfl, k, k1, k2, _⟩, x1⟩
  rw [IsNear.unique (by omega) k2 (nearI_spec p n (by omega))] at k1
  exact ⟨⟨r, rfl, k1⟩, x1⟩

set_option maxRecDepth 20000 in
set_option maxHeartbeats 8000000 in
theorem turned_raw (a b c d x y z nb nc nd N z0 z1 z2 z3 T0 T1 T2 T3 E0 E1 E2 E3 ee : Int) (w : World)
    (HS : Hid (∀ w', Calls Tryz.prog 95 #[.agg #[.int .i64 a, .int .i64 b, .int .i64 c, .int .i64 d]] w' fun e w'' => (∃ r, e = .returned r ∧ IsW r N) ∧ Ext w' w''))
    (HC : Hid (∀ w', Calls Tryz.prog 93 #[.agg #[.int .i64 a, .int .i64 b, .int .i64 c, .int .i64 d]] w' fun e w'' => e = .returned (.agg #[.int .i64 a, .int .i64 nb, .int .i64 nc, .int .i64 nd]) ∧ Ext w' w''))
    (HP : Hid (∀ w', Calls Tryz.prog 88 #[.agg #[.int .i64 0, .int .i64 x, .int .i64 y, .int .i64 z], .agg #[.int .i64 a, .int .i64 nb, .int .i64 nc, .int .i64 nd], .func (.func 90) #[] #[]] w' fun e w'' => (∃ r, e = .returned r ∧ IsF r z0 z1 z2 z3) ∧ Ext w' w''))
    (HX : Hid (∀ v w', IsF v z0 z1 z2 z3 → Calls Tryz.prog 180 #[.agg #[.int .i64 a, .int .i64 b, .int .i64 c, .int .i64 d], v, .func (.func 148) #[] #[]] w' fun e w'' => (∃ r, e = .returned r ∧ IsF r T0 T1 T2 T3) ∧ Ext w' w''))
    (HT : Hid (∀ g b0 b1 b2 v w', IsF v T0 T1 T2 T3 → IsW (.agg #[.int .u64 b0, .int .u64 b1, .int .u64 b2]) N → H3 w' g (.int .u64 b0) (.int .u64 b1) (.int .u64 b2) → Calls Tryz.prog 87 #[v, .func (.func 181) #[] #[.pointer (some ⟨g, 0, none⟩)]] w' fun e w'' => e = .returned (.tuple #[.agg #[.int .i64 E0, .int .i64 E1, .int .i64 E2, .int .i64 E3], .int .i64 ee]) ∧ Ext w' w'')) :
    Calls Tryz.prog 152 #[.agg #[.int .i64 a, .int .i64 b, .int .i64 c, .int .i64 d], .agg #[.int .i64 x, .int .i64 y, .int .i64 z]] w fun e w' => e = .returned (.tuple #[.agg #[.int .i64 E0, .int .i64 E1, .int .i64 E2, .int .i64 E3], .int .i64 ee]) ∧ Ext w w' := by
  go_enter Tryz.func152, Tryz.ntmps152
  go_wp2_with fail
  refine (HS.out _).mono ?_
  rintro e w1 ⟨⟨uN, rfl, b0, b1, b2, rfl, hN0⟩, x1⟩
  have HN : Hid (IsW (.agg #[.int .u64 b0, .int .u64 b1, .int .u64 b2]) N) := ⟨_, _, _, rfl, hN0⟩
  clear hN0
  have QB1 : Hid (H4 w1 w.heap.size (.int .i64 a) (.int .i64 b) (.int .i64 c) (.int .i64 d)) := (H4.alloc (H4.alloc (h4_at rfl) _) _).ext x1
  have VB1 : Hid (H3 w1 (w.heap.size + 1) (.int .i64 x) (.int .i64 y) (.int .i64 z)) := (H3.alloc (h3_at (by simp)) _).ext x1
  have RB1 : Hid (H4 w1 (w.heap.size + 1 + 1) (.int .i64 0) (.int .i64 0) (.int .i64 0) (.int .i64 0)) := (h4_at (by simp)).ext x1
  have X1 : Ext w w1 := Ext.trans (by repeat (first | with_reducible assumption | with_reducible exact Ext.refl _ | with_reducible refine Ext.drew ?_ | with_reducible refine Ext.drewN ?_ _ | with_reducible refine Ext.alloc ?_ _ | with_reducible refine Ext.set ?_ (by first | exact Nat.le_refl _ | (dsimp only; omega) | (simp; done)) _)) x1
  clear x1
  have QB : Hid (H4 (w1.alloc (.cells #[.int .u64 b0, .int .u64 b1, .int .u64 b2] 129)) w.heap.size (.int .i64 a) (.int .i64 b) (.int .i64 c) (.int .i64 d)) := QB1.out.alloc _
  have VB : Hid (H3 (w1.alloc (.cells #[.int .u64 b0, .int .u64 b1, .int .u64 b2] 129)) (w.heap.size + 1) (.int .i64 x) (.int .i64 y) (.int .i64 z)) := VB1.out.alloc _
  have RB : Hid (H4 (w1.alloc (.cells #[.int .u64 b0, .int .u64 b1, .int .u64 b2] 129)) (w.heap.size + 1 + 1) (.int .i64 0) (.int .i64 0) (.int .i64 0) (.int .i64 0)) := RB1.out.alloc _
  have NB : Hid (H3 (w1.alloc (.cells #[.int .u64 b0, .int .u64 b1, .int .u64 b2] 129)) w1.heap.size (.int .u64 b0) (.int .u64 b1) (.int .u64 b2)) := h3_at rfl
  have XB : Ext w (w1.alloc (.cells #[.int .u64 b0, .int .u64 b1, .int .u64 b2] 129)) := X1.alloc _
  clear QB1 VB1 RB1 X1
  obtain ⟨s0, s1, s2, s3, s4, s5, s6, s7, s8⟩ := QB.out
  obtain ⟨t0, t1, t2, t3, t4, t5, t6⟩ := VB.out
  go_upto_region 2 with fail
  generalize hgN : w1.heap.size = gN at *
  generalize (w1.alloc (.cells #[.int .u64 b0, .int .u64 b1, .int .u64 b2] 129)) = wB at *
  have nBa := Nat.ne_of_lt s8
  have nBb := (Nat.ne_of_lt s8).symm
  have nBc := Nat.ne_of_lt t6
  have nBd := (Nat.ne_of_lt t6).symm
  go_cut [7] (fun s7 wx => ∃ gp, s7 = .pointer (some ⟨gp, 0, none⟩) ∧ Hid (Part12 wB wx gp z0 z1 z2 z3))
  case first =>
    go_region_held (fun w' => w'.cell? ⟨w.heap.size, 0, none⟩ = some (.int .i64 a) ∧ w'.cell? ⟨w.heap.size, 1, none⟩ = some (.int .i64 b) ∧ w'.cell? ⟨w.heap.size, 2, none⟩ = some (.int .i64 c) ∧ w'.cell? ⟨w.heap.size, 3, none⟩ = some (.int .i64 d) ∧ w'.cell? ⟨w.heap.size + 1, 0, none⟩ = some (.int .i64 x) ∧ w'.cell? ⟨w.heap.size + 1, 1, none⟩ = some (.int .i64 y) ∧ w'.cell? ⟨w.heap.size + 1, 2, none⟩ = some (.int .i64 z)) (first | (go_keep; done) | skip) (first | (go_at_call 93; refine (HC.out _).mono ?_; rintro e wC ⟨rfl, xC⟩; have yC : Ext wB wC := Ext.trans (by repeat (first | with_reducible assumption | with_reducible exact Ext.refl _ | with_reducible refine Ext.drew ?_ | with_reducible refine Ext.drewN ?_ _ | with_reducible refine Ext.alloc ?_ _ | with_reducible refine Ext.set ?_ (by first | exact Nat.le_refl _ | (dsimp only; omega) | (simp; done)) _)) xC; obtain ⟨s0, s1, s2, s3, s4, s5, s6, s7, s8⟩ := QB.out.ext yC; obtain ⟨t0, t1, t2, t3, t4, t5, t6⟩ := VB.out.ext yC; have nCa := Nat.ne_of_lt s8; have nCb := (Nat.ne_of_lt s8).symm; have nCc := Nat.ne_of_lt t6; have nCd := (Nat.ne_of_lt t6).symm; first | ((with_reducible have hNC := ext_new12d xC); obtain ⟨n0, n1, n2, n3, n4, n5, n6, n7, n8, n9, n10, n11, n12, n13, n14, n15, n16, n17, n18, n19, n20, n21, n22, n23, n24⟩ := hNC.out) | ((with_reducible have hNC := ext_new12 xC); obtain ⟨n0, n1, n2, n3, n4, n5, n6, n7, n8, n9, n10, n11, n12, n13, n14, n15, n16, n17, n18, n19, n20, n21, n22, n23, n24⟩ := hNC.out) | skip) | (go_at_call 88; refine (HP.out _).mono ?_; rintro e wP ⟨⟨uP, rfl, m0, m1, m2, m3, m4, m5, m6, m7, m8, m9, m10, m11, rfl, hP⟩, xP⟩; have HF := isF_keep hP; clear hP; have yP : Ext wB wP := Ext.trans (by repeat (first | with_reducible assumption | with_reducible exact Ext.refl _ | with_reducible refine Ext.drew ?_ | with_reducible refine Ext.drewN ?_ _ | with_reducible refine Ext.alloc ?_ _ | with_reducible refine Ext.set ?_ (by first | exact Nat.le_refl _ | (dsimp only; omega) | (simp; done)) _)) xP; obtain ⟨s0, s1, s2, s3, s4, s5, s6, s7, s8⟩ := QB.out.ext yP; obtain ⟨t0, t1, t2, t3, t4, t5, t6⟩ := VB.out.ext yP; have nPa := Nat.ne_of_lt s8; have nPb := (Nat.ne_of_lt s8).symm; have nPc := Nat.ne_of_lt t6; have nPd := (Nat.ne_of_lt t6).symm; first | ((with_reducible have hNP := hid12_ext hNC xP); obtain ⟨n0, n1, n2, n3, n4, n5, n6, n7, n8, n9, n10, n11, n12, n13, n14, n15, n16, n17, n18, n19, n20, n21, n22, n23, n24⟩ := hNP.out) | ((with_reducible have hNP := ext_new12d xP); obtain ⟨n0, n1, n2, n3, n4, n5, n6, n7, n8, n9, n10, n11, n12, n13, n14, n15, n16, n17, n18, n19, n20, n21, n22, n23, n24⟩ := hNP.out) | ((with_reducible have hNP := ext_new12 xP); obtain ⟨n0, n1, n2, n3, n4, n5, n6, n7, n8, n9, n10, n11, n12, n13, n14, n15, n16, n17, n18, n19, n20, n21, n22, n23, n24⟩ := hNP.out) | skip))
    all_goals
      go_wp2_with fail
      go_meet
      first
        | with_reducible exact ⟨_, rfl, part12_a HF yP⟩
        | ((with_reducible refine ⟨_, rfl, part12_b hNP HF yP ?_⟩) <;> (have q1 := yC.size; omega))
  case rest =>
    obtain ⟨gp, rfl, hO⟩ := hcut
    obtain ⟨m0, m1, m2, m3, m4, m5, m6, m7, m8, m9, m10, m11, hH, hI, hE, hG⟩ := hO.out
    have HI : Hid (IsF (.agg #[.int .u64 m0, .int .u64 m1, .int .u64 m2, .int .u64 m3, .int .u64 m4, .int .u64 m5, .int .u64 m6, .int .u64 m7, .int .u64 m8, .int .u64 m9, .int .u64 m10, .int .u64 m11]) z0 z1 z2 z3) := hI
    have XE : Hid (Ext wB wc) := hE
    have XW : Ext w wc := XB.trans hE
    clear hI hO hE nBa nBb nBc nBd s0 s1 s2 s3 s4 s5 s6 s7 s8 t0 t1 t2 t3 t4 t5 t6
    obtain ⟨s0, s1, s2, s3, s4, s5, s6, s7, s8⟩ := QB.out.ext XE.out
    obtain ⟨n0, n1, n2, n3, n4, n5, n6, n7, n8, n9, n10, n11, n12, n13, n14, n15, n16, n17, n18, n19, n20, n21, n22, n23, n24⟩ := hH
    go_wp2_with fail
    refine (HX.out _ _ HI.out).mono ?_
    rintro e w2 ⟨⟨u2, rfl, h2⟩, x2⟩
    have H2 : Hid (IsF u2 _ _ _ _) := h2
    clear h2
    go_wp2_with fail
    refine (HT.out _ _ _ _ _ _ H2.out HN.out ((NB.out.ext XE.out).ext x2)).mono ?_
    rintro e w3 ⟨rfl, x3⟩
    have XW3 : Ext w w3 := (XW.trans x2).trans x3
    obtain ⟨r0, r1, r2, r3, r4, r5, r6, r7, r8⟩ := ((RB.out.ext XE.out).ext x2).ext x3
    clear n0 n1 n2 n3 n4 n5 n6 n7 n8 n9 n10 n11 n12 n13 n14 n15 n16 n17 n18 n19 n20 n21 n22 n23 x2 x3 XW s0 s1 s2 s3 s4 s5 s6 s7 s8
    go_wp2_with fail
    exact bodyPost_ret (v := .tuple #[.agg #[.int .i64 E0, .int .i64 E1, .int .i64 E2, .int .i64 E3], .int .i64 ee]) (by simp [results, Tryz.results152, go_sem, r0, r1, r2, r3]) rfl ⟨rfl, by repeat (first | with_reducible assumption | with_reducible exact Ext.refl _ | with_reducible refine Ext.drew ?_ | with_reducible refine Ext.drewN ?_ _ | with_reducible refine Ext.alloc ?_ _ | with_reducible refine Ext.set ?_ (by first | exact Nat.le_refl _ | (dsimp only; omega) | (simp; done)) _)⟩
end Go.Proofs.YtfmalpnlencmbaaGreat

namespace Go.Proofs.YtfmalpnlencmbaaGreat
open Go.RowKit Go.Shelf

set_option maxRecDepth 20000 in
set_option maxHeartbeats 2000000 in
theorem cmpOr_any (n B : Nat) (E : Nat → Int) (w : World) (hn : n ≤ 4) (HB : Hid (∀ i, i < n → w.cell? ⟨B, i, none⟩ = some (.int .i64 (E i)) ∧ B < w.heap.size)) :
    Calls Tryz.prog 85 #[.slice (some ⟨B, 0, none⟩) n n] w fun e w' => (∃ r : Int, e = .returned (.int .i64 r) ∧ ((∃ k, k < n ∧ (∀ i, i < k → E i = 0) ∧ E k ≠ 0 ∧ r = E k) ∨ ((∀ i, i < n → E i = 0) ∧ r = 0))) ∧ Ext w w' := by
  go_enter Tryz.func85, Tryz.ntmps85
  go_wp2_with fail
  go_loopw [8] (fun i wr => ∃ k : Nat, k ≤ n ∧ i = .int .i64 (k : Int) ∧ Hid (∀ i, i < k → E i = 0) ∧ Ext w wr) (fun i _ => n - (intOf i).toNat)
  case atStart => exact ⟨0, by omega, rfl, fun i hi => by omega, Ext.refl _⟩
  case round =>
    obtain ⟨k, hk, rfl, hE, hx⟩ := hrel
    by_cases hlt : k < n
    · have kx : (k : Int) < (n : Int) := by omega
      obtain ⟨hcy, hay⟩ := HB.out k hlt
      have hcy := ((hx.lay).1 B k hay).trans hcy
      by_cases h0 : E k = 0
      · have H1 : Hid (∀ i, i < k + 1 → E i = 0) := fun i hi => by
          rcases Nat.lt_or_ge i k with h | h
          · exact hE.out i h
          · obtain rfl : i = k := by omega
            exact h0
        rw [h0] at hcy
        clear hE HB
        go_wp2_with fail
        go_roundw
        case rel => exact ⟨k + 1, by omega, by go_num, H1, hx⟩
        case measure => simp [intOf]; omega
      · have h1 : (E k != 0) = true := by simp [h0]
        have H1 : Hid (∃ k, k < n ∧ (∀ i, i < k → E i = 0) ∧ E k ≠ 0 ∧ E k = E k) := ⟨k, hlt, hE.out, h0, rfl⟩
        have H2 : Hid (∃ j, j < n ∧ (∀ i, i < j → E i = 0) ∧ E j ≠ 0 ∧ E k = E j) := ⟨k, hlt, hE.out, h0, rfl⟩
        clear hE HB H1
        generalize E k = x at *
        go_wp2_with fail
        go_ret
        exact ⟨⟨x, rfl, Or.inl H2.out⟩, hx⟩
    · have hkn : k = n := by omega
      subst hkn
      have H2 : Hid (∀ i, i < k → E i = 0) := hE
      clear HB hE
      go_wp2_with fail
      go_ret
      exact ⟨⟨0, rfl, Or.inr ⟨H2.out, rfl⟩⟩, hx⟩

theorem cmpOr4 (a b c d r : Int) (g : Nat) (w : World) (h : H4 w g (.int .i64 a) (.int .i64 b) (.int .i64 c) (.int .i64 d)) (hr : r = if a ≠ 0 then a else if b ≠ 0 then b else if c ≠ 0 then c else d) :
    Calls Tryz.prog 85 #[.slice (some ⟨g, 0, none⟩) 4 4] w fun e w' => e = .returned (.int .i64 r) ∧ Ext w w' := by
  obtain ⟨c0, c1, c2, c3, f0, f1, f2, f3, hb⟩ := h
  refine (cmpOr_any 4 g (fun i => if i = 0 then a else if i = 1 then b else if i = 2 then c else d) w (by omega) (fun i hi => ?_)).mono ?_
  · obtain rfl | rfl | rfl | rfl : i = 0 ∨ i = 1 ∨ i = 2 ∨ i = 3 := by omega
    · exact ⟨c0, hb⟩
    · exact ⟨c1, hb⟩
    · exact ⟨c2, hb⟩
    · exact ⟨c3, hb⟩
  · rintro e w1 ⟨⟨s, rfl, hs⟩, x1⟩
    refine ⟨?_, x1⟩
    have : s = r := by
      rcases hs with ⟨k, hk, h1, h2, rfl⟩ | ⟨h1, rfl⟩
      · obtain rfl | rfl | rfl | rfl : k = 0 ∨ k = 1 ∨ k = 2 ∨ k = 3 := by omega
        · have g0 : a ≠ 0 := h2
          rw [hr]; simp_all
        · have g0 : a = 0 := h1 0 (by omega)
          have g1 : b ≠ 0 := h2
          rw [hr]; simp_all
        · have g0 : a = 0 := h1 0 (by omega)
          have g1 : b = 0 := h1 1 (by omega)
          have g2 : c ≠ 0 := h2
          rw [hr]; simp_all
        · have g0 : a = 0 := h1 0 (by omega)
          have g1 : b = 0 := h1 1 (by omega)
          have g2 : c = 0 := h1 2 (by omega)
          rw [hr]; simp_all
      · have g0 : a = 0 := h1 0 (by omega)
        have g1 : b = 0 := h1 1 (by omega)
        have g2 : c = 0 := h1 2 (by omega)
        have g3 : d = 0 := h1 3 (by omega)
        rw [hr]; simp_all
    rw [this]

theorem cmpOr2 (a b r : Int) (g : Nat) (w : World) (h : H2 w g (.int .i64 a) (.int .i64 b)) (hr : r = if a ≠ 0 then a else b) :
    Calls Tryz.prog 85 #[.slice (some ⟨g, 0, none⟩) 2 2] w fun e w' => e = .returned (.int .i64 r) ∧ Ext w w' := by
  obtain ⟨c0, c1, f0, f1, hb⟩ := h
  refine (cmpOr_any 2 g (fun i => if i = 0 then a else b) w (by omega) (fun i hi => ?_)).mono ?_
  · obtain rfl | rfl : i = 0 ∨ i = 1 := by omega
    · exact ⟨c0, hb⟩
    · exact ⟨c1, hb⟩
  · rintro e w1 ⟨⟨s, rfl, hs⟩, x1⟩
    refine ⟨?_, x1⟩
    have : s = r := by
      rcases hs with ⟨k, hk, h1, h2, rfl⟩ | ⟨h1, rfl⟩
      · obtain rfl | rfl : k = 0 ∨ k = 1 := by omega
        · have g0 : a ≠ 0 := h2
          rw [hr]; simp_all
        · have g0 : a = 0 := h1 0 (by omega)
          rw [hr]; simp_all
      · have g0 : a = 0 := h1 0 (by omega)
        have g3 : b = 0 := h1 1 (by omega)
        rw [hr]; simp_all
    rw [this]

end Go.Proofs.YtfmalpnlencmbaaGreat

namespace Go.Proofs.YtfmalpnlencmbaaGreat
open Go.RowKit Go.Shelf

theorem chk4_or (a b c d : Int) : chk4 a b c d = if chk a ≠ 0 then chk a else if chk b ≠ 0 then chk b else if chk c ≠ 0 then chk c else chk d := by
  unfold chk4 ok4 chk
  cases okW a <;> cases okW b <;> cases okW c <;> cases okW d <;> rfl

set_option maxRecDepth 20000 in
set_option maxHeartbeats 4000000 in
theorem qcheck_any (a b c d : Int) (w : World) :
    Calls Tryz.prog 92 #[.agg #[.int .i64 a, .int .i64 b, .int .i64 c, .int .i64 d]] w fun e w' => e = .returned (.int .i64 (chk4 a b c d)) ∧ Ext w w' := by
  have HC : Hid (∀ v w', Calls Tryz.prog 132 #[.int .i64 v] w' fun e w'' => e = .returned (.int .i64 (chk v)) ∧ w'' = w') := check_any
  have HO : Hid (∀ g w', H4 w' g (.int .i64 (chk a)) (.int .i64 (chk b)) (.int .i64 (chk c)) (.int .i64 (chk d)) → Calls Tryz.prog 85 #[.slice (some ⟨g, 0, none⟩) 4 4] w' fun e w'' => e = .returned (.int .i64 (chk4 a b c d)) ∧ Ext w' w'') := fun g w' h => cmpOr4 _ _ _ _ _ g w' h (chk4_or a b c d)
  generalize chk4 a b c d = R at *
  go_enter Tryz.func92, Tryz.ntmps92
  go_wp2_with fail
  have BB : Hid (H4 (w.alloc (.cells #[.int .i64 a, .int .i64 b, .int .i64 c, .int .i64 d] 124)) w.heap.size (.int .i64 a) (.int .i64 b) (.int .i64 c) (.int .i64 d)) := h4_at rfl
  go_region_held (fun w' => w'.cell? ⟨w.heap.size, 0, none⟩ = some (.int .i64 a) ∧ w'.cell? ⟨w.heap.size, 1, none⟩ = some (.int .i64 b) ∧ w'.cell? ⟨w.heap.size, 2, none⟩ = some (.int .i64 c) ∧ w'.cell? ⟨w.heap.size, 3, none⟩ = some (.int .i64 d)) (first | (go_keep; done) | skip) (first | (go_at_call 132; refine (HC.out _ _).mono ?_; rintro e wx ⟨rfl, hwx⟩; have hwy := hwx.symm; clear hwx; subst hwy) | (go_at_call 85; refine (HO.out _ _ (H4.drew (h4_at (by simp)))).mono ?_; rintro e w1 ⟨rfl, x1⟩; have Y1 : Ext (w.alloc (.cells #[.int .i64 a, .int .i64 b, .int .i64 c, .int .i64 d] 124)) w1 := Ext.trans (by repeat (first | with_reducible assumption | with_reducible exact Ext.refl _ | with_reducible refine Ext.drew ?_ | with_reducible refine Ext.drewN ?_ _ | with_reducible refine Ext.alloc ?_ _ | with_reducible refine Ext.set ?_ (by first | exact Nat.le_refl _ | (dsimp only; omega) | (simp; done)) _)) x1; obtain ⟨s0, s1, s2, s3, s4, s5, s6, s7, s8⟩ := BB.out.ext Y1))
  all_goals
    have X1 : Ext w w1 := Ext.trans (by repeat (first | with_reducible assumption | with_reducible exact Ext.refl _ | with_reducible refine Ext.drew ?_ | with_reducible refine Ext.drewN ?_ _ | with_reducible refine Ext.alloc ?_ _ | with_reducible refine Ext.set ?_ (by first | exact Nat.le_refl _ | (dsimp only; omega) | (simp; done)) _)) x1
    go_wp2_with fail
    go_ret
    exact ⟨rfl, X1⟩

set_option maxRecDepth 20000 in
set_option maxHeartbeats 4000000 in
theorem qCheck_any (a b c d : Int) (w : World) :
    Calls Tryz.prog 36 #[.agg #[.int .i64 a, .int .i64 b, .int .i64 c, .int .i64 d]] w fun e w' => e = .returned (.int .i64 (chk4 a b c d)) ∧ Ext w w' := by
  have HC : Hid _ := qcheck_any a b c d
  have HF : Hid _ := qof_any a b c d
  go_enter Tryz.func36, Tryz.ntmps36
  go_wp2_with fail
  refine (HF.out _).mono ?_
  rintro e w1 ⟨rfl, x1⟩
  go_wp2_with fail
  refine (HC.out _).mono ?_
  rintro e w2 ⟨rfl, x2⟩
  have X2 : Ext w w2 := (Ext.trans (by repeat (first | with_reducible assumption | with_reducible exact Ext.refl _ | with_reducible refine Ext.drew ?_ | with_reducible refine Ext.drewN ?_ _ | with_reducible refine Ext.alloc ?_ _ | with_reducible refine Ext.set ?_ (by first | exact Nat.le_refl _ | (dsimp only; omega) | (simp; done)) _)) x1).trans x2
  go_wp2_with fail
  go_ret
  exact ⟨rfl, X2⟩
end Go.Proofs.YtfmalpnlencmbaaGreat
