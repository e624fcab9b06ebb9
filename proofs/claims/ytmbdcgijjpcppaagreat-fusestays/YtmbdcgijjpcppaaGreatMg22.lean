/- vec: pairwise. vec: sums of three products. vec: the words of sums of products. -/
import Derived.Test.YtmbdcgijjpcppaaGreatMg6
import Derived.Test.YtmbdcgijjpcppaaGreatV3mm
import Derived.Test.YtmbdcgijjpcppaaGreatMg20
import Derived.Test.YtmbdcgijjpcppaaGreatWSm
import Derived.Test.YtmbdcgijjpcppaaGreatMg15
namespace Go.Proofs.YtmbdcgijjpcppaaGreat
open Go.RowKit Go.Shelf

theorem thr_shape (r0 e0 r1 e1 r2 e2 : Int) : ∃ x y z e : Int, thr r0 e0 r1 e1 r2 e2 = .tuple #[.agg #[.int .i64 x, .int .i64 y, .int .i64 z], .int .i64 e] := by
  unfold thr
  split
  · split
    · split
      · exact ⟨_, _, _, _, rfl⟩
      · exact ⟨_, _, _, _, rfl⟩
    · exact ⟨_, _, _, _, rfl⟩
  · exact ⟨_, _, _, _, rfl⟩
def two6 (a0 a1 a2 b0 b1 b2 : Int) (i j : Nat) : Int := if i = 0 then (if j = 0 then a0 else if j = 1 then a1 else a2) else (if j = 0 then b0 else if j = 1 then b1 else b2)
theorem cells6_at (a0 a1 a2 b0 b1 b2 : Int) (W : World) (n : Nat) (T : TypeId) (hn : W.heap.size = n) : ∀ i, i < 2 → ∀ j, j < 3 → (W.alloc (.cells #[.int .i64 a0, .int .i64 a1, .int .i64 a2, .int .i64 b0, .int .i64 b1, .int .i64 b2] T)).cell? ⟨n, i * 3 + j, none⟩ = some (.int .i64 (two6 a0 a1 a2 b0 b1 b2 i j)) := by
  subst hn
  intro i hi j hj
  have hi' : i = 0 ∨ i = 1 := by omega
  have hj' : j = 0 ∨ j = 1 ∨ j = 2 := by omega
  rcases hi' with rfl | rfl <;> rcases hj' with rfl | rfl | rfl <;> simp [go_sem, two6]
theorem check2_yes (a0 a1 a2 b0 b1 b2 : Int) (W : World) (n : Nat) (T : TypeId) (hn : W.heap.size = n) (h1 : ok3 a0 a1 a2 = true) (h2 : ok3 b0 b1 b2 = true) :
    Calls Tryz.prog 89 #[.slice (some ⟨n, 0, none⟩) 2 2] (W.alloc (.cells #[.int .i64 a0, .int .i64 a1, .int .i64 a2, .int .i64 b0, .int .i64 b1, .int .i64 b2] T)) fun e w' => e = .returned (.int .i64 0) ∧ Ext (W.alloc (.cells #[.int .i64 a0, .int .i64 a1, .int .i64 a2, .int .i64 b0, .int .i64 b1, .int .i64 b2] T)) w' := by
  refine (check_list 2 (two6 a0 a1 a2 b0 b1 b2) n _ (by omega) (cells6_at a0 a1 a2 b0 b1 b2 W n T hn)).mono ?_
  rintro e w1 ⟨⟨r, rfl, hr⟩, x⟩
  rcases hr with ⟨rfl, _⟩ | ⟨_, i, hi, hb⟩
  · exact ⟨rfl, x⟩
  · exfalso
    have hi' : i = 0 ∨ i = 1 := by omega
    rcases hi' with rfl | rfl
    · simp [two6, h1] at hb
    · simp [two6, h2] at hb
theorem check2_no (a0 a1 a2 b0 b1 b2 : Int) (W : World) (n : Nat) (T : TypeId) (hn : W.heap.size = n) (h : (ok3 a0 a1 a2 && ok3 b0 b1 b2) = false) :
    Calls Tryz.prog 89 #[.slice (some ⟨n, 0, none⟩) 2 2] (W.alloc (.cells #[.int .i64 a0, .int .i64 a1, .int .i64 a2, .int .i64 b0, .int .i64 b1, .int .i64 b2] T)) fun e w' => e = .returned (.int .i64 1) ∧ Ext (W.alloc (.cells #[.int .i64 a0, .int .i64 a1, .int .i64 a2, .int .i64 b0, .int .i64 b1, .int .i64 b2] T)) w' := by
  refine (check_list 2 (two6 a0 a1 a2 b0 b1 b2) n _ (by omega) (cells6_at a0 a1 a2 b0 b1 b2 W n T hn)).mono ?_
  rintro e w1 ⟨⟨r, rfl, hr⟩, x⟩
  rcases hr with ⟨rfl, hk⟩ | ⟨rfl, _⟩
  · exfalso
    have h1 := hk 0 (by omega)
    have h2 := hk 1 (by omega)
    simp [two6] at h1 h2
    rw [h1, h2] at h
    cases h
  · exact ⟨rfl, x⟩

set_option maxHeartbeats 2000000 in
theorem pw1_Sub (a b r e0 : Int) (g : Nat) (w : World) (hg : H1 w g (.func (.func 64) #[] #[]))
    (HO : Hid (∀ w', Calls Tryz.prog 64 #[.int .i64 a, .int .i64 b] w' fun e w'' => e = .returned (.tuple #[.int .i64 r, .int .i64 e0]) ∧ Ext w' w'')) :
    Calls Tryz.prog 107 #[.agg #[.int .i64 a, .int .i64 b], .pointer (some ⟨g, 0, none⟩)] w fun e w' => e = .returned (.tuple #[.int .i64 r, .int .i64 e0]) ∧ Ext w w' := by
  obtain ⟨c0, c1, c2⟩ := hg.alloc (.cells #[.int .i64 a, .int .i64 b] 139)
  go_enter Tryz.func107, Tryz.ntmps107
  go_wp2_with fail
  refine (HO.out _).mono ?_
  rintro e w1 ⟨rfl, x1⟩
  go_wp2_with fail
  go_ret2
  exact ⟨rfl, Ext.trans ((Ext.refl _).alloc _) x1⟩

set_option maxRecDepth 20000 in
set_option maxHeartbeats 4000000 in
theorem pairwise_Sub (a0 a1 a2 b0 b1 b2 r0 e0 r1 e1 r2 e2 : Int) (w : World) (h1 : ok3 a0 a1 a2 = true) (h2 : ok3 b0 b1 b2 = true)
    (O0 : Hid (∀ w', Calls Tryz.prog 64 #[.int .i64 a0, .int .i64 b0] w' fun e w'' => e = .returned (.tuple #[.int .i64 r0, .int .i64 e0]) ∧ Ext w' w''))
    (O1 : Hid (∀ w', Calls Tryz.prog 64 #[.int .i64 a1, .int .i64 b1] w' fun e w'' => e = .returned (.tuple #[.int .i64 r1, .int .i64 e1]) ∧ Ext w' w''))
    (O2 : Hid (∀ w', Calls Tryz.prog 64 #[.int .i64 a2, .int .i64 b2] w' fun e w'' => e = .returned (.tuple #[.int .i64 r2, .int .i64 e2]) ∧ Ext w' w'')) :
    Calls Tryz.prog 62 #[.agg #[.int .i64 a0, .int .i64 a1, .int .i64 a2], .agg #[.int .i64 b0, .int .i64 b1, .int .i64 b2], .func (.func 64) #[] #[]] w fun e w' => e = .returned (thr r0 e0 r1 e1 r2 e2) ∧ Ext w w' := by
  have HK : Hid (∀ (W : World) (n : Nat) (T : TypeId), W.heap.size = n → Calls Tryz.prog 89 #[.slice (some ⟨n, 0, none⟩) 2 2] (W.alloc (.cells #[.int .i64 a0, .int .i64 a1, .int .i64 a2, .int .i64 b0, .int .i64 b1, .int .i64 b2] T)) fun e w' => e = .returned (.int .i64 0) ∧ Ext (W.alloc (.cells #[.int .i64 a0, .int .i64 a1, .int .i64 a2, .int .i64 b0, .int .i64 b1, .int .i64 b2] T)) w') := fun W n T hn => check2_yes a0 a1 a2 b0 b1 b2 W n T hn h1 h2
  have HT : Hid (∀ (g : Nat) (w' : World), H1 w' g (.func (.func 64) #[] #[]) → Calls Tryz.prog 106 #[.agg #[.int .i64 a0, .int .i64 b0, .int .i64 a1, .int .i64 b1, .int .i64 a2, .int .i64 b2], .func (.func 107) #[] #[.pointer (some ⟨g, 0, none⟩)]] w' fun e w'' => e = .returned (thr r0 e0 r1 e1 r2 e2) ∧ Ext w' w'') := fun g w' hg => throughM_any a0 b0 a1 b1 a2 b2 r0 e0 r1 e1 r2 e2 g w' (fun w'' hx => pw1_Sub a0 b0 r0 e0 g w'' (hg.ext hx) O0) (fun w'' hx => pw1_Sub a1 b1 r1 e1 g w'' (hg.ext hx) O1) (fun w'' hx => pw1_Sub a2 b2 r2 e2 g w'' (hg.ext hx) O2)
  obtain ⟨x, y, z, e, hr⟩ := thr_shape r0 e0 r1 e1 r2 e2
  rw [hr] at HT ⊢
  clear hr h1 h2 O0 O1 O2
  go_enter Tryz.func62, Tryz.ntmps62
  go_wp2_with fail
  refine (HK.out _ _ _ (by simp)).mono ?_
  rintro e1 w1 ⟨rfl, x1⟩
  have A1 : Hid (H3 w1 w.heap.size (.int .i64 a0) (.int .i64 a1) (.int .i64 a2)) := (H3.alloc (H3.alloc (H3.alloc (H3.alloc (h3_at rfl) _) _) _) _).ext x1
  have B1 : Hid (H3 w1 (w.heap.size + 1) (.int .i64 b0) (.int .i64 b1) (.int .i64 b2)) := (H3.alloc (H3.alloc (H3.alloc (h3_at (by simp)) _) _) _).ext x1
  have G1 : Hid (H1 w1 (w.heap.size + 1 + 1) (.func (.func 64) #[] #[])) := (H1.alloc (H1.alloc (h1_at (by simp)) _) _).ext x1
  have R1 : Hid (H3 w1 (w.heap.size + 1 + 1 + 1) (.int .i64 0) (.int .i64 0) (.int .i64 0)) := (H3.alloc (h3_at (by simp)) _).ext x1
  have X1 : Ext w w1 := Ext.trans (((((Ext.refl _).alloc _).alloc _).alloc _).alloc _ |>.alloc _) x1
  clear x1
  obtain ⟨p0, p1, p2, p3, p4, p5, p6⟩ := A1.out
  obtain ⟨q0, q1, q2, q3, q4, q5, q6⟩ := B1.out
  go_wp2_with fail
  refine wp_loop_rounds 4 ?_
  rw [rounds_succ]
  go_wp2_with fail
  go_region
  go_wp2_with fail
  rw [rounds_succ]
  go_wp2_with fail
  go_region
  go_wp2_with fail
  rw [rounds_succ]
  go_wp2_with fail
  go_region
  go_wp2_with fail
  rw [rounds_succ]
  go_wp2_with fail
  refine (HT.out _ _ (G1.out.ext (by repeat (first | with_reducible assumption | with_reducible exact Ext.refl _ | with_reducible refine Ext.drew ?_ | with_reducible refine Ext.drewN ?_ _ | with_reducible refine Ext.alloc ?_ _ | with_reducible refine Ext.set ?_ (by first | exact Nat.le_refl _ | (dsimp only; omega) | (simp; done)) _)))).mono ?_
  rintro e2 w2 ⟨rfl, x2⟩
  have Y2 : Ext w1 w2 := Ext.trans (by repeat (first | with_reducible assumption | with_reducible exact Ext.refl _ | with_reducible refine Ext.drew ?_ | with_reducible refine Ext.drewN ?_ _ | with_reducible refine Ext.alloc ?_ _ | with_reducible refine Ext.set ?_ (by first | exact Nat.le_refl _ | (dsimp only; omega) | (simp; done)) _)) x2
  have X2 : Ext w w2 := X1.trans Y2
  obtain ⟨m0, m1, m2, m3, m4, m5, m6⟩ := R1.out.ext Y2
  clear x2 Y2 p0 p1 p2 p3 p4 p5 p6 q0 q1 q2 q3 q4 q5 q6 X1
  go_wp2_with fail
  exact bodyPost_ret (v := .tuple #[.agg #[.int .i64 x, .int .i64 y, .int .i64 z], .int .i64 e]) (by simp [results, Tryz.results62, go_sem, m0, m1, m2]) rfl ⟨rfl, by repeat (first | with_reducible assumption | with_reducible exact Ext.refl _ | with_reducible refine Ext.drew ?_ | with_reducible refine Ext.drewN ?_ _ | with_reducible refine Ext.alloc ?_ _ | with_reducible refine Ext.set ?_ (by first | exact Nat.le_refl _ | (dsimp only; omega) | (simp; done)) _)⟩

set_option maxRecDepth 20000 in
set_option maxHeartbeats 4000000 in
theorem pairwise_Sub_no (a0 a1 a2 b0 b1 b2 : Int) (w : World) (h : (ok3 a0 a1 a2 && ok3 b0 b1 b2) = false) :
    Calls Tryz.prog 62 #[.agg #[.int .i64 a0, .int .i64 a1, .int .i64 a2], .agg #[.int .i64 b0, .int .i64 b1, .int .i64 b2], .func (.func 64) #[] #[]] w fun e w' => e = .returned (.tuple #[.agg #[.int .i64 0, .int .i64 0, .int .i64 0], .int .i64 1]) ∧ Ext w w' := by
  have HK : Hid (∀ (W : World) (n : Nat) (T : TypeId), W.heap.size = n → Calls Tryz.prog 89 #[.slice (some ⟨n, 0, none⟩) 2 2] (W.alloc (.cells #[.int .i64 a0, .int .i64 a1, .int .i64 a2, .int .i64 b0, .int .i64 b1, .int .i64 b2] T)) fun e w' => e = .returned (.int .i64 1) ∧ Ext (W.alloc (.cells #[.int .i64 a0, .int .i64 a1, .int .i64 a2, .int .i64 b0, .int .i64 b1, .int .i64 b2] T)) w') := fun W n T hn => check2_no a0 a1 a2 b0 b1 b2 W n T hn h
  clear h
  go_enter Tryz.func62, Tryz.ntmps62
  go_wp2_with fail
  refine (HK.out _ _ _ (by simp)).mono ?_
  rintro e1 w1 ⟨rfl, x1⟩
  obtain ⟨m0, m1, m2, m3, m4, m5, m6⟩ : H3 w1 (w.heap.size + 1 + 1 + 1) (.int .i64 0) (.int .i64 0) (.int .i64 0) := (H3.alloc (h3_at (by simp)) _).ext x1
  have X1 : Ext w w1 := Ext.trans (((((Ext.refl _).alloc _).alloc _).alloc _).alloc _ |>.alloc _) x1
  clear x1
  go_wp2_with fail
  exact bodyPost_ret (v := .tuple #[.agg #[.int .i64 0, .int .i64 0, .int .i64 0], .int .i64 1]) (by simp [results, Tryz.results62, go_sem, m0, m1, m2]) rfl ⟨rfl, by repeat (first | with_reducible assumption | with_reducible exact Ext.refl _ | with_reducible refine Ext.drew ?_ | with_reducible refine Ext.drewN ?_ _ | with_reducible refine Ext.alloc ?_ _ | with_reducible refine Ext.set ?_ (by first | exact Nat.le_refl _ | (dsimp only; omega) | (simp; done)) _)⟩

set_option maxHeartbeats 2000000 in
theorem pw1_Mul (a b r e0 : Int) (g : Nat) (w : World) (hg : H1 w g (.func (.func 102) #[] #[]))
    (HO : Hid (∀ w', Calls Tryz.prog 102 #[.int .i64 a, .int .i64 b] w' fun e w'' => e = .returned (.tuple #[.int .i64 r, .int .i64 e0]) ∧ Ext w' w'')) :
    Calls Tryz.prog 107 #[.agg #[.int .i64 a, .int .i64 b], .pointer (some ⟨g, 0, none⟩)] w fun e w' => e = .returned (.tuple #[.int .i64 r, .int .i64 e0]) ∧ Ext w w' := by
  obtain ⟨c0, c1, c2⟩ := hg.alloc (.cells #[.int .i64 a, .int .i64 b] 139)
  go_enter Tryz.func107, Tryz.ntmps107
  go_wp2_with fail
  refine (HO.out _).mono ?_
  rintro e w1 ⟨rfl, x1⟩
  go_wp2_with fail
  go_ret2
  exact ⟨rfl, Ext.trans ((Ext.refl _).alloc _) x1⟩

set_option maxRecDepth 20000 in
set_option maxHeartbeats 4000000 in
theorem pairwise_Mul (a0 a1 a2 b0 b1 b2 r0 e0 r1 e1 r2 e2 : Int) (w : World) (h1 : ok3 a0 a1 a2 = true) (h2 : ok3 b0 b1 b2 = true)
    (O0 : Hid (∀ w', Calls Tryz.prog 102 #[.int .i64 a0, .int .i64 b0] w' fun e w'' => e = .returned (.tuple #[.int .i64 r0, .int .i64 e0]) ∧ Ext w' w''))
    (O1 : Hid (∀ w', Calls Tryz.prog 102 #[.int .i64 a1, .int .i64 b1] w' fun e w'' => e = .returned (.tuple #[.int .i64 r1, .int .i64 e1]) ∧ Ext w' w''))
    (O2 : Hid (∀ w', Calls Tryz.prog 102 #[.int .i64 a2, .int .i64 b2] w' fun e w'' => e = .returned (.tuple #[.int .i64 r2, .int .i64 e2]) ∧ Ext w' w'')) :
    Calls Tryz.prog 62 #[.agg #[.int .i64 a0, .int .i64 a1, .int .i64 a2], .agg #[.int .i64 b0, .int .i64 b1, .int .i64 b2], .func (.func 102) #[] #[]] w fun e w' => e = .returned (thr r0 e0 r1 e1 r2 e2) ∧ Ext w w' := by
  have HK : Hid (∀ (W : World) (n : Nat) (T : TypeId), W.heap.size = n → Calls Tryz.prog 89 #[.slice (some ⟨n, 0, none⟩) 2 2] (W.alloc (.cells #[.int .i64 a0, .int .i64 a1, .int .i64 a2, .int .i64 b0, .int .i64 b1, .int .i64 b2] T)) fun e w' => e = .returned (.int .i64 0) ∧ Ext (W.alloc (.cells #[.int .i64 a0, .int .i64 a1, .int .i64 a2, .int .i64 b0, .int .i64 b1, .int .i64 b2] T)) w') := fun W n T hn => check2_yes a0 a1 a2 b0 b1 b2 W n T hn h1 h2
  have HT : Hid (∀ (g : Nat) (w' : World), H1 w' g (.func (.func 102) #[] #[]) → Calls Tryz.prog 106 #[.agg #[.int .i64 a0, .int .i64 b0, .int .i64 a1, .int .i64 b1, .int .i64 a2, .int .i64 b2], .func (.func 107) #[] #[.pointer (some ⟨g, 0, none⟩)]] w' fun e w'' => e = .returned (thr r0 e0 r1 e1 r2 e2) ∧ Ext w' w'') := fun g w' hg => throughM_any a0 b0 a1 b1 a2 b2 r0 e0 r1 e1 r2 e2 g w' (fun w'' hx => pw1_Mul a0 b0 r0 e0 g w'' (hg.ext hx) O0) (fun w'' hx => pw1_Mul a1 b1 r1 e1 g w'' (hg.ext hx) O1) (fun w'' hx => pw1_Mul a2 b2 r2 e2 g w'' (hg.ext hx) O2)
  obtain ⟨x, y, z, e, hr⟩ := thr_shape r0 e0 r1 e1 r2 e2
  rw [hr] at HT ⊢
  clear hr h1 h2 O0 O1 O2
  go_enter Tryz.func62, Tryz.ntmps62
  go_wp2_with fail
  refine (HK.out _ _ _ (by simp)).mono ?_
  rintro e1 w1 ⟨rfl, x1⟩
  have A1 : Hid (H3 w1 w.heap.size (.int .i64 a0) (.int .i64 a1) (.int .i64 a2)) := (H3.alloc (H3.alloc (H3.alloc (H3.alloc (h3_at rfl) _) _) _) _).ext x1
  have B1 : Hid (H3 w1 (w.heap.size + 1) (.int .i64 b0) (.int .i64 b1) (.int .i64 b2)) := (H3.alloc (H3.alloc (H3.alloc (h3_at (by simp)) _) _) _).ext x1
  have G1 : Hid (H1 w1 (w.heap.size + 1 + 1) (.func (.func 102) #[] #[])) := (H1.alloc (H1.alloc (h1_at (by simp)) _) _).ext x1
  have R1 : Hid (H3 w1 (w.heap.size + 1 + 1 + 1) (.int .i64 0) (.int .i64 0) (.int .i64 0)) := (H3.alloc (h3_at (by simp)) _).ext x1
  have X1 : Ext w w1 := Ext.trans (((((Ext.refl _).alloc _).alloc _).alloc _).alloc _ |>.alloc _) x1
  clear x1
  obtain ⟨p0, p1, p2, p3, p4, p5, p6⟩ := A1.out
  obtain ⟨q0, q1, q2, q3, q4, q5, q6⟩ := B1.out
  go_wp2_with fail
  refine wp_loop_rounds 4 ?_
  rw [rounds_succ]
  go_wp2_with fail
  go_region
  go_wp2_with fail
  rw [rounds_succ]
  go_wp2_with fail
  go_region
  go_wp2_with fail
  rw [rounds_succ]
  go_wp2_with fail
  go_region
  go_wp2_with fail
  rw [rounds_succ]
  go_wp2_with fail
  refine (HT.out _ _ (G1.out.ext (by repeat (first | with_reducible assumption | with_reducible exact Ext.refl _ | with_reducible refine Ext.drew ?_ | with_reducible refine Ext.drewN ?_ _ | with_reducible refine Ext.alloc ?_ _ | with_reducible refine Ext.set ?_ (by first | exact Nat.le_refl _ | (dsimp only; omega) | (simp; done)) _)))).mono ?_
  rintro e2 w2 ⟨rfl, x2⟩
  have Y2 : Ext w1 w2 := Ext.trans (by repeat (first | with_reducible assumption | with_reducible exact Ext.refl _ | with_reducible refine Ext.drew ?_ | with_reducible refine Ext.drewN ?_ _ | with_reducible refine Ext.alloc ?_ _ | with_reducible refine Ext.set ?_ (by first | exact Nat.le_refl _ | (dsimp only; omega) | (simp; done)) _)) x2
  have X2 : Ext w w2 := X1.trans Y2
  obtain ⟨m0, m1, m2, m3, m4, m5, m6⟩ := R1.out.ext Y2
  clear x2 Y2 p0 p1 p2 p3 p4 p5 p6 q0 q1 q2 q3 q4 q5 q6 X1
  go_wp2_with fail
  exact bodyPost_ret (v := .tuple #[.agg #[.int .i64 x, .int .i64 y, .int .i64 z], .int .i64 e]) (by simp [results, Tryz.results62, go_sem, m0, m1, m2]) rfl ⟨rfl, by repeat (first | with_reducible assumption | with_reducible exact Ext.refl _ | with_reducible refine Ext.drew ?_ | with_reducible refine Ext.drewN ?_ _ | with_reducible refine Ext.alloc ?_ _ | with_reducible refine Ext.set ?_ (by first | exact Nat.le_refl _ | (dsimp only; omega) | (simp; done)) _)⟩

set_option maxRecDepth 20000 in
set_option maxHeartbeats 4000000 in
theorem pairwise_Mul_no (a0 a1 a2 b0 b1 b2 : Int) (w : World) (h : (ok3 a0 a1 a2 && ok3 b0 b1 b2) = false) :
    Calls Tryz.prog 62 #[.agg #[.int .i64 a0, .int .i64 a1, .int .i64 a2], .agg #[.int .i64 b0, .int .i64 b1, .int .i64 b2], .func (.func 102) #[] #[]] w fun e w' => e = .returned (.tuple #[.agg #[.int .i64 0, .int .i64 0, .int .i64 0], .int .i64 1]) ∧ Ext w w' := by
  have HK : Hid (∀ (W : World) (n : Nat) (T : TypeId), W.heap.size = n → Calls Tryz.prog 89 #[.slice (some ⟨n, 0, none⟩) 2 2] (W.alloc (.cells #[.int .i64 a0, .int .i64 a1, .int .i64 a2, .int .i64 b0, .int .i64 b1, .int .i64 b2] T)) fun e w' => e = .returned (.int .i64 1) ∧ Ext (W.alloc (.cells #[.int .i64 a0, .int .i64 a1, .int .i64 a2, .int .i64 b0, .int .i64 b1, .int .i64 b2] T)) w') := fun W n T hn => check2_no a0 a1 a2 b0 b1 b2 W n T hn h
  clear h
  go_enter Tryz.func62, Tryz.ntmps62
  go_wp2_with fail
  refine (HK.out _ _ _ (by simp)).mono ?_
  rintro e1 w1 ⟨rfl, x1⟩
  obtain ⟨m0, m1, m2, m3, m4, m5, m6⟩ : H3 w1 (w.heap.size + 1 + 1 + 1) (.int .i64 0) (.int .i64 0) (.int .i64 0) := (H3.alloc (h3_at (by simp)) _).ext x1
  have X1 : Ext w w1 := Ext.trans (((((Ext.refl _).alloc _).alloc _).alloc _).alloc _ |>.alloc _) x1
  clear x1
  go_wp2_with fail
  exact bodyPost_ret (v := .tuple #[.agg #[.int .i64 0, .int .i64 0, .int .i64 0], .int .i64 1]) (by simp [results, Tryz.results62, go_sem, m0, m1, m2]) rfl ⟨rfl, by repeat (first | with_reducible assumption | with_reducible exact Ext.refl _ | with_reducible refine Ext.drew ?_ | with_reducible refine Ext.drewN ?_ _ | with_reducible refine Ext.alloc ?_ _ | with_reducible refine Ext.set ?_ (by first | exact Nat.le_refl _ | (dsimp only; omega) | (simp; done)) _)⟩
end Go.Proofs.YtmbdcgijjpcppaaGreat

namespace Go.Proofs.YtmbdcgijjpcppaaGreat
open Go.RowKit Go.Shelf

theorem word64 {a : Int} (h : okW a = true) : -9223372036854775808 ≤ a ∧ a ≤ 9223372036854775807 := by
  have := okW_bounds h; omega
theorem sum3_any (A B : Nat) (x0 x1 x2 y0 y1 y2 : Int) (w : World) (hA : H3 w A (.int .i64 x0) (.int .i64 x1) (.int .i64 x2)) (hB : H3 w B (.int .i64 y0) (.int .i64 y1) (.int .i64 y2))
    (hx0 : -9223372036854775808 ≤ x0 ∧ x0 ≤ 9223372036854775807) (hx1 : -9223372036854775808 ≤ x1 ∧ x1 ≤ 9223372036854775807) (hx2 : -9223372036854775808 ≤ x2 ∧ x2 ≤ 9223372036854775807) (hy0 : -9223372036854775808 ≤ y0 ∧ y0 ≤ 9223372036854775807) (hy1 : -9223372036854775808 ≤ y1 ∧ y1 ≤ 9223372036854775807) (hy2 : -9223372036854775808 ≤ y2 ∧ y2 ≤ 9223372036854775807) :
    Calls Tryz.prog 167 #[.slice (some ⟨A, 0, none⟩) 3 3, .slice (some ⟨B, 0, none⟩) 3 3, .func (.func 131) #[] #[]] w fun e w' => (∃ r, e = .returned r ∧ IsW r (x0 * y0 + x1 * y1 + x2 * y2)) ∧ Ext w w' := by
  obtain ⟨c0, c1, c2, f0, f1, f2, hb⟩ := hA
  obtain ⟨d0, d1, d2, g0, g1, g2, hc⟩ := hB
  have h := sum64_raw 3 A B (fun i => if i = 0 then x0 else if i = 1 then x1 else x2) (fun i => if i = 0 then y0 else if i = 1 then y1 else y2) (fun i => if i = 0 then x0 * y0 else if i = 1 then x1 * y1 else x2 * y2) w (by omega) (fun i hi => by
    obtain rfl | rfl | rfl : i = 0 ∨ i = 1 ∨ i = 2 := by omega
    · exact ⟨c0, hb⟩
    · exact ⟨c1, hb⟩
    · exact ⟨c2, hb⟩) (fun i hi => by
    obtain rfl | rfl | rfl : i = 0 ∨ i = 1 ∨ i = 2 := by omega
    · exact ⟨d0, hc⟩
    · exact ⟨d1, hc⟩
    · exact ⟨d2, hc⟩) (fun i w' hi => by
    obtain rfl | rfl | rfl : i = 0 ∨ i = 1 ∨ i = 2 := by omega
    · exact productw_any x0 y0 w' hx0.1 hx0.2 hy0.1 hy0.2
    · exact productw_any x1 y1 w' hx1.1 hx1.2 hy1.1 hy1.2
    · exact productw_any x2 y2 w' hx2.1 hx2.2 hy2.1 hy2.2) (fun u v p q w' hu hv => plus_any p q u v w' hu hv)
  have e : sumTo (fun i => if i = 0 then x0 * y0 else if i = 1 then x1 * y1 else x2 * y2) 3 = x0 * y0 + x1 * y1 + x2 * y2 := by
    simp [sumTo]
  rw [e] at h
  exact h
set_option maxRecDepth 20000 in
set_option maxHeartbeats 4000000 in
theorem sum_raw (a0 a1 a2 b0 b1 b2 z : Int) (w : World)
    (HS : Hid (∀ A B w', H3 w' A (.int .i64 a0) (.int .i64 a1) (.int .i64 a2) → H3 w' B (.int .i64 b0) (.int .i64 b1) (.int .i64 b2) → Calls Tryz.prog 167 #[.slice (some ⟨A, 0, none⟩) 3 3, .slice (some ⟨B, 0, none⟩) 3 3, .func (.func 131) #[] #[]] w' fun e w'' => (∃ r, e = .returned r ∧ IsW r z) ∧ Ext w' w'')) :
    Calls Tryz.prog 158 #[.agg #[.int .i64 a0, .int .i64 a1, .int .i64 a2], .agg #[.int .i64 b0, .int .i64 b1, .int .i64 b2]] w fun e w' => (∃ r, e = .returned r ∧ IsW r z) ∧ Ext w w' := by
  go_enter Tryz.func158, Tryz.ntmps158
  go_wp2_with fail
  go_region_with (go_at_call 167; refine (HS.out _ _ _ (H3.drew (H3.alloc (H3.alloc (h3_at rfl) _) _)) (H3.drew (H3.alloc (h3_at (by simp)) _))).mono ?_; rintro e w1 ⟨⟨u, rfl, m0, m1, m2, rfl, hr⟩, x1⟩; have HRr : Hid _ := hr; clear hr; obtain ⟨c0, c1, c2, c3, c4, c5, c6⟩ : H3 w1 (w.heap.size + 1 + 1) (.int .u64 0) (.int .u64 0) (.int .u64 0) := (H3.drew (h3_at (by simp))).ext x1; have X1 : Ext w w1 := Ext.trans (by repeat (first | with_reducible assumption | with_reducible exact Ext.refl _ | with_reducible refine Ext.drew ?_ | with_reducible refine Ext.drewN ?_ _ | with_reducible refine Ext.alloc ?_ _ | with_reducible refine Ext.set ?_ (by first | exact Nat.le_refl _ | (dsimp only; omega) | (simp; done)) _)) x1; clear x1)
  all_goals
    go_wp2_with fail
    exact bodyPost_ret (v := .agg #[.int .u64 m0, .int .u64 m1, .int .u64 m2]) (by simp [results, Tryz.results158, go_sem, c0, c1, c2]) rfl ⟨⟨_, rfl, _, _, _, rfl, HRr.out⟩, by repeat (first | with_reducible assumption | with_reducible exact Ext.refl _ | with_reducible refine Ext.drew ?_ | with_reducible refine Ext.drewN ?_ _ | with_reducible refine Ext.alloc ?_ _ | with_reducible refine Ext.set ?_ (by first | exact Nat.le_refl _ | (dsimp only; omega) | (simp; done)) _)⟩
theorem sum_any (a0 a1 a2 b0 b1 b2 : Int) (w : World) (h0 : okW a0 = true) (h1 : okW a1 = true) (h2 : okW a2 = true) (k0 : okW b0 = true) (k1 : okW b1 = true) (k2 : okW b2 = true) :
    Calls Tryz.prog 158 #[.agg #[.int .i64 a0, .int .i64 a1, .int .i64 a2], .agg #[.int .i64 b0, .int .i64 b1, .int .i64 b2]] w fun e w' => (∃ r, e = .returned r ∧ IsW r (a0 * b0 + a1 * b1 + a2 * b2)) ∧ Ext w w' :=
  sum_raw a0 a1 a2 b0 b1 b2 _ w (fun A B w' hA hB => sum3_any A B a0 a1 a2 b0 b1 b2 w' hA hB (word64 h0) (word64 h1) (word64 h2) (word64 k0) (word64 k1) (word64 k2))
end Go.Proofs.YtmbdcgijjpcppaaGreat

namespace Go.Proofs.YtmbdcgijjpcppaaGreat
open Go.RowKit Go.Shelf

theorem prod_abs {a b : Int} (h : okW a = true) (k : okW b = true) : -1237940039285380274899124224 < a * b ∧ a * b < 1237940039285380274899124224 := by
  have := okW_bounds h
  have := okW_bounds k
  have e := Int.natAbs_mul a b
  have h1 : a.natAbs * b.natAbs ≤ 35184372088831 * 35184372088831 := Nat.mul_le_mul (by omega) (by omega)
  omega
/-- the sum of products -/
def dot3 (a0 a1 a2 b0 b1 b2 : Int) : Int := a0 * b0 + a1 * b1 + a2 * b2
theorem nearQ_spec (z : Int) : IsNear z 1073741824 (nearQ z) := by
  unfold IsNear nearQ oddQ
  omega
theorem nearQ_I (z : Int) : nearQ z = nearI z 1073741824 := (nearQ_spec z).unique (by omega) (nearI_spec z _ (by omega))

set_option maxHeartbeats 2000000 in
theorem inQ30_any (a0 a1 a2 b0 b1 b2 : Int) (w : World) (h0 : okW a0 = true) (h1 : okW a1 = true) (h2 : okW a2 = true) (k0 : okW b0 = true) (k1 : okW b1 = true) (k2 : okW b2 = true) :
    Calls Tryz.prog 165 #[.agg #[.int .i64 a0, .int .i64 a1, .int .i64 a2], .agg #[.int .i64 b0, .int .i64 b1, .int .i64 b2]] w fun e w' => e = .returned (.tuple #[.int .i64 (fitR (nearQ (dot3 a0 a1 a2 b0 b1 b2))).1, .int .i64 (fitR (nearQ (dot3 a0 a1 a2 b0 b1 b2))).2]) ∧ Ext w w' := by
  have p0 := prod_abs h0 k0
  have p1 := prod_abs h1 k1
  have p2 := prod_abs h2 k2
  have HS : Hid (∀ w', Calls Tryz.prog 158 #[.agg #[.int .i64 a0, .int .i64 a1, .int .i64 a2], .agg #[.int .i64 b0, .int .i64 b1, .int .i64 b2]] w' fun e w'' => (∃ r, e = .returned r ∧ IsW r (dot3 a0 a1 a2 b0 b1 b2)) ∧ Ext w' w'') := fun w' => sum_any a0 a1 a2 b0 b1 b2 w' h0 h1 h2 k0 k1 k2
  have HN : Hid (∀ u w', IsW u (dot3 a0 a1 a2 b0 b1 b2) → Calls Tryz.prog 169 #[u, .int .i64 30] w' fun e w'' => (∃ r, e = .returned r ∧ IsW r (nearQ (dot3 a0 a1 a2 b0 b1 b2))) ∧ Ext w' w'') := fun u w' hu => nearestw_any _ u w' hu (by unfold InW dot3; omega) (by unfold InW dot3; omega)
  have HW : Hid (∀ u w', IsW u (nearQ (dot3 a0 a1 a2 b0 b1 b2)) → Calls Tryz.prog 160 #[u] w' fun e w'' => e = .returned (.tuple #[.int .i64 (fitR (nearQ (dot3 a0 a1 a2 b0 b1 b2))).1, .int .i64 (fitR (nearQ (dot3 a0 a1 a2 b0 b1 b2))).2]) ∧ Ext w' w'') := fun u w' hu => wordw_any _ u w' hu (by
    have hn := nearQ_spec (dot3 a0 a1 a2 b0 b1 b2)
    unfold IsNear at hn
    unfold dot3 at hn ⊢
    unfold InW
    omega)
  clear p0 p1 p2 h0 h1 h2 k0 k1 k2
  generalize dot3 a0 a1 a2 b0 b1 b2 = D at *
  generalize nearQ D = N at *
  generalize (fitR N).1 = o1 at *
  generalize (fitR N).2 = o2 at *
  go_enter Tryz.func165, Tryz.ntmps165
  go_wp2_with fail
  refine (HS.out _).mono ?_
  rintro e w1 ⟨⟨u1, rfl, hu1⟩, x1⟩
  go_wp2_with fail
  refine (HN.out _ _ hu1).mono ?_
  rintro e w2 ⟨⟨u2, rfl, hu2⟩, x2⟩
  go_wp2_with fail
  refine (HW.out _ _ hu2).mono ?_
  rintro e w3 ⟨rfl, x3⟩
  go_wp2_with fail
  go_ret2
  exact ⟨rfl, ((Ext.trans (((Ext.refl _).alloc _).alloc _) x1).trans x2).trans x3⟩
end Go.Proofs.YtmbdcgijjpcppaaGreat
