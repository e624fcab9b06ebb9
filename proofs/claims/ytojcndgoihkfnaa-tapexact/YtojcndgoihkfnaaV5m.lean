/- vec: pairwise. -/
import Derived.Test.YtojcndgoihkfnaaMg7
import Derived.Test.YtojcndgoihkfnaaV3mm
namespace Go.Proofs.Ytojcndgoihkfnaa
open Go.RowKit Go.Shelf

theorem thr_shape (r0 e0 r1 e1 r2 e2 : Int) : ∃ x y z e : Int, thr r0 e0 r1 e1 r2 e2 = .tuple #[.agg #[.int .i64 x, .int .i64 y, .int .i64 z], .int .i64 e] := by
  unfold thr
  split
  · split
    · split
      · exact ⟨_, _, _, _, rfl⟩
      · exact ⟨_, _, _, _, rfl⟩
    · exact ⟨_, _, _, _, rfl⟩
  · exact ⟨_, _, _, _, rfl⟩
def two6 (a0 a1 a2 b0 b1 b2 : Int) (i j : Nat) : Int := if i = 0 then (if j = 0 then a0 else if j = 1 then a1 else a2) else (if j = 0 then b0 else if j = 1 then b1 else b2)
theorem cells6_at (a0 a1 a2 b0 b1 b2 : Int) (W : World) (n : Nat) (T : TypeId) (hn : W.heap.size = n) : ∀ i, i < 2 → ∀ j, j < 3 → (W.alloc (.cells #[.int .i64 a0, .int .i64 a1, .int .i64 a2, .int .i64 b0, .int .i64 b1, .int .i64 b2] T)).cell? ⟨n, i * 3 + j, none⟩ = some (.int .i64 (two6 a0 a1 a2 b0 b1 b2 i j)) := by
  subst hn
  intro i hi j hj
  have hi' : i = 0 ∨ i = 1 := by omega
  have hj' : j = 0 ∨ j = 1 ∨ j = 2 := by omega
  rcases hi' with rfl | rfl <;> rcases hj' with rfl | rfl | rfl <;> simp [go_sem, two6]
theorem check2_yes (a0 a1 a2 b0 b1 b2 : Int) (W : World) (n : Nat) (T : TypeId) (hn : W.heap.size = n) (h1 : ok3 a0 a1 a2 = true) (h2 : ok3 b0 b1 b2 = true) :
    Calls Try.prog 27 #[.slice (some ⟨n, 0, none⟩) 2 2] (W.alloc (.cells #[.int .i64 a0, .int .i64 a1, .int .i64 a2, .int .i64 b0, .int .i64 b1, .int .i64 b2] T)) fun e w' => e = .returned (.int .i64 0) ∧ Ext (W.alloc (.cells #[.int .i64 a0, .int .i64 a1, .int .i64 a2, .int .i64 b0, .int .i64 b1, .int .i64 b2] T)) w' := by
  refine (check_list 2 (two6 a0 a1 a2 b0 b1 b2) n _ (by omega) (cells6_at a0 a1 a2 b0 b1 b2 W n T hn)).mono ?_
  rintro e w1 ⟨⟨r, rfl, hr⟩, x⟩
  rcases hr with ⟨rfl, _⟩ | ⟨_, i, hi, hb⟩
  · exact ⟨rfl, x⟩
  · exfalso
    have hi' : i = 0 ∨ i = 1 := by omega
    rcases hi' with rfl | rfl
    · simp [two6, h1] at hb
    · simp [two6, h2] at hb
theorem check2_no (a0 a1 a2 b0 b1 b2 : Int) (W : World) (n : Nat) (T : TypeId) (hn : W.heap.size = n) (h : (ok3 a0 a1 a2 && ok3 b0 b1 b2) = false) :
    Calls Try.prog 27 #[.slice (some ⟨n, 0, none⟩) 2 2] (W.alloc (.cells #[.int .i64 a0, .int .i64 a1, .int .i64 a2, .int .i64 b0, .int .i64 b1, .int .i64 b2] T)) fun e w' => e = .returned (.int .i64 1) ∧ Ext (W.alloc (.cells #[.int .i64 a0, .int .i64 a1, .int .i64 a2, .int .i64 b0, .int .i64 b1, .int .i64 b2] T)) w' := by
  refine (check_list 2 (two6 a0 a1 a2 b0 b1 b2) n _ (by omega) (cells6_at a0 a1 a2 b0 b1 b2 W n T hn)).mono ?_
  rintro e w1 ⟨⟨r, rfl, hr⟩, x⟩
  rcases hr with ⟨rfl, hk⟩ | ⟨rfl, _⟩
  · exfalso
    have h1 := hk 0 (by omega)
    have h2 := hk 1 (by omega)
    simp [two6] at h1 h2
    rw [h1, h2] at h
    cases h
  · exact ⟨rfl, x⟩

set_option maxHeartbeats 2000000 in
theorem pw1_Sub (a b r e0 : Int) (g : Nat) (w : World) (hg : H1 w g (.func (.func 39) #[] #[]))
    (HO : Hid (∀ w', Calls Try.prog 39 #[.int .i64 a, .int .i64 b] w' fun e w'' => e = .returned (.tuple #[.int .i64 r, .int .i64 e0]) ∧ Ext w' w'')) :
    Calls Try.prog 53 #[.agg #[.int .i64 a, .int .i64 b], .pointer (some ⟨g, 0, none⟩)] w fun e w' => e = .returned (.tuple #[.int .i64 r, .int .i64 e0]) ∧ Ext w w' := by
  obtain ⟨c0, c1, c2⟩ := hg.alloc (.cells #[.int .i64 a, .int .i64 b] 93)
  go_enter Try.func53, Try.ntmps53
  go_wp2_with fail
  refine (HO.out _).mono ?_
  rintro e w1 ⟨rfl, x1⟩
  go_wp2_with fail
  go_ret2
  exact ⟨rfl, Ext.trans ((Ext.refl _).alloc _) x1⟩

set_option maxRecDepth 20000 in
set_option maxHeartbeats 4000000 in
theorem pairwise_Sub (a0 a1 a2 b0 b1 b2 r0 e0 r1 e1 r2 e2 : Int) (w : World) (h1 : ok3 a0 a1 a2 = true) (h2 : ok3 b0 b1 b2 = true)
    (O0 : Hid (∀ w', Calls Try.prog 39 #[.int .i64 a0, .int .i64 b0] w' fun e w'' => e = .returned (.tuple #[.int .i64 r0, .int .i64 e0]) ∧ Ext w' w''))
    (O1 : Hid (∀ w', Calls Try.prog 39 #[.int .i64 a1, .int .i64 b1] w' fun e w'' => e = .returned (.tuple #[.int .i64 r1, .int .i64 e1]) ∧ Ext w' w''))
    (O2 : Hid (∀ w', Calls Try.prog 39 #[.int .i64 a2, .int .i64 b2] w' fun e w'' => e = .returned (.tuple #[.int .i64 r2, .int .i64 e2]) ∧ Ext w' w'')) :
    Calls Try.prog 38 #[.agg #[.int .i64 a0, .int .i64 a1, .int .i64 a2], .agg #[.int .i64 b0, .int .i64 b1, .int .i64 b2], .func (.func 39) #[] #[]] w fun e w' => e = .returned (thr r0 e0 r1 e1 r2 e2) ∧ Ext w w' := by
  have HK : Hid (∀ (W : World) (n : Nat) (T : TypeId), W.heap.size = n → Calls Try.prog 27 #[.slice (some ⟨n, 0, none⟩) 2 2] (W.alloc (.cells #[.int .i64 a0, .int .i64 a1, .int .i64 a2, .int .i64 b0, .int .i64 b1, .int .i64 b2] T)) fun e w' => e = .returned (.int .i64 0) ∧ Ext (W.alloc (.cells #[.int .i64 a0, .int .i64 a1, .int .i64 a2, .int .i64 b0, .int .i64 b1, .int .i64 b2] T)) w') := fun W n T hn => check2_yes a0 a1 a2 b0 b1 b2 W n T hn h1 h2
  have HT : Hid (∀ (g : Nat) (w' : World), H1 w' g (.func (.func 39) #[] #[]) → Calls Try.prog 52 #[.agg #[.int .i64 a0, .int .i64 b0, .int .i64 a1, .int .i64 b1, .int .i64 a2, .int .i64 b2], .func (.func 53) #[] #[.pointer (some ⟨g, 0, none⟩)]] w' fun e w'' => e = .returned (thr r0 e0 r1 e1 r2 e2) ∧ Ext w' w'') := fun g w' hg => throughM_any a0 b0 a1 b1 a2 b2 r0 e0 r1 e1 r2 e2 g w' (fun w'' hx => pw1_Sub a0 b0 r0 e0 g w'' (hg.ext hx) O0) (fun w'' hx => pw1_Sub a1 b1 r1 e1 g w'' (hg.ext hx) O1) (fun w'' hx => pw1_Sub a2 b2 r2 e2 g w'' (hg.ext hx) O2)
  obtain ⟨x, y, z, e, hr⟩ := thr_shape r0 e0 r1 e1 r2 e2
  rw [hr] at HT ⊢
  clear hr h1 h2 O0 O1 O2
  go_enter Try.func38, Try.ntmps38
  go_wp2_with fail
  refine (HK.out _ _ _ (by simp)).mono ?_
  rintro e1 w1 ⟨rfl, x1⟩
  have A1 : Hid (H3 w1 w.heap.size (.int .i64 a0) (.int .i64 a1) (.int .i64 a2)) := (H3.alloc (H3.alloc (H3.alloc (H3.alloc (h3_at rfl) _) _) _) _).ext x1
  have B1 : Hid (H3 w1 (w.heap.size + 1) (.int .i64 b0) (.int .i64 b1) (.int .i64 b2)) := (H3.alloc (H3.alloc (H3.alloc (h3_at (by simp)) _) _) _).ext x1
  have G1 : Hid (H1 w1 (w.heap.size + 1 + 1) (.func (.func 39) #[] #[])) := (H1.alloc (H1.alloc (h1_at (by simp)) _) _).ext x1
  have R1 : Hid (H3 w1 (w.heap.size + 1 + 1 + 1) (.int .i64 0) (.int .i64 0) (.int .i64 0)) := (H3.alloc (h3_at (by simp)) _).ext x1
  have X1 : Ext w w1 := Ext.trans (((((Ext.refl _).alloc _).alloc _).alloc _).alloc _ |>.alloc _) x1
  clear x1
  obtain ⟨p0, p1, p2, p3, p4, p5, p6⟩ := A1.out
  obtain ⟨q0, q1, q2, q3, q4, q5, q6⟩ := B1.out
  go_wp2_with fail
  refine wp_loop_rounds 4 ?_
  rw [rounds_succ]
  go_wp2_with fail
  go_region
  go_wp2_with fail
  rw [rounds_succ]
  go_wp2_with fail
  go_region
  go_wp2_with fail
  rw [rounds_succ]
  go_wp2_with fail
  go_region
  go_wp2_with fail
  rw [rounds_succ]
  go_wp2_with fail
  refine (HT.out _ _ (G1.out.ext (by repeat (first | with_reducible assumption | with_reducible exact Ext.refl _ | with_reducible refine Ext.drew ?_ | with_reducible refine Ext.drewN ?_ _ | with_reducible refine Ext.alloc ?_ _ | with_reducible refine Ext.set ?_ (by first | exact Nat.le_refl _ | (dsimp only; omega) | (simp; done)) _)))).mono ?_
  rintro e2 w2 ⟨rfl, x2⟩
  have Y2 : Ext w1 w2 := Ext.trans (by repeat (first | with_reducible assumption | with_reducible exact Ext.refl _ | with_reducible refine Ext.drew ?_ | with_reducible refine Ext.drewN ?_ _ | with_reducible refine Ext.alloc ?_ _ | with_reducible refine Ext.set ?_ (by first | exact Nat.le_refl _ | (dsimp only; omega) | (simp; done)) _)) x2
  have X2 : Ext w w2 := X1.trans Y2
  obtain ⟨m0, m1, m2, m3, m4, m5, m6⟩ := R1.out.ext Y2
  clear x2 Y2 p0 p1 p2 p3 p4 p5 p6 q0 q1 q2 q3 q4 q5 q6 X1
  go_wp2_with fail
  exact bodyPost_ret (v := .tuple #[.agg #[.int .i64 x, .int .i64 y, .int .i64 z], .int .i64 e]) (by simp [results, Try.results38, go_sem, m0, m1, m2]) rfl ⟨rfl, by repeat (first | with_reducible assumption | with_reducible exact Ext.refl _ | with_reducible refine Ext.drew ?_ | with_reducible refine Ext.drewN ?_ _ | with_reducible refine Ext.alloc ?_ _ | with_reducible refine Ext.set ?_ (by first | exact Nat.le_refl _ | (dsimp only; omega) | (simp; done)) _)⟩

set_option maxRecDepth 20000 in
set_option maxHeartbeats 4000000 in
theorem pairwise_Sub_no (a0 a1 a2 b0 b1 b2 : Int) (w : World) (h : (ok3 a0 a1 a2 && ok3 b0 b1 b2) = false) :
    Calls Try.prog 38 #[.agg #[.int .i64 a0, .int .i64 a1, .int .i64 a2], .agg #[.int .i64 b0, .int .i64 b1, .int .i64 b2], .func (.func 39) #[] #[]] w fun e w' => e = .returned (.tuple #[.agg #[.int .i64 0, .int .i64 0, .int .i64 0], .int .i64 1]) ∧ Ext w w' := by
  have HK : Hid (∀ (W : World) (n : Nat) (T : TypeId), W.heap.size = n → Calls Try.prog 27 #[.slice (some ⟨n, 0, none⟩) 2 2] (W.alloc (.cells #[.int .i64 a0, .int .i64 a1, .int .i64 a2, .int .i64 b0, .int .i64 b1, .int .i64 b2] T)) fun e w' => e = .returned (.int .i64 1) ∧ Ext (W.alloc (.cells #[.int .i64 a0, .int .i64 a1, .int .i64 a2, .int .i64 b0, .int .i64 b1, .int .i64 b2] T)) w') := fun W n T hn => check2_no a0 a1 a2 b0 b1 b2 W n T hn h
  clear h
  go_enter Try.func38, Try.ntmps38
  go_wp2_with fail
  refine (HK.out _ _ _ (by simp)).mono ?_
  rintro e1 w1 ⟨rfl, x1⟩
  obtain ⟨m0, m1, m2, m3, m4, m5, m6⟩ : H3 w1 (w.heap.size + 1 + 1 + 1) (.int .i64 0) (.int .i64 0) (.int .i64 0) := (H3.alloc (h3_at (by simp)) _).ext x1
  have X1 : Ext w w1 := Ext.trans (((((Ext.refl _).alloc _).alloc _).alloc _).alloc _ |>.alloc _) x1
  clear x1
  go_wp2_with fail
  exact bodyPost_ret (v := .tuple #[.agg #[.int .i64 0, .int .i64 0, .int .i64 0], .int .i64 1]) (by simp [results, Try.results38, go_sem, m0, m1, m2]) rfl ⟨rfl, by repeat (first | with_reducible assumption | with_reducible exact Ext.refl _ | with_reducible refine Ext.drew ?_ | with_reducible refine Ext.drewN ?_ _ | with_reducible refine Ext.alloc ?_ _ | with_reducible refine Ext.set ?_ (by first | exact Nat.le_refl _ | (dsimp only; omega) | (simp; done)) _)⟩

end Go.Proofs.Ytojcndgoihkfnaa
