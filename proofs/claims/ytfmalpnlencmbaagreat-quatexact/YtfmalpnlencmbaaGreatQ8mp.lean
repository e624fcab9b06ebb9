/- quat: Turn, Back, Conj. -/
import Derived.Test.YtfmalpnlencmbaaGreatMg13p
namespace Go.Proofs.YtfmalpnlencmbaaGreat
open Go.RowKit Go.Shelf

set_option maxRecDepth 20000 in
set_option maxHeartbeats 8000000 in
theorem qTurn_raw (a b c d x y z E1 E2 E3 ee : Int) (w : World)
    (HF : Hid (∀ w', Calls Tryz.prog 89 #[.agg #[.int .i64 a, .int .i64 b, .int .i64 c, .int .i64 d]] w' fun e w'' => e = .returned (.agg #[.int .i64 a, .int .i64 b, .int .i64 c, .int .i64 d]) ∧ Ext w' w''))
    (HT : Hid (∀ w', Calls Tryz.prog 97 #[.agg #[.int .i64 a, .int .i64 b, .int .i64 c, .int .i64 d], .agg #[.int .i64 x, .int .i64 y, .int .i64 z]] w' fun e w'' => e = .returned (.tuple #[.agg #[.int .i64 E1, .int .i64 E2, .int .i64 E3], .int .i64 ee]) ∧ Ext w' w'')) :
    Calls Tryz.prog 41 #[.agg #[.int .i64 a, .int .i64 b, .int .i64 c, .int .i64 d], .agg #[.int .i64 x, .int .i64 y, .int .i64 z]] w fun e w' => e = .returned (.tuple #[.agg #[.int .i64 E1, .int .i64 E2, .int .i64 E3], .int .i64 ee]) ∧ Ext w w' := by
  have QB : Hid (H4 (((w.alloc (.cells #[.int .i64 a, .int .i64 b, .int .i64 c, .int .i64 d] 49)).alloc (.cells #[.int .i64 x, .int .i64 y, .int .i64 z] 24)).alloc (.cells #[.int .i64 0, .int .i64 0, .int .i64 0] 24)) w.heap.size (.int .i64 a) (.int .i64 b) (.int .i64 c) (.int .i64 d)) := H4.alloc (H4.alloc (h4_at rfl) _) _
  have VB : Hid (H3 (((w.alloc (.cells #[.int .i64 a, .int .i64 b, .int .i64 c, .int .i64 d] 49)).alloc (.cells #[.int .i64 x, .int .i64 y, .int .i64 z] 24)).alloc (.cells #[.int .i64 0, .int .i64 0, .int .i64 0] 24)) (w.heap.size + 1) (.int .i64 x) (.int .i64 y) (.int .i64 z)) := H3.alloc (h3_at (by simp)) _
  have RB : Hid (H3 (((w.alloc (.cells #[.int .i64 a, .int .i64 b, .int .i64 c, .int .i64 d] 49)).alloc (.cells #[.int .i64 x, .int .i64 y, .int .i64 z] 24)).alloc (.cells #[.int .i64 0, .int .i64 0, .int .i64 0] 24)) (w.heap.size + 1 + 1) (.int .i64 0) (.int .i64 0) (.int .i64 0)) := h3_at (by simp)
  have XB : Ext w (((w.alloc (.cells #[.int .i64 a, .int .i64 b, .int .i64 c, .int .i64 d] 49)).alloc (.cells #[.int .i64 x, .int .i64 y, .int .i64 z] 24)).alloc (.cells #[.int .i64 0, .int .i64 0, .int .i64 0] 24)) := (((Ext.refl _).alloc _).alloc _).alloc _
  obtain ⟨s0, s1, s2, s3, s4, s5, s6, s7, s8⟩ := QB.out
  obtain ⟨t0, t1, t2, t3, t4, t5, t6⟩ := VB.out
  obtain ⟨r0, r1, r2, r3, r4, r5, r6⟩ := RB.out
  have ne1 : w.heap.size ≠ w.heap.size + 1 + 1 := by omega
  have ne2 : w.heap.size + 1 + 1 ≠ w.heap.size := by omega
  have ne3 : w.heap.size + 1 ≠ w.heap.size + 1 + 1 := by omega
  have ne4 : w.heap.size + 1 + 1 ≠ w.heap.size + 1 := by omega
  go_enter Tryz.func41, Tryz.ntmps41
  go_upto_region 1 with fail
  generalize (((w.alloc (.cells #[.int .i64 a, .int .i64 b, .int .i64 c, .int .i64 d] 49)).alloc (.cells #[.int .i64 x, .int .i64 y, .int .i64 z] 24)).alloc (.cells #[.int .i64 0, .int .i64 0, .int .i64 0] 24)) = wB at *
  go_region_held (fun w' => w'.cell? ⟨w.heap.size, 0, none⟩ = some (.int .i64 a) ∧ w'.cell? ⟨w.heap.size, 1, none⟩ = some (.int .i64 b) ∧ w'.cell? ⟨w.heap.size, 2, none⟩ = some (.int .i64 c) ∧ w'.cell? ⟨w.heap.size, 3, none⟩ = some (.int .i64 d) ∧ w'.cell? ⟨w.heap.size + 1, 0, none⟩ = some (.int .i64 x) ∧ w'.cell? ⟨w.heap.size + 1, 1, none⟩ = some (.int .i64 y) ∧ w'.cell? ⟨w.heap.size + 1, 2, none⟩ = some (.int .i64 z)) (first | (go_keep; done) | skip) (first | (go_at_call 89; refine (HF.out _).mono ?_; rintro e w1 ⟨rfl, x1⟩; have y1 : Ext wB w1 := Ext.trans (by repeat (first | with_reducible assumption | with_reducible exact Ext.refl _ | with_reducible refine Ext.drew ?_ | with_reducible refine Ext.drewN ?_ _ | with_reducible refine Ext.alloc ?_ _ | with_reducible refine Ext.set ?_ (by first | exact Nat.le_refl _ | (dsimp only; omega) | (simp; done)) _)) x1; obtain ⟨s0, s1, s2, s3, s4, s5, s6, s7, s8⟩ := QB.out.ext y1; obtain ⟨t0, t1, t2, t3, t4, t5, t6⟩ := VB.out.ext y1; obtain ⟨r0, r1, r2, r3, r4, r5, r6⟩ := RB.out.ext y1) | (go_at_call 97; refine (HT.out _).mono ?_; rintro e w2 ⟨rfl, x2⟩; have y2 : Ext wB w2 := Ext.trans (by repeat (first | with_reducible assumption | with_reducible exact Ext.refl _ | with_reducible refine Ext.drew ?_ | with_reducible refine Ext.drewN ?_ _ | with_reducible refine Ext.alloc ?_ _ | with_reducible refine Ext.set ?_ (by first | exact Nat.le_refl _ | (dsimp only; omega) | (simp; done)) _)) x2; obtain ⟨s0, s1, s2, s3, s4, s5, s6, s7, s8⟩ := QB.out.ext y2; obtain ⟨t0, t1, t2, t3, t4, t5, t6⟩ := VB.out.ext y2; obtain ⟨r0, r1, r2, r3, r4, r5, r6⟩ := RB.out.ext y2))
  all_goals
    have X3 : Ext w w2 := XB.trans y2
    obtain ⟨r0, r1, r2, r3, r4, r5, r6⟩ := RB.out.ext y2
    go_wp2_with fail
    exact bodyPost_ret (v := .tuple #[.agg #[.int .i64 E1, .int .i64 E2, .int .i64 E3], .int .i64 ee]) (by simp [results, Tryz.results41, go_sem, r0, r1, r2]) rfl ⟨rfl, by repeat (first | with_reducible assumption | with_reducible exact Ext.refl _ | with_reducible refine Ext.drew ?_ | with_reducible refine Ext.drewN ?_ _ | with_reducible refine Ext.alloc ?_ _ | with_reducible refine Ext.set ?_ (by first | exact Nat.le_refl _ | (dsimp only; omega) | (simp; done)) _)⟩

set_option maxRecDepth 20000 in
set_option maxHeartbeats 8000000 in
theorem qBack_raw (a b c d x y z nb nc nd E1 E2 E3 ee : Int) (w : World)
    (HF : Hid (∀ w', Calls Tryz.prog 89 #[.agg #[.int .i64 a, .int .i64 b, .int .i64 c, .int .i64 d]] w' fun e w'' => e = .returned (.agg #[.int .i64 a, .int .i64 b, .int .i64 c, .int .i64 d]) ∧ Ext w' w''))
    (HC : Hid (∀ w', Calls Tryz.prog 93 #[.agg #[.int .i64 a, .int .i64 b, .int .i64 c, .int .i64 d]] w' fun e w'' => e = .returned (.agg #[.int .i64 a, .int .i64 nb, .int .i64 nc, .int .i64 nd]) ∧ Ext w' w''))
    (HT : Hid (∀ w', Calls Tryz.prog 97 #[.agg #[.int .i64 a, .int .i64 nb, .int .i64 nc, .int .i64 nd], .agg #[.int .i64 x, .int .i64 y, .int .i64 z]] w' fun e w'' => e = .returned (.tuple #[.agg #[.int .i64 E1, .int .i64 E2, .int .i64 E3], .int .i64 ee]) ∧ Ext w' w'')) :
    Calls Tryz.prog 43 #[.agg #[.int .i64 a, .int .i64 b, .int .i64 c, .int .i64 d], .agg #[.int .i64 x, .int .i64 y, .int .i64 z]] w fun e w' => e = .returned (.tuple #[.agg #[.int .i64 E1, .int .i64 E2, .int .i64 E3], .int .i64 ee]) ∧ Ext w w' := by
  have QB : Hid (H4 (((w.alloc (.cells #[.int .i64 a, .int .i64 b, .int .i64 c, .int .i64 d] 49)).alloc (.cells #[.int .i64 x, .int .i64 y, .int .i64 z] 24)).alloc (.cells #[.int .i64 0, .int .i64 0, .int .i64 0] 24)) w.heap.size (.int .i64 a) (.int .i64 b) (.int .i64 c) (.int .i64 d)) := H4.alloc (H4.alloc (h4_at rfl) _) _
  have VB : Hid (H3 (((w.alloc (.cells #[.int .i64 a, .int .i64 b, .int .i64 c, .int .i64 d] 49)).alloc (.cells #[.int .i64 x, .int .i64 y, .int .i64 z] 24)).alloc (.cells #[.int .i64 0, .int .i64 0, .int .i64 0] 24)) (w.heap.size + 1) (.int .i64 x) (.int .i64 y) (.int .i64 z)) := H3.alloc (h3_at (by simp)) _
  have RB : Hid (H3 (((w.alloc (.cells #[.int .i64 a, .int .i64 b, .int .i64 c, .int .i64 d] 49)).alloc (.cells #[.int .i64 x, .int .i64 y, .int .i64 z] 24)).alloc (.cells #[.int .i64 0, .int .i64 0, .int .i64 0] 24)) (w.heap.size + 1 + 1) (.int .i64 0) (.int .i64 0) (.int .i64 0)) := h3_at (by simp)
  have XB : Ext w (((w.alloc (.cells #[.int .i64 a, .int .i64 b, .int .i64 c, .int .i64 d] 49)).alloc (.cells #[.int .i64 x, .int .i64 y, .int .i64 z] 24)).alloc (.cells #[.int .i64 0, .int .i64 0, .int .i64 0] 24)) := (((Ext.refl _).alloc _).alloc _).alloc _
  obtain ⟨s0, s1, s2, s3, s4, s5, s6, s7, s8⟩ := QB.out
  obtain ⟨t0, t1, t2, t3, t4, t5, t6⟩ := VB.out
  obtain ⟨r0, r1, r2, r3, r4, r5, r6⟩ := RB.out
  have ne1 : w.heap.size ≠ w.heap.size + 1 + 1 := by omega
  have ne2 : w.heap.size + 1 + 1 ≠ w.heap.size := by omega
  have ne3 : w.heap.size + 1 ≠ w.heap.size + 1 + 1 := by omega
  have ne4 : w.heap.size + 1 + 1 ≠ w.heap.size + 1 := by omega
  go_enter Tryz.func43, Tryz.ntmps43
  go_upto_region 1 with fail
  generalize (((w.alloc (.cells #[.int .i64 a, .int .i64 b, .int .i64 c, .int .i64 d] 49)).alloc (.cells #[.int .i64 x, .int .i64 y, .int .i64 z] 24)).alloc (.cells #[.int .i64 0, .int .i64 0, .int .i64 0] 24)) = wB at *
  go_region_held (fun w' => w'.cell? ⟨w.heap.size, 0, none⟩ = some (.int .i64 a) ∧ w'.cell? ⟨w.heap.size, 1, none⟩ = some (.int .i64 b) ∧ w'.cell? ⟨w.heap.size, 2, none⟩ = some (.int .i64 c) ∧ w'.cell? ⟨w.heap.size, 3, none⟩ = some (.int .i64 d) ∧ w'.cell? ⟨w.heap.size + 1, 0, none⟩ = some (.int .i64 x) ∧ w'.cell? ⟨w.heap.size + 1, 1, none⟩ = some (.int .i64 y) ∧ w'.cell? ⟨w.heap.size + 1, 2, none⟩ = some (.int .i64 z)) (first | (go_keep; done) | skip) (first | (go_at_call 89; refine (HF.out _).mono ?_; rintro e w1 ⟨rfl, x1⟩; have y1 : Ext wB w1 := Ext.trans (by repeat (first | with_reducible assumption | with_reducible exact Ext.refl _ | with_reducible refine Ext.drew ?_ | with_reducible refine Ext.drewN ?_ _ | with_reducible refine Ext.alloc ?_ _ | with_reducible refine Ext.set ?_ (by first | exact Nat.le_refl _ | (dsimp only; omega) | (simp; done)) _)) x1; obtain ⟨s0, s1, s2, s3, s4, s5, s6, s7, s8⟩ := QB.out.ext y1; obtain ⟨t0, t1, t2, t3, t4, t5, t6⟩ := VB.out.ext y1; obtain ⟨r0, r1, r2, r3, r4, r5, r6⟩ := RB.out.ext y1) | (go_at_call 93; refine (HC.out _).mono ?_; rintro e w2 ⟨rfl, x2⟩; have y2 : Ext wB w2 := Ext.trans (by repeat (first | with_reducible assumption | with_reducible exact Ext.refl _ | with_reducible refine Ext.drew ?_ | with_reducible refine Ext.drewN ?_ _ | with_reducible refine Ext.alloc ?_ _ | with_reducible refine Ext.set ?_ (by first | exact Nat.le_refl _ | (dsimp only; omega) | (simp; done)) _)) x2; obtain ⟨s0, s1, s2, s3, s4, s5, s6, s7, s8⟩ := QB.out.ext y2; obtain ⟨t0, t1, t2, t3, t4, t5, t6⟩ := VB.out.ext y2; obtain ⟨r0, r1, r2, r3, r4, r5, r6⟩ := RB.out.ext y2) | (go_at_call 97; refine (HT.out _).mono ?_; rintro e w3 ⟨rfl, x3⟩; have y3 : Ext wB w3 := Ext.trans (by repeat (first | with_reducible assumption | with_reducible exact Ext.refl _ | with_reducible refine Ext.drew ?_ | with_reducible refine Ext.drewN ?_ _ | with_reducible refine Ext.alloc ?_ _ | with_reducible refine Ext.set ?_ (by first | exact Nat.le_refl _ | (dsimp only; omega) | (simp; done)) _)) x3; obtain ⟨s0, s1, s2, s3, s4, s5, s6, s7, s8⟩ := QB.out.ext y3; obtain ⟨t0, t1, t2, t3, t4, t5, t6⟩ := VB.out.ext y3; obtain ⟨r0, r1, r2, r3, r4, r5, r6⟩ := RB.out.ext y3))
  all_goals
    have X3 : Ext w w3 := XB.trans y3
    obtain ⟨r0, r1, r2, r3, r4, r5, r6⟩ := RB.out.ext y3
    go_wp2_with fail
    exact bodyPost_ret (v := .tuple #[.agg #[.int .i64 E1, .int .i64 E2, .int .i64 E3], .int .i64 ee]) (by simp [results, Tryz.results43, go_sem, r0, r1, r2]) rfl ⟨rfl, by repeat (first | with_reducible assumption | with_reducible exact Ext.refl _ | with_reducible refine Ext.drew ?_ | with_reducible refine Ext.drewN ?_ _ | with_reducible refine Ext.alloc ?_ _ | with_reducible refine Ext.set ?_ (by first | exact Nat.le_refl _ | (dsimp only; omega) | (simp; done)) _)⟩

theorem qTurn_any (a b c d x y z : Int) (w : World) :
    Calls Tryz.prog 41 #[.agg #[.int .i64 a, .int .i64 b, .int .i64 c, .int .i64 d], .agg #[.int .i64 x, .int .i64 y, .int .i64 z]] w fun e w' => e = .returned (turnR a b c d x y z) ∧ Ext w w' := by
  have T := qturn_any a b c d x y z
  obtain ⟨s0, s1, s2, e, he⟩ := turnR_shape a b c d x y z
  rw [he] at T ⊢
  exact qTurn_raw a b c d x y z s0 s1 s2 e w (qof_any a b c d) T
theorem qBack_any (a b c d x y z : Int) (w : World) :
    Calls Tryz.prog 43 #[.agg #[.int .i64 a, .int .i64 b, .int .i64 c, .int .i64 d], .agg #[.int .i64 x, .int .i64 y, .int .i64 z]] w fun e w' => e = .returned (turnR a (wrap64 (-b)) (wrap64 (-c)) (wrap64 (-d)) x y z) ∧ Ext w w' := by
  have T := qturn_any a (wrap64 (-b)) (wrap64 (-c)) (wrap64 (-d)) x y z
  obtain ⟨s0, s1, s2, e, he⟩ := turnR_shape a (wrap64 (-b)) (wrap64 (-c)) (wrap64 (-d)) x y z
  rw [he] at T ⊢
  exact qBack_raw a b c d x y z _ _ _ s0 s1 s2 e w (qof_any a b c d) (qconj_any a b c d) T

set_option maxRecDepth 20000 in
set_option maxHeartbeats 4000000 in
theorem qConj_yes (a b c d nb nc nd : Int) (w : World)
    (HK : Hid (∀ w', Calls Tryz.prog 36 #[.agg #[.int .i64 a, .int .i64 b, .int .i64 c, .int .i64 d]] w' fun e w'' => e = .returned (.int .i64 0) ∧ Ext w' w''))
    (HF : Hid (∀ w', Calls Tryz.prog 89 #[.agg #[.int .i64 a, .int .i64 b, .int .i64 c, .int .i64 d]] w' fun e w'' => e = .returned (.agg #[.int .i64 a, .int .i64 b, .int .i64 c, .int .i64 d]) ∧ Ext w' w''))
    (HC : Hid (∀ w', Calls Tryz.prog 93 #[.agg #[.int .i64 a, .int .i64 b, .int .i64 c, .int .i64 d]] w' fun e w'' => e = .returned (.agg #[.int .i64 a, .int .i64 nb, .int .i64 nc, .int .i64 nd]) ∧ Ext w' w''))
    (HA : Hid (∀ w', Calls Tryz.prog 86 #[.agg #[.int .i64 a, .int .i64 nb, .int .i64 nc, .int .i64 nd], .int .i64 0] w' fun e w'' => e = .returned (.tuple #[.agg #[.int .i64 a, .int .i64 nb, .int .i64 nc, .int .i64 nd], .int .i64 0]) ∧ Ext w' w'')) :
    Calls Tryz.prog 38 #[.agg #[.int .i64 a, .int .i64 b, .int .i64 c, .int .i64 d]] w fun e w' => e = .returned (.tuple #[.agg #[.int .i64 a, .int .i64 nb, .int .i64 nc, .int .i64 nd], .int .i64 0]) ∧ Ext w w' := by
  go_enter Tryz.func38, Tryz.ntmps38
  go_wp2_with fail
  refine (HK.out _).mono ?_
  rintro e w1 ⟨rfl, x1⟩
  have QB : Hid (H4 w1 w.heap.size (.int .i64 a) (.int .i64 b) (.int .i64 c) (.int .i64 d)) := (H4.alloc (h4_at rfl) _).ext x1
  have RB : Hid (H4 w1 (w.heap.size + 1) (.int .i64 0) (.int .i64 0) (.int .i64 0) (.int .i64 0)) := (h4_at (by simp)).ext x1
  have X1 : Ext w w1 := Ext.trans (by repeat (first | with_reducible assumption | with_reducible exact Ext.refl _ | with_reducible refine Ext.drew ?_ | with_reducible refine Ext.drewN ?_ _ | with_reducible refine Ext.alloc ?_ _ | with_reducible refine Ext.set ?_ (by first | exact Nat.le_refl _ | (dsimp only; omega) | (simp; done)) _)) x1
  clear x1
  obtain ⟨s0, s1, s2, s3, s4, s5, s6, s7, s8⟩ := QB.out
  go_wp2_with fail
  refine (HF.out _).mono ?_
  rintro e w2 ⟨rfl, x2⟩
  go_wp2_with fail
  refine (HC.out _).mono ?_
  rintro e w3 ⟨rfl, x3⟩
  go_wp2_with fail
  refine (HA.out _).mono ?_
  rintro e w4 ⟨rfl, x4⟩
  have X4 : Ext w w4 := ((X1.trans x2).trans x3).trans x4
  obtain ⟨r0, r1, r2, r3, r4, r5, r6, r7, r8⟩ := ((RB.out.ext x2).ext x3).ext x4
  clear x2 x3 x4 X1 s0 s1 s2 s3 s4 s5 s6 s7 s8
  go_wp2_with fail
  exact bodyPost_ret (v := .tuple #[.agg #[.int .i64 a, .int .i64 nb, .int .i64 nc, .int .i64 nd], .int .i64 0]) (by simp [results, Tryz.results38, go_sem, r0, r1, r2, r3]) rfl ⟨rfl, by repeat (first | with_reducible assumption | with_reducible exact Ext.refl _ | with_reducible refine Ext.drew ?_ | with_reducible refine Ext.drewN ?_ _ | with_reducible refine Ext.alloc ?_ _ | with_reducible refine Ext.set ?_ (by first | exact Nat.le_refl _ | (dsimp only; omega) | (simp; done)) _)⟩
set_option maxRecDepth 20000 in
set_option maxHeartbeats 4000000 in
theorem qConj_no (a b c d : Int) (w : World)
    (HK : Hid (∀ w', Calls Tryz.prog 36 #[.agg #[.int .i64 a, .int .i64 b, .int .i64 c, .int .i64 d]] w' fun e w'' => e = .returned (.int .i64 1) ∧ Ext w' w'')) :
    Calls Tryz.prog 38 #[.agg #[.int .i64 a, .int .i64 b, .int .i64 c, .int .i64 d]] w fun e w' => e = .returned (.tuple #[.agg #[.int .i64 0, .int .i64 0, .int .i64 0, .int .i64 0], .int .i64 1]) ∧ Ext w w' := by
  go_enter Tryz.func38, Tryz.ntmps38
  go_wp2_with fail
  refine (HK.out _).mono ?_
  rintro e w1 ⟨rfl, x1⟩
  have RB : H4 w1 (w.heap.size + 1) (.int .i64 0) (.int .i64 0) (.int .i64 0) (.int .i64 0) := (h4_at (by simp)).ext x1
  have X1 : Ext w w1 := Ext.trans (by repeat (first | with_reducible assumption | with_reducible exact Ext.refl _ | with_reducible refine Ext.drew ?_ | with_reducible refine Ext.drewN ?_ _ | with_reducible refine Ext.alloc ?_ _ | with_reducible refine Ext.set ?_ (by first | exact Nat.le_refl _ | (dsimp only; omega) | (simp; done)) _)) x1
  clear x1
  obtain ⟨r0, r1, r2, r3, r4, r5, r6, r7, r8⟩ := RB
  go_wp2_with fail
  exact bodyPost_ret (v := .tuple #[.agg #[.int .i64 0, .int .i64 0, .int .i64 0, .int .i64 0], .int .i64 1]) (by simp [results, Tryz.results38, go_sem, r0, r1, r2, r3]) rfl ⟨rfl, by repeat (first | with_reducible assumption | with_reducible exact Ext.refl _ | with_reducible refine Ext.drew ?_ | with_reducible refine Ext.drewN ?_ _ | with_reducible refine Ext.alloc ?_ _ | with_reducible refine Ext.set ?_ (by first | exact Nat.le_refl _ | (dsimp only; omega) | (simp; done)) _)⟩
def conjR (a b c d : Int) : Value := if ok4 a b c d then .tuple #[.agg #[.int .i64 a, .int .i64 (-b), .int .i64 (-c), .int .i64 (-d)], .int .i64 0] else .tuple #[.agg #[.int .i64 0, .int .i64 0, .int .i64 0, .int .i64 0], .int .i64 1]
theorem qConj_any (a b c d : Int) (w : World) :
    Calls Tryz.prog 38 #[.agg #[.int .i64 a, .int .i64 b, .int .i64 c, .int .i64 d]] w fun e w' => e = .returned (conjR a b c d) ∧ Ext w w' := by
  have K := qCheck_any a b c d
  unfold conjR
  cases h : ok4 a b c d
  · rw [chk4_no h] at K
    exact qConj_no a b c d w K
  · rw [chk4_yes h] at K
    have h' := h
    unfold ok4 at h'
    simp only [Bool.and_eq_true] at h'
    obtain ⟨ha, hb, hc, hd⟩ := h'
    have C := qconj_any a b c d
    rw [neg64 hb, neg64 hc, neg64 hd] at C
    exact qConj_yes a b c d _ _ _ w K (qof_any a b c d) C (asQuat_any _ _ _ _ _)
end Go.Proofs.YtfmalpnlencmbaaGreat
