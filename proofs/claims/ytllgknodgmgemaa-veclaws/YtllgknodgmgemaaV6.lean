/- vec: Add, Sub, Neg, Scale. -/
import Derived.Test.YtllgknodgmgemaaV5
import Derived.Test.YtllgknodgmgemaaV4
import Derived.Test.YtllgknodgmgemaaFaces  
namespace Go.Proofs.Ytllgknodgmgemaa
open Go.RowKit Go.Shelf

/-- a vector of whole numbers as words, or refused -/
def vres (s0 s1 s2 : Int) : Value := if ok3 s0 s1 s2 then .tuple #[.agg #[.int .i64 s0, .int .i64 s1, .int .i64 s2], .int .i64 0] else .tuple #[.agg #[.int .i64 0, .int .i64 0, .int .i64 0], .int .i64 2]
def vbad : Value := .tuple #[.agg #[.int .i64 0, .int .i64 0, .int .i64 0], .int .i64 1]
theorem fit_yes' {s : Int} (h : okW s = true) : fitR s = (s, 0) := by unfold fitR; rw [if_pos h]
theorem fit_no' {s : Int} (h : okW s = false) : fitR s = (0, 2) := by unfold fitR; rw [h]; rfl
theorem thr_fit (s0 s1 s2 : Int) : thr (fitR s0).1 (fitR s0).2 (fitR s1).1 (fitR s1).2 (fitR s2).1 (fitR s2).2 = vres s0 s1 s2 := by
  unfold vres ok3 thr
  cases h0 : okW s0
  · rw [fit_no' h0]; rfl
  · rw [fit_yes' h0]
    cases h1 : okW s1
    · rw [fit_no' h1]; rfl
    · rw [fit_yes' h1]
      cases h2 : okW s2
      · rw [fit_no' h2]; rfl
      · rw [fit_yes' h2]; rfl
theorem vres_shape (s0 s1 s2 : Int) : ∃ x y z e : Int, vres s0 s1 s2 = .tuple #[.agg #[.int .i64 x, .int .i64 y, .int .i64 z], .int .i64 e] := by
  unfold vres; split <;> exact ⟨_, _, _, _, rfl⟩
theorem ok3_parts {a b c : Int} (h : ok3 a b c = true) : okW a = true ∧ okW b = true ∧ okW c = true := by
  unfold ok3 at h; simp only [Bool.and_eq_true] at h; exact ⟨h.1, h.2.1, h.2.2⟩

theorem subw (a b : Int) (h1 : okW a = true) (h2 : okW b = true) (w : World) : Calls Try.prog 21 #[.int .i64 a, .int .i64 b] w fun e w' => e = .returned (.tuple #[.int .i64 (fitR (a - b)).1, .int .i64 (fitR (a - b)).2]) ∧ Ext w w' := by
  have h := sub_any a b w
  have e : subR a b = fitR (a - b) := by unfold subR diffV; rw [if_pos (by rw [h1, h2]; rfl)]
  rw [e] at h; exact h
set_option maxHeartbeats 4000000 in
theorem faceNeg_raw (a0 a1 a2 x y z e : Int) (w : World)
    (HP : Hid (∀ w', Calls Try.prog 20 #[.agg #[.int .i64 0, .int .i64 0, .int .i64 0], .agg #[.int .i64 a0, .int .i64 a1, .int .i64 a2], .func (.func 21) #[] #[]] w' fun e' w'' => e' = .returned (.tuple #[.agg #[.int .i64 x, .int .i64 y, .int .i64 z], .int .i64 e]) ∧ Ext w' w'')) :
    Calls Try.prog 8 #[.agg #[.int .i64 a0, .int .i64 a1, .int .i64 a2]] w fun e' w' => e' = .returned (.tuple #[.agg #[.int .i64 x, .int .i64 y, .int .i64 z], .int .i64 e]) ∧ Ext w w' := by
  have HA : Hid (∀ w', Calls Try.prog 16 #[.agg #[.int .i64 a0, .int .i64 a1, .int .i64 a2]] w' fun e w'' => e = .returned (.agg #[.int .i64 a0, .int .i64 a1, .int .i64 a2]) ∧ Ext w' w'') := fun w' => of_any a0 a1 a2 w'
  go_enter Try.func8, Try.ntmps8
  go_wp2_with fail
  refine (HA.out _).mono ?_
  rintro e' w1 ⟨rfl, x1⟩
  go_wp2_with fail
  refine (HP.out _).mono ?_
  rintro e' w2 ⟨rfl, x2⟩
  obtain ⟨m0, m1, m2, m3, m4, m5, m6⟩ : H3 w2 (w.heap.size + 1) (.int .i64 0) (.int .i64 0) (.int .i64 0) := (h3_at (by simp)).ext (x1.trans x2)
  have E8 : Ext w w2 := Ext.trans (((Ext.refl _).alloc _).alloc _) (x1.trans x2)
  clear x1 x2
  go_wp2_with fail
  exact bodyPost_ret (v := .tuple #[.agg #[.int .i64 x, .int .i64 y, .int .i64 z], .int .i64 e]) (by simp [results, Try.results8, go_sem, m0, m1, m2]) rfl ⟨rfl, by repeat (first | with_reducible assumption | with_reducible exact Ext.refl _ | with_reducible refine Ext.drew ?_ | with_reducible refine Ext.drewN ?_ _ | with_reducible refine Ext.alloc ?_ _ | with_reducible refine Ext.set ?_ (by first | exact Nat.le_refl _ | (dsimp only; omega) | (simp; done)) _)⟩

theorem vNeg_yes (a0 a1 a2 : Int) (w : World) (h1 : ok3 a0 a1 a2 = true) :
    Calls Try.prog 8 #[.agg #[.int .i64 a0, .int .i64 a1, .int .i64 a2]] w fun e w' => e = .returned (vres (0 - a0) (0 - a1) (0 - a2)) ∧ Ext w w' := by
  obtain ⟨g0, g1, g2⟩ := ok3_parts h1
  have z0 : okW 0 = true := by decide
  have hp := fun w' => pairwise_Sub 0 0 0 a0 a1 a2 _ _ _ _ _ _ w' (by decide) h1 (fun w => subw 0 a0 z0 g0 w) (fun w => subw 0 a1 z0 g1 w) (fun w => subw 0 a2 z0 g2 w)
  rw [thr_fit] at hp
  obtain ⟨x, y, z, e, hr⟩ := vres_shape (0 - a0) (0 - a1) (0 - a2)
  rw [hr] at hp ⊢
  exact faceNeg_raw a0 a1 a2 x y z e w hp
theorem vNeg_no (a0 a1 a2 : Int) (w : World) (h : ok3 a0 a1 a2 = false) :
    Calls Try.prog 8 #[.agg #[.int .i64 a0, .int .i64 a1, .int .i64 a2]] w fun e w' => e = .returned vbad ∧ Ext w w' :=
  faceNeg_raw a0 a1 a2 0 0 0 1 w (fun w' => pairwise_Sub_no 0 0 0 a0 a1 a2 w' (by rw [h]; decide))
end Go.Proofs.Ytllgknodgmgemaa
