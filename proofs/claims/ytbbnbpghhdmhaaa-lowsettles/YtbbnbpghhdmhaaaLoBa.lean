/- LowBetween, LowSettles: what their calls tell. -/
import Derived.Test.YtbbnbpghhdmhaaaLo3
import Derived.Deep.Cut
import Derived.Deep.DeepCutAuto
namespace Go.Proofs.Ytbbnbpghhdmhaaa
open Go.RowKit Go.Shelf
theorem lw_zero (y v : Int) : lw 0 y v = v := by
  have h := lw_near 0 y v (by decide) (by decide)
  have e : pw 0 = 1 := by decide
  rw [e] at h
  refine h.unique (by decide) ?_
  unfold IsNear
  omega
theorem lw_same (s y : Int) (h1 : 0 ≤ s) (h2 : s ≤ 15) : lw s y y = y := by
  have h := lw_near s y y h1 h2
  have hp := pw_bounds h1 h2
  refine h.unique (by omega) ?_
  have e : (pw s - 1) * y + y - y * pw s = 0 := by grind
  unfold IsNear
  omega
theorem lw_neg (s y v : Int) (h1 : 0 ≤ s) (h2 : s ≤ 15) : lw s (-y) (-v) = -lw s y v := by
  have h := lw_near s (-y) (-v) h1 h2
  have hp := pw_bounds h1 h2
  refine h.unique (by omega) ?_
  have e : (pw s - 1) * -y + -v = -((pw s - 1) * y + v) := by grind
  rw [e]
  exact (lw_near s y v h1 h2).neg
theorem okA_parts {y0 y1 y2 s v0 v1 v2 : Int} (h : okA y0 y1 y2 s v0 v1 v2 = true) : okSh s = true ∧ ok3 y0 y1 y2 = true ∧ ok3 v0 v1 v2 = true := by
  unfold okA at h; simp only [Bool.and_eq_true] at h; exact ⟨h.1.1, h.1.2, h.2⟩
theorem otake_on (y0 y1 y2 s v0 v1 v2 : Int) (w : World) (h : okA y0 y1 y2 s v0 v1 v2 = true) : Calls Try.prog 8 #[.agg #[.bool true, .int .i64 y0, .int .i64 y1, .int .i64 y2], .int .i64 s, .agg #[.int .i64 v0, .int .i64 v1, .int .i64 v2]] w fun e w' => e = .returned (.tuple #[.agg #[.bool true, .int .i64 (lw s y0 v0), .int .i64 (lw s y1 v1), .int .i64 (lw s y2 v2)], .int .i64 0]) ∧ Ext w w' := by
  have k := otake_any true y0 y1 y2 s v0 v1 v2 w
  obtain ⟨a, b, c⟩ := okA_parts h
  have e : takeO true y0 y1 y2 s v0 v1 v2 = .tuple #[.agg #[.bool true, .int .i64 (lw s y0 v0), .int .i64 (lw s y1 v1), .int .i64 (lw s y2 v2)], .int .i64 0] := by unfold takeO; rw [a, b, c]; rfl
  rw [e] at k
  exact k
theorem otake_off (y0 y1 y2 s v0 v1 v2 : Int) (w : World) (h : okA y0 y1 y2 s v0 v1 v2 = true) : Calls Try.prog 8 #[.agg #[.bool false, .int .i64 y0, .int .i64 y1, .int .i64 y2], .int .i64 s, .agg #[.int .i64 v0, .int .i64 v1, .int .i64 v2]] w fun e w' => e = .returned (.tuple #[.agg #[.bool true, .int .i64 v0, .int .i64 v1, .int .i64 v2], .int .i64 0]) ∧ Ext w w' := by
  have k := otake_any false y0 y1 y2 s v0 v1 v2 w
  obtain ⟨a, b, c⟩ := okA_parts h
  have e : takeO false y0 y1 y2 s v0 v1 v2 = .tuple #[.agg #[.bool true, .int .i64 v0, .int .i64 v1, .int .i64 v2], .int .i64 0] := by unfold takeO; rw [a, b, c]; rfl
  rw [e] at k
  exact k
theorem okA_of {y0 y1 y2 s v0 v1 v2 : Int} (a : okSh s = true) (b : ok3 y0 y1 y2 = true) (c : ok3 v0 v1 v2 = true) : okA y0 y1 y2 s v0 v1 v2 = true := by
  unfold okA; rw [a, b, c]; rfl
theorem ok3_neg {a b c : Int} (h : ok3 a b c = true) : ok3 (-a) (-b) (-c) = true := by
  obtain ⟨k0, k1, k2⟩ := ok3_parts h
  have g0 := okW_bounds k0
  have g1 := okW_bounds k1
  have g2 := okW_bounds k2
  unfold ok3; rw [okW_in (by omega) (by omega), okW_in (by omega) (by omega), okW_in (by omega) (by omega)]; rfl
/-- all that is told of the calls of one round -/
theorem between_told (y0 y1 y2 s v0 v1 v2 : Int) (h : okA y0 y1 y2 s v0 v1 v2 = true) : ∃ r0 r1 r2 m0 m1 m2 l0 l1 l2 n0 n1 n2 : Int,
    (∀ w, Calls Try.prog 8 #[.agg #[.bool true, .int .i64 y0, .int .i64 y1, .int .i64 y2], .int .i64 s, .agg #[.int .i64 v0, .int .i64 v1, .int .i64 v2]] w fun e w' => e = .returned (.tuple #[.agg #[.bool true, .int .i64 r0, .int .i64 r1, .int .i64 r2], .int .i64 0]) ∧ Ext w w') ∧
    (∀ w, Calls Try.prog 8 #[.agg #[.bool true, .int .i64 y0, .int .i64 y1, .int .i64 y2], .int .i64 0, .agg #[.int .i64 v0, .int .i64 v1, .int .i64 v2]] w fun e w' => e = .returned (.tuple #[.agg #[.bool true, .int .i64 v0, .int .i64 v1, .int .i64 v2], .int .i64 0]) ∧ Ext w w') ∧
    (∀ w, Calls Try.prog 8 #[.agg #[.bool false, .int .i64 0, .int .i64 0, .int .i64 0], .int .i64 s, .agg #[.int .i64 v0, .int .i64 v1, .int .i64 v2]] w fun e w' => e = .returned (.tuple #[.agg #[.bool true, .int .i64 v0, .int .i64 v1, .int .i64 v2], .int .i64 0]) ∧ Ext w w') ∧
    (∀ w, Calls Try.prog 8 #[.agg #[.bool true, .int .i64 y0, .int .i64 y1, .int .i64 y2], .int .i64 s, .agg #[.int .i64 y0, .int .i64 y1, .int .i64 y2]] w fun e w' => e = .returned (.tuple #[.agg #[.bool true, .int .i64 y0, .int .i64 y1, .int .i64 y2], .int .i64 0]) ∧ Ext w w') ∧
    (∀ w, Calls Try.prog 8 #[.agg #[.bool true, .int .i64 m0, .int .i64 m1, .int .i64 m2], .int .i64 s, .agg #[.int .i64 l0, .int .i64 l1, .int .i64 l2]] w fun e w' => e = .returned (.tuple #[.agg #[.bool true, .int .i64 n0, .int .i64 n1, .int .i64 n2], .int .i64 0]) ∧ Ext w w') ∧
    (∀ w, Calls Try.prog 12 #[.agg #[.int .i64 y0, .int .i64 y1, .int .i64 y2]] w fun e w' => e = .returned (.agg #[.int .i64 m0, .int .i64 m1, .int .i64 m2]) ∧ Ext w w') ∧
    (∀ w, Calls Try.prog 12 #[.agg #[.int .i64 v0, .int .i64 v1, .int .i64 v2]] w fun e w' => e = .returned (.agg #[.int .i64 l0, .int .i64 l1, .int .i64 l2]) ∧ Ext w w') ∧
    (∀ w, Calls Try.prog 12 #[.agg #[.int .i64 r0, .int .i64 r1, .int .i64 r2]] w fun e w' => e = .returned (.agg #[.int .i64 n0, .int .i64 n1, .int .i64 n2]) ∧ Ext w w') ∧
    (∀ w, Calls Try.prog 11 #[.int .i64 r0, .int .i64 y0, .int .i64 v0] w fun e w' => e = .returned (.bool true) ∧ w' = w) ∧
    (∀ w, Calls Try.prog 11 #[.int .i64 r1, .int .i64 y1, .int .i64 v1] w fun e w' => e = .returned (.bool true) ∧ w' = w) ∧
    (∀ w, Calls Try.prog 11 #[.int .i64 r2, .int .i64 y2, .int .i64 v2] w fun e w' => e = .returned (.bool true) ∧ w' = w) := by
  obtain ⟨a, b, c⟩ := okA_parts h
  obtain ⟨a1, a2⟩ := okSh_iff.1 a
  obtain ⟨b0, b1, b2⟩ := ok3_parts b
  obtain ⟨c0, c1, c2⟩ := ok3_parts c
  have hr : ok3 (lw s y0 v0) (lw s y1 v1) (lw s y2 v2) = true := by unfold ok3; rw [lw_ok s y0 v0 a b0 c0, lw_ok s y1 v1 a b1 c1, lw_ok s y2 v2 a b2 c2]; rfl
  have bt : ∀ (y v : Int), (y ≤ lw s y v ∨ v ≤ lw s y v) ∧ (lw s y v ≤ y ∨ lw s y v ≤ v) := fun y v => by
    have := lw_between s y v (min y v) (max y v) a1 a2 (by omega) (by omega) (by omega) (by omega)
    omega
  refine ⟨_, _, _, -y0, -y1, -y2, -v0, -v1, -v2, -lw s y0 v0, -lw s y1 v1, -lw s y2 v2, fun w => otake_on _ _ _ _ _ _ _ w h, fun w => ?_, fun w => otake_off 0 0 0 _ _ _ _ w (okA_of a (by decide) c), fun w => ?_, fun w => ?_, fun w => neg_any _ _ _ w b, fun w => neg_any _ _ _ w c, fun w => neg_any _ _ _ w hr, fun w => between_true _ _ _ w (bt y0 v0).1 (bt y0 v0).2, fun w => between_true _ _ _ w (bt y1 v1).1 (bt y1 v1).2, fun w => between_true _ _ _ w (bt y2 v2).1 (bt y2 v2).2⟩
  · have k := otake_on y0 y1 y2 0 v0 v1 v2 w (okA_of (by decide) b c)
    rw [lw_zero, lw_zero, lw_zero] at k
    exact k
  · have k := otake_on y0 y1 y2 s y0 y1 y2 w (okA_of a b b)
    rw [lw_same s y0 a1 a2, lw_same s y1 a1 a2, lw_same s y2 a1 a2] at k
    exact k
  · have k := otake_on (-y0) (-y1) (-y2) s (-v0) (-v1) (-v2) w (okA_of a (ok3_neg b) (ok3_neg c))
    rw [lw_neg s y0 v0 a1 a2, lw_neg s y1 v1 a1 a2, lw_neg s y2 v2 a1 a2] at k
    exact k
end Go.Proofs.Ytbbnbpghhdmhaaa
