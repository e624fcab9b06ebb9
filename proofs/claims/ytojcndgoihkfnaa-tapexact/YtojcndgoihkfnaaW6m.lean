/- wide: what Root and Over ask of each number. -/
import Derived.Test.YtojcndgoihkfnaaMg15
namespace Go.Proofs.Ytojcndgoihkfnaa
open Go.RowKit Go.Shelf

theorem sq_bound {n X : Nat} (hn : n < 4951760157141521099596496896) (hX : X ≤ 140737488355328) : n * X * X < 98079714615416886934934209737619787751599303819750539264 := by
  have h1 : n * X ≤ 4951760157141521099596496896 * 140737488355328 := Nat.mul_le_mul (by omega) hX
  have h2 : n * X * X ≤ 4951760157141521099596496896 * 140737488355328 * 140737488355328 := Nat.mul_le_mul h1 hX
  have e : 4951760157141521099596496896 * 140737488355328 * 140737488355328 = 98079714615416886934934209737619787751599303819750539264 := by decide
  have : n * X * X ≤ 98079714615416886934934209737619787751599303819750539264 := by omega
  rcases Nat.lt_or_eq_of_le this with h | h
  · exact h
  · exfalso
    have h3 : n * X * X ≤ 4951760157141521099596496895 * 140737488355328 * 140737488355328 := Nat.mul_le_mul (Nat.mul_le_mul (by omega) hX) hX
    omega
theorem lin_bound {n X : Nat} (hn : n < 4951760157141521099596496896) (hX : X ≤ 140737488355328) : n * X < 696898287454081973172991196020261297061888 := by
  have h1 : n * X ≤ 4951760157141521099596496895 * 140737488355328 := Nat.mul_le_mul (by omega) hX
  omega
theorem sgnw_sub (p q : Nat) : decide (0 ≤ sgnw ((p : Int) - (q : Int))) = decide (q ≤ p) := by
  by_cases h : q ≤ p
  · rw [decide_eq_true h, decide_eq_true_eq]; unfold sgnw; split
    · omega
    · split <;> omega
  · rw [decide_eq_false h, decide_eq_false_iff_not]; unfold sgnw; split
    · omega
    · split <;> omega

set_option maxHeartbeats 4000000 in
theorem root1_raw (a0 a1 a2 b0 b1 b2 x z1 z2 z3 s : Int) (g h : Nat) (w : World)
    (PB : Hid (H3 w g (.int .u64 a0) (.int .u64 a1) (.int .u64 a2))) (NB : Hid (H3 w h (.int .u64 b0) (.int .u64 b1) (.int .u64 b2)))
    (HT1 : Hid (∀ w', Calls Try.prog 81 #[.agg #[.int .u64 b0, .int .u64 b1, .int .u64 b2], .int .u64 x] w' fun e w'' => (∃ r, e = .returned r ∧ IsW r z1) ∧ Ext w' w''))
    (HT2 : Hid (∀ t w', IsW t z1 → Calls Try.prog 81 #[t, .int .u64 x] w' fun e w'' => (∃ r, e = .returned r ∧ IsW r z2) ∧ Ext w' w''))
    (HM : Hid (∀ t w', IsW t z2 → Calls Try.prog 80 #[.agg #[.int .u64 a0, .int .u64 a1, .int .u64 a2], t] w' fun e w'' => (∃ r, e = .returned r ∧ IsW r z3) ∧ Ext w' w''))
    (HS : Hid (∀ t w', IsW t z3 → Calls Try.prog 82 #[t] w' fun e w'' => e = .returned (.int .i64 s) ∧ Ext w' w'')) :
    Calls Try.prog 79 #[.int .u64 x, .pointer (some ⟨g, 0, none⟩), .pointer (some ⟨h, 0, none⟩)] w fun e w' => e = .returned (.bool (decide (0 ≤ s))) ∧ Ext w w' := by
  obtain ⟨p0, p1, p2, p3, p4, p5, p6⟩ := PB.out
  obtain ⟨n0, n1, n2, n3, n4, n5, n6⟩ := NB.out
  go_enter Try.func79, Try.ntmps79
  go_wp2_with fail
  go_region_with (first | (go_at_call 81; refine (HT2.out _ _ hu1).mono ?_; rintro e w2 ⟨⟨u2, rfl, hu2⟩, x2⟩; have y2 : Ext w.drew w2 := y1.trans x2; obtain ⟨r0, r1, r2, r3, r4, r5, r6⟩ := PB.out.drew.ext y2) | (go_at_call 81; refine (HT1.out _).mono ?_; rintro e w1 ⟨⟨u1, rfl, hu1⟩, x1⟩; have y1 : Ext w.drew w1 := x1; obtain ⟨q0, q1, q2, q3, q4, q5, q6⟩ := PB.out.drew.ext y1) | (go_at_call 80; refine (HM.out _ _ hu2).mono ?_; rintro e w3 ⟨⟨u3, rfl, hu3⟩, x3⟩; have y3 : Ext w.drew w3 := y2.trans x3) | (go_at_call 82; refine (HS.out _ _ hu3).mono ?_; rintro e w4 ⟨rfl, x4⟩; have y4 : Ext w.drew w4 := y3.trans x4))
  all_goals
    have E4 : Ext w w4 := Ext.trans ((Ext.refl _).drew) y4
    go_wp2_with fail
    go_ret
    exact ⟨rfl, E4⟩

theorem root1_any (p n X : Nat) (a0 a1 a2 b0 b1 b2 : Int) (g h : Nat) (w : World) (hu : IsW (.agg #[.int .u64 a0, .int .u64 a1, .int .u64 a2]) p) (hv : IsW (.agg #[.int .u64 b0, .int .u64 b1, .int .u64 b2]) n)
    (hn : n < 4951760157141521099596496896) (hp2 : p < 98079714615416886934934209737619787751599303819750539264) (hX : X < 70368744177664)
    (PB : H3 w g (.int .u64 a0) (.int .u64 a1) (.int .u64 a2)) (NB : H3 w h (.int .u64 b0) (.int .u64 b1) (.int .u64 b2)) :
    Calls Try.prog 79 #[.int .u64 (X : Int), .pointer (some ⟨g, 0, none⟩), .pointer (some ⟨h, 0, none⟩)] w fun e w' => e = .returned (.bool (decide (n * X * X ≤ p))) ∧ Ext w w' := by
  have e2 : ((n : Int) * X * X) = ((n * X * X : Nat) : Int) := by simp [Int.natCast_mul]
  have bd := sq_bound hn (show X ≤ 140737488355328 by omega)
  rw [← sgnw_sub p (n * X * X)]
  exact root1_raw a0 a1 a2 b0 b1 b2 X (n * X) ((n : Int) * X * X) ((p : Int) - ((n * X * X : Nat) : Int)) (sgnw ((p : Int) - ((n * X * X : Nat) : Int))) g h w PB NB
    (fun w' => timesw_any n X _ w' hv (by omega)) (fun t w' ht => timesw_any _ X t w' ht (by omega))
    (fun t w' ht => by rw [← e2]; exact minus_any p _ _ t w' hu ht) (fun t w' ht => signw_any _ t w' ht (inW_of (by omega)))

end Go.Proofs.Ytojcndgoihkfnaa
