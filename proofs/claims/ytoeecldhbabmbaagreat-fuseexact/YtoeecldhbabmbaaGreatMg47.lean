/- FuseExact: what is told of one entry. -/
import Derived.Test.YtoeecldhbabmbaaGreatR15dx
import Derived.Test.YtoeecldhbabmbaaGreatMg30
open Go.Value renaming int → J, agg → zG
open Go.IntKind renaming i64 → zq
open Go.Ending renaming returned → zR
open Go.Proofs.Tryz renaming prog → zP
namespace Go.Proofs.YtoeecldhbabmbaaGreat
open Go.RowKit Go.Shelf
theorem wrap_id {z : Int} (h : -9223372036854775808 ≤ z) (k : z ≤ 9223372036854775807) : Hid (IntKind.i64.wrap z = z) := by
  show IntKind.i64.wrap z = z
  rw [IntKind.wrap_i64]; omega
theorem mul_bnd {n x : Int} (hn : 0 ≤ n ∧ n ≤ 1000) (hx : okW x = true) : -35184372088832000 ≤ n * x ∧ n * x ≤ 35184372088832000 := by
  have b := okW_bounds hx
  have m := mul_le_of (a := n) (A := 1000) (b := x) (B := 35184372088832) (by omega) (by omega) (by omega) (by omega)
  omega
theorem sgn_rad {p : Int} : decide (0 < sgn ((p.natAbs : Int) - 1073741824)) = !(rad p) := by
  have h : rad p = true ↔ -1073741824 ≤ p ∧ p ≤ 1073741824 := rad_iff
  have s : ∀ z : Int, 0 < sgn z ↔ 0 < z := fun z => by unfold sgn; split; omega; split <;> omega
  cases hr : rad p
  · have : ¬ (-1073741824 ≤ p ∧ p ≤ 1073741824) := by rw [← h, hr]; decide
    rw [decide_eq_true]
    · rfl
    · rw [s]; omega
  · have := h.1 hr
    rw [decide_eq_false]
    · rfl
    · rw [s]; omega
theorem small_word {p : Int} (h : -35184372088832000 ≤ p ∧ p ≤ 35184372088832000) : smallR p = (p, true) := by
  unfold smallR
  rw [if_pos (by omega)]
theorem fit_64 {p : Int} (h : -35184372088832000 ≤ p ∧ p ≤ 35184372088832000) : Fit 64 p := fit_word p (by omega) (by omega)
theorem spin_calls {n x : Int} (hn : 0 ≤ n ∧ n ≤ 1000) (hx : okW x = true) : (∀ w', Calls zP 21 #[J zq x, J zq n] w' fun e w'' => (∃ r, e = zR r ∧ IsI w'' r (n * x)) ∧ Ext w' w'') ∧ (∀ r w', IsI w' r (n * x) → Calls zP 23 #[r] w' fun e w'' => (∃ r, e = zR r ∧ IsI w'' r ((n * x).natAbs : Int)) ∧ Ext w' w'') ∧ (∀ r1 r2 w', IsI w' r1 ((n * x).natAbs : Int) → IsI w' r2 1073741824 → Calls zP 20 #[r1, r2] w' fun e w'' => e = zR (J zq (sgn (((n * x).natAbs : Int) - 1073741824))) ∧ Ext w' w'') ∧ (∀ r w', IsI w' r (n * x) → Calls zP 25 #[r] w' fun e w'' => e = zR (.tuple #[J zq (n * x), .bool true]) ∧ Ext w' w'') := by
  have b := okW_bounds hx
  have m := mul_bnd hn hx
  have f := fit_64 m
  have f1 : Fit 64 1073741824 := by unfold Fit; decide
  have f2 : Fit 64 ((n * x).natAbs : Int) := f.of_le (by rw [Int.natAbs_natCast]; exact Nat.le_refl _)
  refine ⟨fun w' => ?_, fun r w' i => abs_isI _ r w' i (f.small (by omega)), fun r1 r2 w' i1 i2 => cmp_isI _ _ r1 r2 w' i1 i2 (f2.small (by omega)) (f1.small (by omega)) ((f2.sub f1).small (by omega)), fun r w' i => ?_⟩
  · have H := prod_any x n w' (word64 hx).1 (word64 hx).2 (by omega) (by omega)
    rw [Int.mul_comm] at H
    exact H
  · have H := small_any _ r w' i (f.small (by omega))
    rw [small_word m] at H
    exact H
theorem rspin_range {a b c d x y z n : Int} (w : World) (k : ok3 x y z = true) (ht : tck n = true) (hr : rad3 (n * x) (n * y) (n * z) = false) : Calls zP 6 #[zG #[J zq a, J zq b, J zq c, J zq d], zG #[J zq x, J zq y, J zq z], J zq n] w fun e w'' => e = zR (.tuple #[zG #[J zq 0, J zq 0, J zq 0, J zq 0], J zq 2]) ∧ Ext w w'' := by
  obtain ⟨g0, g1, g2⟩ := ok3_parts k
  have hn := tck_iff.1 ht
  obtain ⟨P0, A0, C0, S0⟩ := spin_calls hn g0
  obtain ⟨P1, A1, C1, S1⟩ := spin_calls hn g1
  obtain ⟨P2, A2, C2, S2⟩ := spin_calls hn g2
  have F := fun w' => from_any 1073741824 w' (by decide) (by decide)
  have r0 := sgn_rad (p := n * x)
  have r1 := sgn_rad (p := n * y)
  have r2 := sgn_rad (p := n * z)
  unfold rad3 at hr
  cases h0 : rad (n * x)
  · rw [h0] at r0
    exact rspin_bad0 a b c d x y z n 1073741824 _ _ w F P0 A0 C0 r0
  · rw [h0] at r0 hr
    cases h1 : rad (n * y)
    · rw [h1] at r1
      exact rspin_bad1 a b c d x y z n 1073741824 _ _ _ _ w F P0 A0 C0 r0 S0 P1 A1 C1 r1
    · rw [h1] at r1 hr
      have h2 : rad (n * z) = false := by simpa using hr
      rw [h2] at r2
      exact rspin_bad2 a b c d x y z n 1073741824 _ _ _ _ _ _ w F P0 A0 C0 r0 S0 P1 A1 C1 r1 S1 P2 A2 C2 r2
theorem rspin_told {a b c d x y z n u0 u1 u2 u3 : Int} (w : World) (h : okO a b c d = true) (k : ok3 x y z = true) (ht : tck n = true) (hr : rad3 (n * x) (n * y) (n * z) = true) (hu : SpinD a b c d (n * x) (n * y) (n * z) u0 u1 u2 u3) : Calls zP 6 #[zG #[J zq a, J zq b, J zq c, J zq d], zG #[J zq x, J zq y, J zq z], J zq n] w fun e w'' => e = zR (.tuple #[zG #[J zq u0, J zq u1, J zq u2, J zq u3], J zq 0]) ∧ Ext w w'' := by
  obtain ⟨g0, g1, g2⟩ := ok3_parts k
  have hn := tck_iff.1 ht
  obtain ⟨P0, A0, C0, S0⟩ := spin_calls hn g0
  obtain ⟨P1, A1, C1, S1⟩ := spin_calls hn g1
  obtain ⟨P2, A2, C2, S2⟩ := spin_calls hn g2
  have F := fun w' => from_any 1073741824 w' (by decide) (by decide)
  have r0 := sgn_rad (p := n * x)
  have r1 := sgn_rad (p := n * y)
  have r2 := sgn_rad (p := n * z)
  have hrr := hr
  unfold rad3 at hrr
  simp only [Bool.and_eq_true] at hrr
  rw [hrr.1.1] at r0
  rw [hrr.1.2] at r1
  rw [hrr.2] at r2
  obtain ⟨l0, l1, l2⟩ := rad3_abs hr
  generalize hX : n * x = X at *
  generalize hY : n * y = Y at *
  generalize hZ : n * z = Z at *
  have o4 := okO_ok4 h
  obtain ⟨oa, ob, oc, od⟩ := ok4_parts o4
  have kX : okW X = true := okW_of (by omega) (by omega)
  have kY : okW Y = true := okW_of (by omega) (by omega)
  have kZ : okW Z = true := okW_of (by omega) (by omega)
  have k0 : okW 0 = true := by decide
  have d4 : ok4 0 X Y Z = true := by unfold ok4; rw [k0, kX, kY, kZ]; rfl
  obtain ⟨f0, f1, f2, f3⟩ := qw_fit (fitW oa) (fitW ob) (fitW oc) (fitW od) (fitW k0) (fitW kX) (fitW kY) (fitW kZ)
  obtain ⟨p0, p1, p2, p3⟩ := xp_le h hr
  have b0 := half_le p0; have b1 := half_le p1; have b2 := half_le p2; have b3 := half_le p3
  obtain ⟨q0, q1, q2, q3⟩ := sp_le h hr
  obtain ⟨v0, v1, v2, v3⟩ := okO_abs h
  have e0 : qw a b c d 0 X Y Z = xp0 b c d X Y Z := by unfold qw xp0; grind
  have e1 : qx a b c d 0 X Y Z = xp1 a c d X Y Z := by unfold qx xp1; grind
  have e2 : qy a b c d 0 X Y Z = xp2 a b d X Y Z := by unfold qy xp2; grind
  have e3 : qz a b c d 0 X Y Z = xp3 a b c X Y Z := by unfold qz xp3; grind
  have n31 : ∀ p : Int, IsNear p (2 ^ 31) (half p) := fun p => by
    have e : (2 : Int) ^ 31 = 2147483648 := by decide
    rw [e]
    exact nearI_spec p 2147483648 (by decide)
  have HE := fun w' => rexact_any a b c d 0 X Y Z w' o4 d4
  rw [e0, e1, e2, e3] at HE
  rw [e0] at f0
  rw [e1] at f1
  rw [e2] at f2
  rw [e3] at f3
  have HH := fun v w' (i : IsFour w' v (xp0 b c d X Y Z) (xp1 a c d X Y Z) (xp2 a b d X Y Z) (xp3 a b c X Y Z)) => rshift_any _ _ _ _ _ _ _ _ 31 95 v w' i (by omega) (by omega) (by omega) f0 f1 f2 f3 (n31 _) (n31 _) (n31 _) (n31 _)
  unfold qres at HH
  rw [if_pos (ok4_of (by omega) (by omega) (by omega) (by omega))] at HH
  have HU := fun w' => runit15_raw _ _ _ _ u0 u1 u2 u3 w' (fun w'' => runitq_told w'' (ok4_of (a := sp0 a b c d X Y Z) (b := sp1 a b c d X Y Z) (c := sp2 a b c d X Y Z) (d := sp3 a b c d X Y Z) (by omega) (by omega) (by omega) (by omega)) (sp_zero h) hu)
  unfold sp0 at HU q0
  unfold sp1 at HU q1
  unfold sp2 at HU q2
  unfold sp3 at HU q3
  exact rspin_raw a b c d x y z n 1073741824 X Y Z _ _ _ _ _ _ _ u0 u1 u2 u3 _ _ _ _ w F P0 A0 C0 r0 S0 P1 A1 C1 r1 S1 P2 A2 C2 r2 S2 HE HH (wrap_id (by omega) (by omega)) (wrap_id (by omega) (by omega)) (wrap_id (by omega) (by omega)) (wrap_id (by omega) (by omega)) HU
set_option maxHeartbeats 4000000 in
theorem is15_any (x y z u e : Int) (w : World) (h : e = 0 ∨ x = 0 ∧ y = 0 ∧ z = 0 ∧ u = 0 ∧ e ≠ 0) :
    Calls zP 12 #[zG #[J zq x, J zq y, J zq z, J zq u], J zq e, zG #[J zq x, J zq y, J zq z, J zq u], J zq e] w fun e' w' => e' = zR (.bool true) ∧ Ext w w' := by
  rcases h with rfl | ⟨rfl, rfl, rfl, rfl, h⟩
  · have he := eqF x y z u x y z u
    simp only [beq_self_eq_true, Bool.and_self] at he
    go_enter Tryz.func12, Tryz.ntmps12
    go_wp2_with (go_at_call 10; refine (num15_any _ _).mono ?_; rintro e wx ⟨rfl, hwx⟩; have hwy := hwx.symm; clear hwx; subst hwy)
    go_ret
    exact ⟨by simp, xa⟩
  · have h' : (e != 0) = true := by simpa using h
    clear h
    have he := eqF 0 0 0 0 0 0 0 0
    simp only [beq_self_eq_true, Bool.and_self] at he
    go_enter Tryz.func12, Tryz.ntmps12
    go_wp2_with (go_at_call 10; refine (num15_any _ _).mono ?_; rintro e wx ⟨rfl, hwx⟩; have hwy := hwx.symm; clear hwx; subst hwy)
    go_ret
    exact ⟨by simp, xa⟩
set_option maxHeartbeats 1000000 in
theorem rfresh_any (w : World) : Calls zP 16 #[] w fun e w' => e = zR (zG #[J zq 1073741824, J zq 0, J zq 0, J zq 0]) ∧ Ext w w' := by
  go_enter Tryz.func16, Tryz.ntmps16
  go_wp2_with fail
  exact bodyPost_ret (v := zG #[J zq 1073741824, J zq 0, J zq 0, J zq 0]) (by simp [results, Tryz.results16, go_sem]) rfl ⟨rfl, xa⟩
theorem spin_both (a b c d x y z n : Int) : ∃ x0 x1 x2 x3 er : Int, (∀ w, Calls zP 9 #[zG #[J zq a, J zq b, J zq c, J zq d], zG #[J zq x, J zq y, J zq z], J zq n] w fun e w' => e = zR (.tuple #[zG #[J zq x0, J zq x1, J zq x2, J zq x3], J zq er]) ∧ Ext w w') ∧ (∀ w, Calls zP 12 #[zG #[J zq x0, J zq x1, J zq x2, J zq x3], J zq er, zG #[J zq x0, J zq x1, J zq x2, J zq x3], J zq er] w fun e w' => e = zR (.bool true) ∧ Ext w w') ∧ ((okO a b c d && ok3 x y z && tck n) = true ∧ (∀ w, Calls zP 6 #[zG #[J zq a, J zq b, J zq c, J zq d], zG #[J zq x, J zq y, J zq z], J zq n] w fun e w' => e = zR (.tuple #[zG #[J zq x0, J zq x1, J zq x2, J zq x3], J zq er]) ∧ Ext w w') ∨ (okO a b c d && ok3 x y z && tck n) = false ∧ (x0 = 0 ∧ x1 = 0 ∧ x2 = 0 ∧ x3 = 0 ∧ er = 1)) := by
  cases h : (okO a b c d && ok3 x y z && tck n)
  · exact ⟨0, 0, 0, 0, 1, fun w => spin_form w h, fun w => is15_any 0 0 0 0 1 w (.inr ⟨rfl, rfl, rfl, rfl, by decide⟩), .inr ⟨rfl, rfl, rfl, rfl, rfl, rfl⟩⟩
  · obtain ⟨h', ht⟩ := Bool.and_eq_true_iff.1 h
    obtain ⟨ho, hk⟩ := Bool.and_eq_true_iff.1 h'
    cases hr : rad3 (n * x) (n * y) (n * z)
    · exact ⟨0, 0, 0, 0, 2, fun w => spin_range w ho hk ht hr, fun w => is15_any 0 0 0 0 2 w (.inr ⟨rfl, rfl, rfl, rfl, by decide⟩), .inl ⟨rfl, fun w => rspin_range w hk ht hr⟩⟩
    · obtain ⟨u0, u1, u2, u3, hu⟩ := spinD_ex (n * x) (n * y) (n * z) ho
      exact ⟨u0, u1, u2, u3, 0, fun w => spin_told w ho hk ht hr hu, fun w => is15_any u0 u1 u2 u3 0 w (.inl rfl), .inl ⟨rfl, fun w => rspin_told w ho hk ht hr hu⟩⟩
theorem up_both (a b c d x y z : Int) : ∃ x0 x1 x2 x3 er : Int, (∀ w, Calls zP 13 #[zG #[J zq a, J zq b, J zq c, J zq d], zG #[J zq x, J zq y, J zq z]] w fun e w' => e = zR (.tuple #[zG #[J zq x0, J zq x1, J zq x2, J zq x3], J zq er]) ∧ Ext w w') ∧ (∀ w, Calls zP 12 #[zG #[J zq x0, J zq x1, J zq x2, J zq x3], J zq er, zG #[J zq x0, J zq x1, J zq x2, J zq x3], J zq er] w fun e w' => e = zR (.bool true) ∧ Ext w w') ∧ ((okO a b c d && ok3 x y z) = true ∧ (∀ w, Calls zP 7 #[zG #[J zq a, J zq b, J zq c, J zq d], zG #[J zq x, J zq y, J zq z]] w fun e w' => e = zR (.tuple #[zG #[J zq x0, J zq x1, J zq x2, J zq x3], J zq er]) ∧ Ext w w') ∨ (okO a b c d && ok3 x y z) = false ∧ (x0 = 0 ∧ x1 = 0 ∧ x2 = 0 ∧ x3 = 0 ∧ er = 1)) := by
  cases h : (okO a b c d && ok3 x y z)
  · exact ⟨0, 0, 0, 0, 1, fun w => up_form w h, fun w => is15_any 0 0 0 0 1 w (.inr ⟨rfl, rfl, rfl, rfl, by decide⟩), .inr ⟨rfl, rfl, rfl, rfl, rfl, rfl⟩⟩
  · obtain ⟨ho, hk⟩ := Bool.and_eq_true_iff.1 h
    obtain ⟨u0, u1, u2, u3, hu⟩ := upD_ex x y z ho
    exact ⟨u0, u1, u2, u3, 0, fun w => up_told w ho hk hu, fun w => is15_any u0 u1 u2 u3 0 w (.inl rfl), .inl ⟨rfl, fun w => rup_told w ho hk hu⟩⟩
theorem north_both (a b c d x y z : Int) : ∃ x0 x1 x2 x3 er : Int, (∀ w, Calls zP 14 #[zG #[J zq a, J zq b, J zq c, J zq d], zG #[J zq x, J zq y, J zq z]] w fun e w' => e = zR (.tuple #[zG #[J zq x0, J zq x1, J zq x2, J zq x3], J zq er]) ∧ Ext w w') ∧ (∀ w, Calls zP 12 #[zG #[J zq x0, J zq x1, J zq x2, J zq x3], J zq er, zG #[J zq x0, J zq x1, J zq x2, J zq x3], J zq er] w fun e w' => e = zR (.bool true) ∧ Ext w w') ∧ ((okO a b c d && ok3 x y z) = true ∧ (∀ w, Calls zP 8 #[zG #[J zq a, J zq b, J zq c, J zq d], zG #[J zq x, J zq y, J zq z]] w fun e w' => e = zR (.tuple #[zG #[J zq x0, J zq x1, J zq x2, J zq x3], J zq er]) ∧ Ext w w') ∨ (okO a b c d && ok3 x y z) = false ∧ (x0 = 0 ∧ x1 = 0 ∧ x2 = 0 ∧ x3 = 0 ∧ er = 1)) := by
  cases h : (okO a b c d && ok3 x y z)
  · exact ⟨0, 0, 0, 0, 1, fun w => north_form w h, fun w => is15_any 0 0 0 0 1 w (.inr ⟨rfl, rfl, rfl, rfl, by decide⟩), .inr ⟨rfl, rfl, rfl, rfl, rfl, rfl⟩⟩
  · obtain ⟨ho, hk⟩ := Bool.and_eq_true_iff.1 h
    cases hn : ok3 (nh0 a b c d x y z) (nh1 a b c d x y z) (nh2 a b c d x y z)
    · exact ⟨0, 0, 0, 0, 2, fun w => north_range w ho hk hn, fun w => is15_any 0 0 0 0 2 w (.inr ⟨rfl, rfl, rfl, rfl, by decide⟩), .inl ⟨rfl, fun w => rnorth_range w ho hk hn⟩⟩
    · obtain ⟨u0, u1, u2, u3, hu⟩ := northD_ex x y z ho
      exact ⟨u0, u1, u2, u3, 0, fun w => north_told w ho hk hn hu, fun w => is15_any u0 u1 u2 u3 0 w (.inl rfl), .inl ⟨rfl, fun w => rnorth_told w ho hk hn hu⟩⟩
set_option maxHeartbeats 2000000 in
theorem fex_told (z : Nat → Int) : ∃ (bA bB bT : Bool) (o1 o2 o3 es ep en S0 S1 S2 S3 P0 P1 P2 P3 N0 N1 N2 N3 : Int), (∀ w, Calls zP 4 #[zG #[J zq (z 0), J zq (z 1), J zq (z 2), J zq (z 3)]] w fun e w' => e = zR (.bool bA) ∧ Ext w w') ∧ (bA = true ∧ o1 = 0 ∨ bA = false ∧ o1 = 1) ∧ (∀ w, Calls zP 5 #[zG #[J zq (z 4), J zq (z 5), J zq (z 6)]] w fun e w' => e = zR (.bool bB) ∧ Ext w w') ∧ (bB = true ∧ o2 = o1 ∨ bB = false ∧ o2 = 1) ∧ (bT = false ∧ 0 ≤ z 7 ∧ z 7 ≤ 1000 ∨ bT = true ∧ z 7 < 0 ∨ bT = true ∧ 1000 < z 7) ∧ (bT = false ∧ o3 = o2 ∨ bT = true ∧ o3 = 1) ∧ (∀ w, Calls zP 11 #[zG #[J zq (z 0), J zq (z 1), J zq (z 2), J zq (z 3)]] w fun e w' => e = zR (J zq o1) ∧ Ext w w') ∧ (∀ w, Calls zP 9 #[zG #[J zq (z 0), J zq (z 1), J zq (z 2), J zq (z 3)], zG #[J zq (z 4), J zq (z 5), J zq (z 6)], J zq (z 7)] w fun e w' => e = zR (.tuple #[zG #[J zq S0, J zq S1, J zq S2, J zq S3], J zq es]) ∧ Ext w w') ∧ (∀ w, Calls zP 12 #[zG #[J zq S0, J zq S1, J zq S2, J zq S3], J zq es, zG #[J zq S0, J zq S1, J zq S2, J zq S3], J zq es] w fun e w' => e = zR (.bool true) ∧ Ext w w') ∧ (∀ w, Calls zP 13 #[zG #[J zq (z 0), J zq (z 1), J zq (z 2), J zq (z 3)], zG #[J zq (z 4), J zq (z 5), J zq (z 6)]] w fun e w' => e = zR (.tuple #[zG #[J zq P0, J zq P1, J zq P2, J zq P3], J zq ep]) ∧ Ext w w') ∧ (∀ w, Calls zP 12 #[zG #[J zq P0, J zq P1, J zq P2, J zq P3], J zq ep, zG #[J zq P0, J zq P1, J zq P2, J zq P3], J zq ep] w fun e w' => e = zR (.bool true) ∧ Ext w w') ∧ (∀ w, Calls zP 14 #[zG #[J zq (z 0), J zq (z 1), J zq (z 2), J zq (z 3)], zG #[J zq (z 4), J zq (z 5), J zq (z 6)]] w fun e w' => e = zR (.tuple #[zG #[J zq N0, J zq N1, J zq N2, J zq N3], J zq en]) ∧ Ext w w') ∧ (∀ w, Calls zP 12 #[zG #[J zq N0, J zq N1, J zq N2, J zq N3], J zq en, zG #[J zq N0, J zq N1, J zq N2, J zq N3], J zq en] w fun e w' => e = zR (.bool true) ∧ Ext w w') ∧ (o3 = 0 ∧ (∀ w, Calls zP 6 #[zG #[J zq (z 0), J zq (z 1), J zq (z 2), J zq (z 3)], zG #[J zq (z 4), J zq (z 5), J zq (z 6)], J zq (z 7)] w fun e w' => e = zR (.tuple #[zG #[J zq S0, J zq S1, J zq S2, J zq S3], J zq es]) ∧ Ext w w') ∨ o3 = 1 ∧ (S0 = 0 ∧ S1 = 0 ∧ S2 = 0 ∧ S3 = 0 ∧ es = 1)) ∧ (o2 = 0 ∧ (∀ w, Calls zP 7 #[zG #[J zq (z 0), J zq (z 1), J zq (z 2), J zq (z 3)], zG #[J zq (z 4), J zq (z 5), J zq (z 6)]] w fun e w' => e = zR (.tuple #[zG #[J zq P0, J zq P1, J zq P2, J zq P3], J zq ep]) ∧ Ext w w') ∧ (∀ w, Calls zP 8 #[zG #[J zq (z 0), J zq (z 1), J zq (z 2), J zq (z 3)], zG #[J zq (z 4), J zq (z 5), J zq (z 6)]] w fun e w' => e = zR (.tuple #[zG #[J zq N0, J zq N1, J zq N2, J zq N3], J zq en]) ∧ Ext w w') ∨ o2 = 1 ∧ (P0 = 0 ∧ P1 = 0 ∧ P2 = 0 ∧ P3 = 0 ∧ ep = 1) ∧ (N0 = 0 ∧ N1 = 0 ∧ N2 = 0 ∧ N3 = 0 ∧ en = 1)) := by
  obtain ⟨S0, S1, S2, S3, es, PS, IS, RS⟩ := spin_both (z 0) (z 1) (z 2) (z 3) (z 4) (z 5) (z 6) (z 7)
  obtain ⟨P0, P1, P2, P3, ep, PP, IP, RP⟩ := up_both (z 0) (z 1) (z 2) (z 3) (z 4) (z 5) (z 6)
  obtain ⟨N0, N1, N2, N3, en, PN, IN, RN⟩ := north_both (z 0) (z 1) (z 2) (z 3) (z 4) (z 5) (z 6)
  have HA := fun w => may15_any (z 0) (z 1) (z 2) (z 3) w
  have HB := fun w => mayv_any (z 4) (z 5) (z 6) w
  have CK := fun w => fCheck_any (z 0) (z 1) (z 2) (z 3) w
  obtain ⟨bT, ET, HT⟩ : ∃ bT : Bool, (bT = false ∧ 0 ≤ z 7 ∧ z 7 ≤ 1000 ∨ bT = true ∧ z 7 < 0 ∨ bT = true ∧ 1000 < z 7) ∧ (tck (z 7) = true ∧ bT = false ∨ tck (z 7) = false ∧ bT = true) := by
    cases ht : tck (z 7)
    · refine ⟨true, ?_, .inr ⟨rfl, rfl⟩⟩
      have : ¬ (0 ≤ z 7 ∧ z 7 ≤ 1000) := by rw [← tck_iff, ht]; decide
      by_cases h0 : z 7 < 0
      · exact .inr (.inl ⟨rfl, h0⟩)
      · exact .inr (.inr ⟨rfl, by omega⟩)
    · exact ⟨false, .inl ⟨rfl, tck_iff.1 ht⟩, .inl ⟨rfl, rfl⟩⟩
  have DT1 : bT = false ∧ (1 : Int) = 1 ∨ bT = true ∧ (1 : Int) = 1 := by cases bT; exact .inl ⟨rfl, rfl⟩; exact .inr ⟨rfl, rfl⟩
  cases gA : okO (z 0) (z 1) (z 2) (z 3)
  · rw [gA] at RS RP RN
    rw [chkO_n gA] at CK
    simp only [Bool.false_and, Bool.false_eq_true, false_and, true_and, false_or] at RS RP RN
    refine ⟨okO (z 0) (z 1) (z 2) (z 3), ok3 (z 4) (z 5) (z 6), bT, 1, 1, 1, es, ep, en, S0, S1, S2, S3, P0, P1, P2, P3, N0, N1, N2, N3, HA, .inr ⟨gA, rfl⟩, HB, ?_, ET, DT1, CK, PS, IS, PP, IP, PN, IN, .inr ⟨rfl, RS⟩, .inr ⟨rfl, RP, RN⟩⟩
    cases ok3 (z 4) (z 5) (z 6); exact .inr ⟨rfl, rfl⟩; exact .inl ⟨rfl, rfl⟩
  · rw [gA] at RS RP RN
    rw [chkO_y gA] at CK
    cases gB : ok3 (z 4) (z 5) (z 6)
    · rw [gB] at RS RP RN
      simp only [Bool.and_false, Bool.false_and, Bool.false_eq_true, false_and, true_and, false_or] at RS RP RN
      exact ⟨okO (z 0) (z 1) (z 2) (z 3), ok3 (z 4) (z 5) (z 6), bT, 0, 1, 1, es, ep, en, S0, S1, S2, S3, P0, P1, P2, P3, N0, N1, N2, N3, HA, .inl ⟨gA, rfl⟩, HB, .inr ⟨gB, rfl⟩, ET, DT1, CK, PS, IS, PP, IP, PN, IN, .inr ⟨rfl, RS⟩, .inr ⟨rfl, RP, RN⟩⟩
    · rw [gB] at RS RP RN
      simp only [Bool.true_and, Bool.and_self, Bool.true_eq_false, false_and, true_and, or_false] at RS RP RN
      rcases HT with ⟨ht, h⟩ | ⟨ht, h⟩
      · rw [ht] at RS
        simp only [Bool.true_eq_false, false_and, true_and, or_false] at RS
        exact ⟨okO (z 0) (z 1) (z 2) (z 3), ok3 (z 4) (z 5) (z 6), bT, 0, 0, 0, es, ep, en, S0, S1, S2, S3, P0, P1, P2, P3, N0, N1, N2, N3, HA, .inl ⟨gA, rfl⟩, HB, .inl ⟨gB, rfl⟩, ET, .inl ⟨h, rfl⟩, CK, PS, IS, PP, IP, PN, IN, .inl ⟨rfl, RS⟩, .inl ⟨rfl, RP, RN⟩⟩
      · rw [ht] at RS
        simp only [Bool.false_eq_true, false_and, true_and, false_or] at RS
        exact ⟨okO (z 0) (z 1) (z 2) (z 3), ok3 (z 4) (z 5) (z 6), bT, 0, 0, 1, es, ep, en, S0, S1, S2, S3, P0, P1, P2, P3, N0, N1, N2, N3, HA, .inl ⟨gA, rfl⟩, HB, .inl ⟨gB, rfl⟩, ET, .inr ⟨h, rfl⟩, CK, PS, IS, PP, IP, PN, IN, .inr ⟨rfl, RS⟩, .inl ⟨rfl, RP, RN⟩⟩
end Go.Proofs.YtoeecldhbabmbaaGreat
