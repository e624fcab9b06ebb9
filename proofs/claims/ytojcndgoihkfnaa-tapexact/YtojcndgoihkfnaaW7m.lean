/- wide: Root. -/
import Derived.Test.YtojcndgoihkfnaaW6m
import Derived.Test.YtojcndgoihkfnaaRootQNumm
namespace Go.Proofs.Ytojcndgoihkfnaa
open Go.RowKit Go.Shelf

theorem div_sq {p n X : Nat} (hn : 0 < n) : X * X ≤ p / n ↔ n * X * X ≤ p := by
  rw [Nat.le_div_iff_mul_le hn, Nat.mul_assoc n, Nat.mul_comm (X * X)]

theorem exists_sqrt (N : Nat) : ∃ k, k * k ≤ N ∧ N < (k + 1) * (k + 1) := by
  induction N with
  | zero => exact ⟨0, by omega, by omega⟩
  | succ N ih =>
    obtain ⟨k, h1, h2⟩ := ih
    by_cases h : N + 1 < (k + 1) * (k + 1)
    · exact ⟨k, by omega, h⟩
    · refine ⟨k + 1, by omega, ?_⟩
      have : (k + 1) * (k + 1) < (k + 1 + 1) * (k + 1 + 1) := Nat.mul_lt_mul_of_lt_of_le (by omega) (by omega) (by omega)
      omega
theorem sqrt_unique {N a b : Nat} (a1 : a * a ≤ N) (a2 : N < (a + 1) * (a + 1)) (b1 : b * b ≤ N) (b2 : N < (b + 1) * (b + 1)) : a = b := by
  rcases Nat.lt_trichotomy a b with h | h | h
  · have := Nat.mul_le_mul (show a + 1 ≤ b by omega) (show a + 1 ≤ b by omega); omega
  · exact h
  · have := Nat.mul_le_mul (show b + 1 ≤ a by omega) (show b + 1 ≤ a by omega); omega

set_option maxHeartbeats 8000000 in
theorem root_raw (a0 a1 a2 b0 b1 b2 k s z4 z5 z6 z7 z8 : Int) (w : World)
    (hk0 : 0 ≤ k) (hk1 : k < 70368744177664)
    (HR : Hid (∀ w', H3 w' w.heap.size (.int .u64 a0) (.int .u64 a1) (.int .u64 a2) → H3 w' (w.heap.size + 1) (.int .u64 b0) (.int .u64 b1) (.int .u64 b2) → Calls Try.prog 78 #[.func (.func 79) #[] #[.pointer (some ⟨w.heap.size, 0, none⟩), .pointer (some ⟨w.heap.size + 1, 0, none⟩)]] w' fun e w'' => e = .returned (.int .u64 k) ∧ Ext w' w''))
    (HT4 : Hid (∀ w', Calls Try.prog 81 #[.agg #[.int .u64 a0, .int .u64 a1, .int .u64 a2], .int .u64 4] w' fun e w'' => (∃ r, e = .returned r ∧ IsW r z4) ∧ Ext w' w''))
    (HT1 : Hid (∀ w', Calls Try.prog 81 #[.agg #[.int .u64 b0, .int .u64 b1, .int .u64 b2], .int .u64 (2 * k + 1)] w' fun e w'' => (∃ r, e = .returned r ∧ IsW r z5) ∧ Ext w' w''))
    (HT2 : Hid (∀ t w', IsW t z5 → Calls Try.prog 81 #[t, .int .u64 (2 * k + 1)] w' fun e w'' => (∃ r, e = .returned r ∧ IsW r z6) ∧ Ext w' w''))
    (HM : Hid (∀ t t' w', IsW t z4 → IsW t' z6 → Calls Try.prog 80 #[t, t'] w' fun e w'' => (∃ r, e = .returned r ∧ IsW r z7) ∧ Ext w' w''))
    (HS : Hid (∀ t w', IsW t z7 → Calls Try.prog 82 #[t] w' fun e w'' => e = .returned (.int .i64 s) ∧ Ext w' w''))
    (HN : Hid (∀ w', Calls Try.prog 83 #[.int .u64 k, .int .i64 s] w' fun e w'' => (∃ r, e = .returned r ∧ IsW r z8) ∧ Ext w' w'')) :
    Calls Try.prog 56 #[.agg #[.int .u64 a0, .int .u64 a1, .int .u64 a2], .agg #[.int .u64 b0, .int .u64 b1, .int .u64 b2]] w fun e w' => (∃ r, e = .returned r ∧ IsW r z8) ∧ Ext w w' := by
  go_enter Try.func56, Try.ntmps56
  go_wp2_with fail
  refine (HR.out _ (H3.alloc (H3.alloc (h3_at rfl) _) _) (H3.alloc (h3_at (by simp)) _)).mono ?_
  rintro e w1 ⟨rfl, x1⟩
  have PB : Hid (H3 w1 w.heap.size (.int .u64 a0) (.int .u64 a1) (.int .u64 a2)) := (H3.alloc (H3.alloc (h3_at rfl) _) _).ext x1
  have NB : Hid (H3 w1 (w.heap.size + 1) (.int .u64 b0) (.int .u64 b1) (.int .u64 b2)) := (H3.alloc (h3_at (by simp)) _).ext x1
  have RB : Hid (H3 w1 (w.heap.size + 1 + 1) (.int .u64 0) (.int .u64 0) (.int .u64 0)) := (h3_at (by simp)).ext x1
  have E1 : Ext w w1.drew := Ext.drew (Ext.trans (by repeat (first | with_reducible assumption | with_reducible exact Ext.refl _ | with_reducible refine Ext.drew ?_ | with_reducible refine Ext.drewN ?_ _ | with_reducible refine Ext.alloc ?_ _ | with_reducible refine Ext.set ?_ (by first | exact Nat.le_refl _ | (dsimp only; omega) | (simp; done)) _)) x1)
  clear x1
  obtain ⟨p0, p1, p2, p3, p4, p5, p6⟩ := PB.out
  obtain ⟨n0, n1, n2, n3, n4, n5, n6⟩ := NB.out
  have y1 : Ext w1.drew w1.drew := Ext.refl _
  go_wp2_with fail
  go_region_with (first | (go_at_call_of 81 (Value.agg #[Value.int IntKind.u64 a0, Value.int IntKind.u64 a1, Value.int IntKind.u64 a2]); refine (HT4.out _).mono ?_; rintro e w4 ⟨⟨u4, rfl, hu4⟩, x4⟩; have y4 : Ext w1.drew w4 := Ext.trans (by with_reducible assumption) x4; obtain ⟨p0, p1, p2, p3, p4, p5, p6⟩ := PB.out.drew.ext y4; obtain ⟨n0, n1, n2, n3, n4, n5, n6⟩ := NB.out.drew.ext y4) | (go_at_call_of 81 (Value.agg #[Value.int IntKind.u64 b0, Value.int IntKind.u64 b1, Value.int IntKind.u64 b2]); refine (HT1.out _).mono ?_; rintro e w5 ⟨⟨u5, rfl, hu5⟩, x5⟩; have y5 : Ext w1.drew w5 := Ext.trans (by with_reducible assumption) x5; obtain ⟨p0, p1, p2, p3, p4, p5, p6⟩ := PB.out.drew.ext y5; obtain ⟨n0, n1, n2, n3, n4, n5, n6⟩ := NB.out.drew.ext y5) | (go_at_call_of 81 u5; refine (HT2.out _ _ hu5).mono ?_; rintro e w6 ⟨⟨u6, rfl, hu6⟩, x6⟩; have y6 : Ext w1.drew w6 := Ext.trans (by with_reducible assumption) x6; obtain ⟨p0, p1, p2, p3, p4, p5, p6⟩ := PB.out.drew.ext y6; obtain ⟨n0, n1, n2, n3, n4, n5, n6⟩ := NB.out.drew.ext y6) | (go_at_call 80; refine (HM.out _ _ _ hu4 hu6).mono ?_; rintro e w7 ⟨⟨u7, rfl, hu7⟩, x7⟩; have y7 : Ext w1.drew w7 := Ext.trans (by with_reducible assumption) x7; obtain ⟨p0, p1, p2, p3, p4, p5, p6⟩ := PB.out.drew.ext y7; obtain ⟨n0, n1, n2, n3, n4, n5, n6⟩ := NB.out.drew.ext y7) | (go_at_call 82; refine (HS.out _ _ hu7).mono ?_; rintro e w8 ⟨rfl, x8⟩; have y8 : Ext w1.drew w8 := Ext.trans (by with_reducible assumption) x8; obtain ⟨p0, p1, p2, p3, p4, p5, p6⟩ := PB.out.drew.ext y8; obtain ⟨n0, n1, n2, n3, n4, n5, n6⟩ := NB.out.drew.ext y8) | (go_at_call 83; refine (HN.out _).mono ?_; rintro e w9 ⟨⟨u9, rfl, m0, m1, m2, rfl, hr⟩, x9⟩; have HRr : Hid _ := hr; clear hr; have y9 : Ext w1.drew w9 := Ext.trans (by with_reducible assumption) x9; obtain ⟨p0, p1, p2, p3, p4, p5, p6⟩ := PB.out.drew.ext y9; obtain ⟨n0, n1, n2, n3, n4, n5, n6⟩ := NB.out.drew.ext y9; obtain ⟨c0, c1, c2, c3, c4, c5, c6⟩ := RB.out.drew.ext y9))
  all_goals
    have E8 : Ext w w9 := E1.trans y9
    clear y1 y4 y5 y6 y7 y8 y9 x4 x5 x6 x7 x8 x9 E1
    go_wp2_with fail
    exact bodyPost_ret (v := .agg #[.int .u64 m0, .int .u64 m1, .int .u64 m2]) (by simp [results, Try.results56, go_sem, c0, c1, c2]) rfl ⟨⟨_, rfl, _, _, _, rfl, HRr.out⟩, by repeat (first | with_reducible assumption | with_reducible exact Ext.refl _ | with_reducible refine Ext.drew ?_ | with_reducible refine Ext.drewN ?_ _ | with_reducible refine Ext.alloc ?_ _ | with_reducible refine Ext.set ?_ (by first | exact Nat.le_refl _ | (dsimp only; omega) | (simp; done)) _)⟩

theorem upw_root {p n k : Nat} (h0 : 0 < n) (h1 : n * k * k ≤ p) (h2 : ¬ n * (k + 1) * (k + 1) ≤ p) : ∃ K : Nat, upw k (sgnw ((p : Int) * 4 - ((n * (2 * k + 1) * (2 * k + 1) : Nat) : Int))) = K ∧ RootQ p n K ∧ K ≤ k + 1 := by
  have c6 : n * (2 * k + 1) * (2 * k + 1) = (2 * k + 1) * (2 * k + 1) * n := by rw [Nat.mul_assoc, Nat.mul_comm]
  have c7 : n * k * k = k * k * n := by rw [Nat.mul_assoc, Nat.mul_comm]
  have c8 : n * (k + 1) * (k + 1) = (k + 1) * (k + 1) * n := by rw [Nat.mul_assoc, Nat.mul_comm]
  unfold upw
  split
  · rename_i h
    refine ⟨k + 1, by omega, rootQ_up (by omega) ?_, by omega⟩
    unfold sgnw at h
    split at h
    · right; omega
    · split at h
      · omega
      · left; omega
  · rename_i h
    refine ⟨k, rfl, rootQ_down h0 (by omega) ?_, by omega⟩
    unfold sgnw at h
    split at h
    · right; omega
    · split at h
      · left; omega
      · omega

theorem rootw_any (p n : Nat) (u v : Value) (w : World) (hu : IsW u p) (hv : IsW v n) (h0 : 0 < n) (hn : n < 4951760157141521099596496896) (hp : p / n < 4951760157141521099596496896) (hp2 : p < 98079714615416886934934209737619787751599303819750539264) :
    Calls Try.prog 56 #[u, v] w fun e w' => (∃ r, e = .returned r ∧ ∃ k : Nat, IsW r k ∧ RootQ p n k ∧ k ≤ 70368744177664) ∧ Ext w w' := by
  obtain ⟨a0, a1, a2, rfl, ha⟩ := hu
  obtain ⟨b0, b1, b2, rfl, hb⟩ := hv
  have hA : IsW (.agg #[.int .u64 a0, .int .u64 a1, .int .u64 a2]) p := ⟨_, _, _, rfl, ha⟩
  have hB : IsW (.agg #[.int .u64 b0, .int .u64 b1, .int .u64 b2]) n := ⟨_, _, _, rfl, hb⟩
  have n46 : ¬ n * 70368744177664 * 70368744177664 ≤ p := by
    intro h
    have := (Nat.le_div_iff_mul_le h0 (x := 4951760157141521099596496896) (y := p)).2 (by omega)
    omega
  obtain ⟨k, hk1, hk2, hk3⟩ : ∃ k : Nat, n * k * k ≤ p ∧ ¬ n * (k + 1) * (k + 1) ≤ p ∧ k < 70368744177664 := by
    obtain ⟨k, q1, q2⟩ := exists_sqrt (p / n)
    refine ⟨k, (div_sq h0).1 q1, fun h => by have := (div_sq h0).2 h; omega, ?_⟩
    apply Classical.byContradiction
    intro h
    have : 70368744177664 * 70368744177664 ≤ k * k := Nat.mul_le_mul (by omega) (by omega)
    omega
  have eo : ((2 * k + 1 : Nat) : Int) = 2 * (k : Int) + 1 := by omega
  have bd := sq_bound hn (show 2 * k + 1 ≤ 140737488355328 by omega)
  have e6 : ((n : Int) * (2 * (k : Int) + 1) * (2 * (k : Int) + 1)) = ((n * (2 * k + 1) * (2 * k + 1) : Nat) : Int) := by
    rw [← eo]; simp [Int.natCast_mul]
  obtain ⟨K, eK, hK, hK2⟩ := upw_root h0 hk1 hk2
  have HG : ∀ w', H3 w' w.heap.size (.int .u64 a0) (.int .u64 a1) (.int .u64 a2) → H3 w' (w.heap.size + 1) (.int .u64 b0) (.int .u64 b1) (.int .u64 b2) → Calls Try.prog 78 #[.func (.func 79) #[] #[.pointer (some ⟨w.heap.size, 0, none⟩), .pointer (some ⟨w.heap.size + 1, 0, none⟩)]] w' fun e w'' => e = .returned (.int .u64 (k : Int)) ∧ Ext w' w'' := by
    intro w' PB NB
    refine (greatestR_any (fun X => n * X * X ≤ p) w.heap.size (w.heap.size + 1) w' (by omega) n46 (fun X w2 hX hx => root1_any p n X a0 a1 a2 b0 b1 b2 _ _ w2 hA hB hn hp2 hX (PB.ext hx) (NB.ext hx))).mono ?_
    rintro e w2 ⟨⟨R, rfl, r1, r2, r3⟩, x2⟩
    have : R = k := sqrt_unique ((div_sq h0).2 r1) (Nat.lt_of_not_le fun h => r2 ((div_sq h0).1 h)) ((div_sq h0).2 hk1) (Nat.lt_of_not_le fun h => hk2 ((div_sq h0).1 h))
    subst this
    exact ⟨rfl, x2⟩
  refine (root_raw a0 a1 a2 b0 b1 b2 k (sgnw ((p : Int) * 4 - ((n * (2 * k + 1) * (2 * k + 1) : Nat) : Int))) ((p : Int) * 4) ((n : Int) * (2 * (k : Int) + 1)) ((n : Int) * (2 * (k : Int) + 1) * (2 * (k : Int) + 1)) ((p : Int) * 4 - ((n * (2 * k + 1) * (2 * k + 1) : Nat) : Int)) K w (by omega) (by omega) HG
    (fun w' => timesw_any p 4 _ w' hA (by omega)) (fun w' => by
      have h := timesw_any n (2 * k + 1) _ w' hB (by omega)
      rw [eo] at h; exact h) (fun t w' ht => by
      have h := timesw_any _ (2 * k + 1) t w' ht (by omega)
      rw [eo] at h; exact h) (fun t t' w' h h' => by rw [← e6]; exact minus_any _ _ t t' w' h h') (fun t w' ht => signw_any _ t w' ht (inW_of (by omega)))
    (fun w' => by rw [← eK]; exact nearer_any k _ w' (by omega) (by omega))).mono ?_
  rintro e w1 ⟨⟨r, rfl, hr⟩, x1⟩
  exact ⟨⟨r, rfl, K, hr, hK, by omega⟩, x1⟩
end Go.Proofs.Ytojcndgoihkfnaa
