/- Plain numbers: the nearest whole number to the root of N / d, halves to even. wide: Root. -/
import Derived.Test.YtoeecldhbabmbaaGreatW6m
open Go.Value renaming int → J, agg → zG
open Go.IntKind renaming i64 → zq, u64 → zu
open Go.Ending renaming returned → zR
open Go.Proofs.Tryz renaming prog → zP
namespace Go.Proofs.YtoeecldhbabmbaaGreat
def RootQ (N d s : Nat) : Prop := 4 * N ≤ (2 * s + 1) * (2 * s + 1) * d ∧ (s = 0 ∨ (2 * s - 1) * (2 * s - 1) * d ≤ 4 * N) ∧ (4 * N = (2 * s + 1) * (2 * s + 1) * d → s % 2 = 0) ∧ (s ≠ 0 → (2 * s - 1) * (2 * s - 1) * d = 4 * N → s % 2 = 0)
theorem rootQ_up {N d m : Nat} (h2 : N < (m + 1) * (m + 1) * d) (h : (2 * m + 1) * (2 * m + 1) * d < 4 * N ∨ (2 * m + 1) * (2 * m + 1) * d = 4 * N ∧ m % 2 = 1) : RootQ N d (m + 1) := by
  have e1 : 2 * (m + 1) - 1 = 2 * m + 1 := by omega
  have e2 : 4 * ((m + 1) * (m + 1) * d) = (2 * (m + 1)) * (2 * (m + 1)) * d := by
    have : (2 * (m + 1)) * (2 * (m + 1)) = 4 * ((m + 1) * (m + 1)) := by rw [Nat.mul_mul_mul_comm]
    rw [this]; simp only [Nat.mul_assoc]
  have e3 : (2 * (m + 1)) * (2 * (m + 1)) * d ≤ (2 * (m + 1) + 1) * (2 * (m + 1) + 1) * d := Nat.mul_le_mul_right d (Nat.mul_le_mul (by omega) (by omega))
  refine ⟨by omega, .inr (by rw [e1]; omega), fun he => by omega, fun _ he => ?_⟩
  rw [e1] at he
  omega
theorem rootQ_down {N d m : Nat} (hd : 0 < d) (h1 : m * m * d ≤ N) (h : 4 * N < (2 * m + 1) * (2 * m + 1) * d ∨ 4 * N = (2 * m + 1) * (2 * m + 1) * d ∧ m % 2 = 0) : RootQ N d m := by
  have e2 : 4 * (m * m * d) = (2 * m) * (2 * m) * d := by
    have : (2 * m) * (2 * m) = 4 * (m * m) := by rw [Nat.mul_mul_mul_comm]
    rw [this]; simp only [Nat.mul_assoc]
  refine ⟨by omega, ?_, fun he => by omega, fun h0 he => ?_⟩
  · rcases Nat.eq_zero_or_pos m with h0 | h0
    · exact .inl h0
    · right
      have := Nat.mul_le_mul_right d (Nat.mul_le_mul (show 2 * m - 1 ≤ 2 * m by omega) (show 2 * m - 1 ≤ 2 * m by omega))
      omega
  · exfalso
    have h3 : (2 * m - 1) * (2 * m - 1) < (2 * m) * (2 * m) := Nat.mul_lt_mul_of_lt_of_le (by omega) (by omega) (by omega)
    have h4 := Nat.mul_lt_mul_of_pos_right h3 hd
    omega
theorem rootQ_unique {N d X Y : Nat} (hd : 0 < d) (h : RootQ N d X) (k : RootQ N d Y) : X = Y := by
  have key : ∀ A B : Nat, A < B → RootQ N d A → RootQ N d B → False := by
    intro A B hl ⟨a1, a2, a3, a4⟩ ⟨b1, b2, b3, b4⟩
    have hle : (2 * A + 1) * (2 * A + 1) * d ≤ (2 * B - 1) * (2 * B - 1) * d := Nat.mul_le_mul_right d (Nat.mul_le_mul (by omega) (by omega))
    rcases b2 with b2 | b2
    · omega
    · have e1 : 4 * N = (2 * A + 1) * (2 * A + 1) * d := by omega
      have e2 : (2 * B - 1) * (2 * B - 1) * d = 4 * N := by omega
      have c1 := a3 e1
      have c2 := b4 (by omega) e2
      have e3 : (2 * A + 1) * (2 * A + 1) * d = (2 * B - 1) * (2 * B - 1) * d := by omega
      have e4 := Nat.eq_of_mul_eq_mul_right hd e3
      have h5 : 2 * A + 1 < 2 * B - 1 := by omega
      have h6 : (2 * A + 1) * (2 * A + 1) < (2 * B - 1) * (2 * B - 1) := Nat.mul_lt_mul_of_lt_of_le h5 (Nat.le_of_lt h5) (by omega)
      omega
  rcases Nat.lt_trichotomy X Y with hl | he | hl
  · exact (key X Y hl h k).elim
  · exact he
  · exact (key Y X hl k h).elim
open Go.RowKit Go.Shelf
theorem div_sq {p n X : Nat} (hn : 0 < n) : X * X ≤ p / n ↔ n * X * X ≤ p := by
  rw [Nat.le_div_iff_mul_le hn, Nat.mul_assoc n, Nat.mul_comm (X * X)]
theorem exists_sqrt (N : Nat) : ∃ k, k * k ≤ N ∧ N < (k + 1) * (k + 1) := by
  induction N with
  | zero => exact ⟨0, by omega, by omega⟩
  | succ N ih =>
    obtain ⟨k, h1, h2⟩ := ih
    by_cases h : N + 1 < (k + 1) * (k + 1)
    · exact ⟨k, by omega, h⟩
    · refine ⟨k + 1, by omega, ?_⟩
      have : (k + 1) * (k + 1) < (k + 1 + 1) * (k + 1 + 1) := Nat.mul_lt_mul_of_lt_of_le (by omega) (by omega) (by omega)
      omega
theorem sqrt_unique {N a b : Nat} (a1 : a * a ≤ N) (a2 : N < (a + 1) * (a + 1)) (b1 : b * b ≤ N) (b2 : N < (b + 1) * (b + 1)) : a = b := by
  rcases Nat.lt_trichotomy a b with h | h | h
  · have := Nat.mul_le_mul (show a + 1 ≤ b by omega) (show a + 1 ≤ b by omega); omega
  · exact h
  · have := Nat.mul_le_mul (show b + 1 ≤ a by omega) (show b + 1 ≤ a by omega); omega
set_option maxHeartbeats 8000000 in
theorem root_raw (a0 a1 a2 b0 b1 b2 k s z4 z5 z6 z7 z8 : Int) (w : World)
    (hk0 : 0 ≤ k) (hk1 : k < 70368744177664)
    (HR : Hid (∀ w', H3 w' w.heap.size (J zu a0) (J zu a1) (J zu a2) → H3 w' (w.heap.size + 1) (J zu b0) (J zu b1) (J zu b2) → Calls zP 171 #[.func (.func 172) #[] #[.pointer (some ⟨w.heap.size, 0, none⟩), .pointer (some ⟨w.heap.size + 1, 0, none⟩)]] w' fun e w'' => e = zR (J zu k) ∧ Ext w' w''))
    (HT4 : Hid (∀ w', Calls zP 167 #[zG #[J zu a0, J zu a1, J zu a2], J zu 4] w' fun e w'' => (∃ r, e = zR r ∧ IsW r z4) ∧ Ext w' w''))
    (HT1 : Hid (∀ w', Calls zP 167 #[zG #[J zu b0, J zu b1, J zu b2], J zu (2 * k + 1)] w' fun e w'' => (∃ r, e = zR r ∧ IsW r z5) ∧ Ext w' w''))
    (HT2 : Hid (∀ t w', IsW t z5 → Calls zP 167 #[t, J zu (2 * k + 1)] w' fun e w'' => (∃ r, e = zR r ∧ IsW r z6) ∧ Ext w' w''))
    (HM : Hid (∀ t t' w', IsW t z4 → IsW t' z6 → Calls zP 173 #[t, t'] w' fun e w'' => (∃ r, e = zR r ∧ IsW r z7) ∧ Ext w' w''))
    (HS : Hid (∀ t w', IsW t z7 → Calls zP 174 #[t] w' fun e w'' => e = zR (J zq s) ∧ Ext w' w''))
    (HN : Hid (∀ w', Calls zP 175 #[J zu k, J zq s] w' fun e w'' => (∃ r, e = zR r ∧ IsW r z8) ∧ Ext w' w'')) :
    Calls zP 142 #[zG #[J zu a0, J zu a1, J zu a2], zG #[J zu b0, J zu b1, J zu b2]] w fun e w' => (∃ r, e = zR r ∧ IsW r z8) ∧ Ext w w' := by
  go_enter Tryz.func142, Tryz.ntmps142
  go_wp2_with fail
  refine (HR.out _ (H3.alloc (H3.alloc (h3_at rfl) _) _) (H3.alloc (h3_at (by simp)) _)).mono ?_
  rintro e w1 ⟨rfl, x1⟩
  have PB : Hid (H3 w1 w.heap.size (J zu a0) (J zu a1) (J zu a2)) := (H3.alloc (H3.alloc (h3_at rfl) _) _).ext x1
  have NB : Hid (H3 w1 (w.heap.size + 1) (J zu b0) (J zu b1) (J zu b2)) := (H3.alloc (h3_at (by simp)) _).ext x1
  have RB : Hid (H3 w1 (w.heap.size + 1 + 1) (J zu 0) (J zu 0) (J zu 0)) := (h3_at (by simp)).ext x1
  have E1 : Ext w w1.drew := Ext.drew (Ext.trans xa x1)
  clear x1
  obtain ⟨p0, p1, p2, p3, p4, p5, p6⟩ := PB.out
  obtain ⟨n0, n1, n2, n3, n4, n5, n6⟩ := NB.out
  have y1 : Ext w1.drew w1.drew := Ext.refl _
  go_wp2_with fail
  go_region_with (first | (go_at_call_of 167 (Value.agg #[Value.int IntKind.u64 a0, Value.int IntKind.u64 a1, Value.int IntKind.u64 a2]); refine (HT4.out _).mono ?_; rintro e w4 ⟨⟨u4, rfl, hu4⟩, x4⟩; have y4 : Ext w1.drew w4 := Ext.trans (by with_reducible assumption) x4; obtain ⟨p0, p1, p2, p3, p4, p5, p6⟩ := PB.out.drew.ext y4; obtain ⟨n0, n1, n2, n3, n4, n5, n6⟩ := NB.out.drew.ext y4) | (go_at_call_of 167 (Value.agg #[Value.int IntKind.u64 b0, Value.int IntKind.u64 b1, Value.int IntKind.u64 b2]); refine (HT1.out _).mono ?_; rintro e w5 ⟨⟨u5, rfl, hu5⟩, x5⟩; have y5 : Ext w1.drew w5 := Ext.trans (by with_reducible assumption) x5; obtain ⟨p0, p1, p2, p3, p4, p5, p6⟩ := PB.out.drew.ext y5; obtain ⟨n0, n1, n2, n3, n4, n5, n6⟩ := NB.out.drew.ext y5) | (go_at_call_of 167 u5; refine (HT2.out _ _ hu5).mono ?_; rintro e w6 ⟨⟨u6, rfl, hu6⟩, x6⟩; have y6 : Ext w1.drew w6 := Ext.trans (by with_reducible assumption) x6; obtain ⟨p0, p1, p2, p3, p4, p5, p6⟩ := PB.out.drew.ext y6; obtain ⟨n0, n1, n2, n3, n4, n5, n6⟩ := NB.out.drew.ext y6) | (go_at_call 173; refine (HM.out _ _ _ hu4 hu6).mono ?_; rintro e w7 ⟨⟨u7, rfl, hu7⟩, x7⟩; have y7 : Ext w1.drew w7 := Ext.trans (by with_reducible assumption) x7; obtain ⟨p0, p1, p2, p3, p4, p5, p6⟩ := PB.out.drew.ext y7; obtain ⟨n0, n1, n2, n3, n4, n5, n6⟩ := NB.out.drew.ext y7) | (go_at_call 174; refine (HS.out _ _ hu7).mono ?_; rintro e w8 ⟨rfl, x8⟩; have y8 : Ext w1.drew w8 := Ext.trans (by with_reducible assumption) x8; obtain ⟨p0, p1, p2, p3, p4, p5, p6⟩ := PB.out.drew.ext y8; obtain ⟨n0, n1, n2, n3, n4, n5, n6⟩ := NB.out.drew.ext y8) | (go_at_call 175; refine (HN.out _).mono ?_; rintro e w9 ⟨⟨u9, rfl, m0, m1, m2, rfl, hr⟩, x9⟩; have HRr : Hid _ := hr; clear hr; have y9 : Ext w1.drew w9 := Ext.trans (by with_reducible assumption) x9; obtain ⟨p0, p1, p2, p3, p4, p5, p6⟩ := PB.out.drew.ext y9; obtain ⟨n0, n1, n2, n3, n4, n5, n6⟩ := NB.out.drew.ext y9; obtain ⟨c0, c1, c2, c3, c4, c5, c6⟩ := RB.out.drew.ext y9))
  all_goals
    have E8 : Ext w w9 := E1.trans y9
    clear y1 y4 y5 y6 y7 y8 y9 x4 x5 x6 x7 x8 x9 E1
    go_wp2_with fail
    exact bodyPost_ret (v := zG #[J zu m0, J zu m1, J zu m2]) (by simp [results, Tryz.results142, go_sem, c0, c1, c2]) rfl ⟨⟨_, rfl, _, _, _, rfl, HRr.out⟩, xa⟩
theorem upw_root {p n k : Nat} (h0 : 0 < n) (h1 : n * k * k ≤ p) (h2 : ¬ n * (k + 1) * (k + 1) ≤ p) : ∃ K : Nat, upw k (sgnw ((p : Int) * 4 - ((n * (2 * k + 1) * (2 * k + 1) : Nat) : Int))) = K ∧ RootQ p n K ∧ K ≤ k + 1 := by
  have c6 : n * (2 * k + 1) * (2 * k + 1) = (2 * k + 1) * (2 * k + 1) * n := by rw [Nat.mul_assoc, Nat.mul_comm]
  have c7 : n * k * k = k * k * n := by rw [Nat.mul_assoc, Nat.mul_comm]
  have c8 : n * (k + 1) * (k + 1) = (k + 1) * (k + 1) * n := by rw [Nat.mul_assoc, Nat.mul_comm]
  unfold upw
  split
  · rename_i h
    refine ⟨k + 1, by omega, rootQ_up (by omega) ?_, by omega⟩
    unfold sgnw at h
    split at h
    · right; omega
    · split at h
      · omega
      · left; omega
  · rename_i h
    refine ⟨k, rfl, rootQ_down h0 (by omega) ?_, by omega⟩
    unfold sgnw at h
    split at h
    · right; omega
    · split at h
      · left; omega
      · omega
theorem rootw_any (p n : Nat) (u v : Value) (w : World) (hu : IsW u p) (hv : IsW v n) (h0 : 0 < n) (hn : n < 4951760157141521099596496896) (hp : p / n < 4951760157141521099596496896) (hp2 : p < 98079714615416886934934209737619787751599303819750539264) :
    Calls zP 142 #[u, v] w fun e w' => (∃ r, e = zR r ∧ ∃ k : Nat, IsW r k ∧ RootQ p n k ∧ k ≤ 70368744177664) ∧ Ext w w' := by
  obtain ⟨a0, a1, a2, rfl, ha⟩ := hu
  obtain ⟨b0, b1, b2, rfl, hb⟩ := hv
  have hA : IsW (zG #[J zu a0, J zu a1, J zu a2]) p := ⟨_, _, _, rfl, ha⟩
  have hB : IsW (zG #[J zu b0, J zu b1, J zu b2]) n := ⟨_, _, _, rfl, hb⟩
  have n46 : ¬ n * 70368744177664 * 70368744177664 ≤ p := by
    intro h
    have := (Nat.le_div_iff_mul_le h0 (x := 4951760157141521099596496896) (y := p)).2 (by omega)
    omega
  obtain ⟨k, hk1, hk2, hk3⟩ : ∃ k : Nat, n * k * k ≤ p ∧ ¬ n * (k + 1) * (k + 1) ≤ p ∧ k < 70368744177664 := by
    obtain ⟨k, q1, q2⟩ := exists_sqrt (p / n)
    refine ⟨k, (div_sq h0).1 q1, fun h => by have := (div_sq h0).2 h; omega, ?_⟩
    apply Classical.byContradiction
    intro h
    have : 70368744177664 * 70368744177664 ≤ k * k := Nat.mul_le_mul (by omega) (by omega)
    omega
  have eo : ((2 * k + 1 : Nat) : Int) = 2 * (k : Int) + 1 := by omega
  have bd := sq_bound hn (show 2 * k + 1 ≤ 140737488355328 by omega)
  have e6 : ((n : Int) * (2 * (k : Int) + 1) * (2 * (k : Int) + 1)) = ((n * (2 * k + 1) * (2 * k + 1) : Nat) : Int) := by
    rw [← eo]; simp [Int.natCast_mul]
  obtain ⟨K, eK, hK, hK2⟩ := upw_root h0 hk1 hk2
  have HG : ∀ w', H3 w' w.heap.size (J zu a0) (J zu a1) (J zu a2) → H3 w' (w.heap.size + 1) (J zu b0) (J zu b1) (J zu b2) → Calls zP 171 #[.func (.func 172) #[] #[.pointer (some ⟨w.heap.size, 0, none⟩), .pointer (some ⟨w.heap.size + 1, 0, none⟩)]] w' fun e w'' => e = zR (J zu (k : Int)) ∧ Ext w' w'' := by
    intro w' PB NB
    refine (greatestR_any (fun X => n * X * X ≤ p) w.heap.size (w.heap.size + 1) w' (by omega) n46 (fun X w2 hX hx => root1_any p n X a0 a1 a2 b0 b1 b2 _ _ w2 hA hB hn hp2 hX (PB.ext hx) (NB.ext hx))).mono ?_
    rintro e w2 ⟨⟨R, rfl, r1, r2, r3⟩, x2⟩
    have : R = k := sqrt_unique ((div_sq h0).2 r1) (Nat.lt_of_not_le fun h => r2 ((div_sq h0).1 h)) ((div_sq h0).2 hk1) (Nat.lt_of_not_le fun h => hk2 ((div_sq h0).1 h))
    subst this
    exact ⟨rfl, x2⟩
  refine (root_raw a0 a1 a2 b0 b1 b2 k (sgnw ((p : Int) * 4 - ((n * (2 * k + 1) * (2 * k + 1) : Nat) : Int))) ((p : Int) * 4) ((n : Int) * (2 * (k : Int) + 1)) ((n : Int) * (2 * (k : Int) + 1) * (2 * (k : Int) + 1)) ((p : Int) * 4 - ((n * (2 * k + 1) * (2 * k + 1) : Nat) : Int)) K w (by omega) (by omega) HG
    (fun w' => timesw_any p 4 _ w' hA (by omega)) (fun w' => by
      have h := timesw_any n (2 * k + 1) _ w' hB (by omega)
      rw [eo] at h; exact h) (fun t w' ht => by
      have h := timesw_any _ (2 * k + 1) t w' ht (by omega)
      rw [eo] at h; exact h) (fun t t' w' h h' => by rw [← e6]; exact minus_any _ _ t t' w' h h') (fun t w' ht => signw_any _ t w' ht (inW_of (by omega)))
    (fun w' => by rw [← eK]; exact nearer_any k _ w' (by omega) (by omega))).mono ?_
  rintro e w1 ⟨⟨r, rfl, hr⟩, x1⟩
  exact ⟨⟨r, rfl, K, hr, hK, by omega⟩, x1⟩
end Go.Proofs.YtoeecldhbabmbaaGreat
