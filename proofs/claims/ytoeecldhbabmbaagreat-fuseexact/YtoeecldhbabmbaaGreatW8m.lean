/- wide: Over. -/
import Derived.Test.YtoeecldhbabmbaaGreatW6m
import Derived.Test.YtoeecldhbabmbaaGreatMg6
open Go.Value renaming int → J, agg → zG
open Go.IntKind renaming i64 → zq, u64 → zu
open Go.Ending renaming returned → zR
open Go.Proofs.Tryz renaming prog → zP
namespace Go.Proofs.YtoeecldhbabmbaaGreat
open Go.RowKit Go.Shelf
theorem hid_ext {w w' : World} {b : Nat} {u v x : Value} (h : Hid (H3 w b u v x)) (hx : Ext w w') : Hid (H3 w' b u v x) := h.out.ext hx
set_option maxHeartbeats 8000000 in
theorem over_raw (a0 a1 a2 b0 b1 b2 k s z4 z5 z7 z8 s0 : Int) (w : World)
    (HS0 : Hid (∀ w', Calls zP 174 #[zG #[J zu a0, J zu a1, J zu a2]] w' fun e w'' => e = zR (J zq s0) ∧ Ext w' w'')) (hs0 : 0 ≤ s0)
    (HR : Hid (∀ w', H3 w' w.heap.size (J zu a0) (J zu a1) (J zu a2) → H3 w' (w.heap.size + 1) (J zu b0) (J zu b1) (J zu b2) → Calls zP 171 #[.func (.func 179) #[] #[.pointer (some ⟨w.heap.size, 0, none⟩), .pointer (some ⟨w.heap.size + 1, 0, none⟩)]] w' fun e w'' => e = zR (J zu k) ∧ Ext w' w''))
    (HT4 : Hid (∀ w', Calls zP 167 #[zG #[J zu a0, J zu a1, J zu a2], J zu 2] w' fun e w'' => (∃ r, e = zR r ∧ IsW r z4) ∧ Ext w' w''))
    (HT1 : Hid (∀ w', Calls zP 167 #[zG #[J zu b0, J zu b1, J zu b2], J zu (IntKind.u64.wrap (IntKind.u64.wrap (2 * k) + 1))] w' fun e w'' => (∃ r, e = zR r ∧ IsW r z5) ∧ Ext w' w''))
    (HM : Hid (∀ t t' w', IsW t z4 → IsW t' z5 → Calls zP 173 #[t, t'] w' fun e w'' => (∃ r, e = zR r ∧ IsW r z7) ∧ Ext w' w''))
    (HS : Hid (∀ t w', IsW t z7 → Calls zP 174 #[t] w' fun e w'' => e = zR (J zq s) ∧ Ext w' w''))
    (HN : Hid (∀ w', Calls zP 175 #[J zu k, J zq s] w' fun e w'' => (∃ r, e = zR r ∧ IsW r z8) ∧ Ext w' w'')) :
    Calls zP 159 #[zG #[J zu a0, J zu a1, J zu a2], zG #[J zu b0, J zu b1, J zu b2]] w fun e w' => (∃ r, e = zR r ∧ IsW r z8) ∧ Ext w w' := by
  go_enter Tryz.func159, Tryz.ntmps159
  go_wp2_with fail
  refine (HS0.out _).mono ?_
  rintro e w0 ⟨rfl, x0⟩
  have hs0' : ¬ s0 < 0 := by omega
  have E00 : Ext w w0 := Ext.trans xa x0
  have PB0 : Hid (H3 w0 w.heap.size (J zu a0) (J zu a1) (J zu a2)) := (H3.alloc (H3.alloc (h3_at rfl) _) _).ext x0
  have NB0 : Hid (H3 w0 (w.heap.size + 1) (J zu b0) (J zu b1) (J zu b2)) := (H3.alloc (h3_at (by simp)) _).ext x0
  have RB0 : Hid (H3 w0 (w.heap.size + 1 + 1) (J zu 0) (J zu 0) (J zu 0)) := (h3_at (by simp)).ext x0
  clear x0
  go_wp2_with fail
  refine (HR.out _ PB0.out NB0.out).mono ?_
  rintro e w1 ⟨rfl, x1⟩
  have PB := hid_ext PB0 x1
  have NB := hid_ext NB0 x1
  have RB := hid_ext RB0 x1
  have E1 : Ext w w1.drew := (E00.trans x1).drew
  clear x1 PB0 NB0 RB0 E00
  obtain ⟨p0, p1, p2, p3, p4, p5, p6⟩ := PB.out
  obtain ⟨n0, n1, n2, n3, n4, n5, n6⟩ := NB.out
  have y1 : Ext w1.drew w1.drew := Ext.refl _
  go_wp2_with fail
  go_region_with (first | (go_at_call_of 167 (Value.agg #[Value.int IntKind.u64 a0, Value.int IntKind.u64 a1, Value.int IntKind.u64 a2]); refine (HT4.out _).mono ?_; rintro e w4 ⟨⟨u4, rfl, hu4⟩, x4⟩; have y4 : Ext w1.drew w4 := Ext.trans (by with_reducible assumption) x4; obtain ⟨p0, p1, p2, p3, p4, p5, p6⟩ := PB.out.drew.ext y4; obtain ⟨n0, n1, n2, n3, n4, n5, n6⟩ := NB.out.drew.ext y4) | (go_at_call_of 167 (Value.agg #[Value.int IntKind.u64 b0, Value.int IntKind.u64 b1, Value.int IntKind.u64 b2]); refine (HT1.out _).mono ?_; rintro e w5 ⟨⟨u5, rfl, hu5⟩, x5⟩; have y5 : Ext w1.drew w5 := Ext.trans (by with_reducible assumption) x5; obtain ⟨p0, p1, p2, p3, p4, p5, p6⟩ := PB.out.drew.ext y5; obtain ⟨n0, n1, n2, n3, n4, n5, n6⟩ := NB.out.drew.ext y5) | (go_at_call 173; refine (HM.out _ _ _ hu4 hu5).mono ?_; rintro e w7 ⟨⟨u7, rfl, hu7⟩, x7⟩; have y7 : Ext w1.drew w7 := Ext.trans (by with_reducible assumption) x7; obtain ⟨p0, p1, p2, p3, p4, p5, p6⟩ := PB.out.drew.ext y7; obtain ⟨n0, n1, n2, n3, n4, n5, n6⟩ := NB.out.drew.ext y7) | (go_at_call 174; refine (HS.out _ _ hu7).mono ?_; rintro e w8 ⟨rfl, x8⟩; have y8 : Ext w1.drew w8 := Ext.trans (by with_reducible assumption) x8; obtain ⟨p0, p1, p2, p3, p4, p5, p6⟩ := PB.out.drew.ext y8; obtain ⟨n0, n1, n2, n3, n4, n5, n6⟩ := NB.out.drew.ext y8) | (go_at_call 175; refine (HN.out _).mono ?_; rintro e w9 ⟨⟨u9, rfl, m0, m1, m2, rfl, hr⟩, x9⟩; have HRr : Hid _ := hr; clear hr; have y9 : Ext w1.drew w9 := Ext.trans (by with_reducible assumption) x9; obtain ⟨p0, p1, p2, p3, p4, p5, p6⟩ := PB.out.drew.ext y9; obtain ⟨n0, n1, n2, n3, n4, n5, n6⟩ := NB.out.drew.ext y9; obtain ⟨c0, c1, c2, c3, c4, c5, c6⟩ := RB.out.drew.ext y9))
  all_goals
    have E8 : Ext w w9 := E1.trans y9
    clear y1 y4 y5 y7 y8 y9 x4 x5 x7 x8 x9 E1
    go_wp2_with fail
    exact bodyPost_ret (v := zG #[J zu m0, J zu m1, J zu m2]) (by simp [results, Tryz.results159, go_sem, c0, c1, c2]) rfl ⟨⟨_, rfl, _, _, _, rfl, HRr.out⟩, xa⟩
set_option maxHeartbeats 8000000 in
theorem overn_raw (a0 a1 a2 b0 b1 b2 s0 z1 z2 z3 : Int) (w : World) (hs0 : s0 < 0)
    (HS0 : Hid (∀ w', Calls zP 174 #[zG #[J zu a0, J zu a1, J zu a2]] w' fun e w'' => e = zR (J zq s0) ∧ Ext w' w''))
    (HN1 : Hid (∀ w', Calls zP 168 #[zG #[J zu a0, J zu a1, J zu a2]] w' fun e w'' => (∃ r, e = zR r ∧ IsW r z1) ∧ Ext w' w''))
    (HO : Hid (∀ t w', IsW t z1 → Calls zP 159 #[t, zG #[J zu b0, J zu b1, J zu b2]] w' fun e w'' => (∃ r, e = zR r ∧ IsW r z2) ∧ Ext w' w''))
    (HN2 : Hid (∀ t w', IsW t z2 → Calls zP 168 #[t] w' fun e w'' => (∃ r, e = zR r ∧ IsW r z3) ∧ Ext w' w'')) :
    Calls zP 159 #[zG #[J zu a0, J zu a1, J zu a2], zG #[J zu b0, J zu b1, J zu b2]] w fun e w' => (∃ r, e = zR r ∧ IsW r z3) ∧ Ext w w' := by
  go_enter Tryz.func159, Tryz.ntmps159
  go_wp2_with fail
  refine (HS0.out _).mono ?_
  rintro e w1 ⟨rfl, x0⟩
  have E1 : Ext w w1.drew := Ext.drew (Ext.trans xa x0)
  have PB : Hid (H3 w1 w.heap.size (J zu a0) (J zu a1) (J zu a2)) := (H3.alloc (H3.alloc (h3_at rfl) _) _).ext x0
  have NB : Hid (H3 w1 (w.heap.size + 1) (J zu b0) (J zu b1) (J zu b2)) := (H3.alloc (h3_at (by simp)) _).ext x0
  have RB : Hid (H3 w1 (w.heap.size + 1 + 1) (J zu 0) (J zu 0) (J zu 0)) := (h3_at (by simp)).ext x0
  clear x0
  obtain ⟨p0, p1, p2, p3, p4, p5, p6⟩ := PB.out
  obtain ⟨n0, n1, n2, n3, n4, n5, n6⟩ := NB.out
  have y1 : Ext w1.drew w1.drew := Ext.refl _
  go_wp2_with fail
  go_region_with (first | (go_at_call 159; refine (HO.out _ _ hu4).mono ?_; rintro e w5 ⟨⟨u5, rfl, hu5⟩, x5⟩; have y5 : Ext w1.drew w5 := Ext.trans (by with_reducible assumption) x5; obtain ⟨p0, p1, p2, p3, p4, p5, p6⟩ := PB.out.drew.ext y5; obtain ⟨n0, n1, n2, n3, n4, n5, n6⟩ := NB.out.drew.ext y5) | (go_at_call_of 168 (Value.agg #[Value.int IntKind.u64 a0, Value.int IntKind.u64 a1, Value.int IntKind.u64 a2]); refine (HN1.out _).mono ?_; rintro e w4 ⟨⟨u4, rfl, hu4⟩, x4⟩; have y4 : Ext w1.drew w4 := Ext.trans (by with_reducible assumption) x4; obtain ⟨p0, p1, p2, p3, p4, p5, p6⟩ := PB.out.drew.ext y4; obtain ⟨n0, n1, n2, n3, n4, n5, n6⟩ := NB.out.drew.ext y4) | (go_at_call 168; refine (HN2.out _ _ hu5).mono ?_; rintro e w9 ⟨⟨u9, rfl, m0, m1, m2, rfl, hr⟩, x9⟩; have HRr : Hid _ := hr; clear hr; have y9 : Ext w1.drew w9 := Ext.trans (by with_reducible assumption) x9; obtain ⟨p0, p1, p2, p3, p4, p5, p6⟩ := PB.out.drew.ext y9; obtain ⟨n0, n1, n2, n3, n4, n5, n6⟩ := NB.out.drew.ext y9; obtain ⟨c0, c1, c2, c3, c4, c5, c6⟩ := RB.out.drew.ext y9))
  all_goals
    have E8 : Ext w w9 := E1.trans y9
    clear y1 y4 y5 y9 x4 x5 x9 E1
    go_wp2_with fail
    exact bodyPost_ret (v := zG #[J zu m0, J zu m1, J zu m2]) (by simp [results, Tryz.results159, go_sem, c0, c1, c2]) rfl ⟨⟨_, rfl, _, _, _, rfl, HRr.out⟩, xa⟩
theorem over_near_le {p n : Nat} {K : Int} (h : IsNear p n K) (h0 : 0 < n) (hp : p / n < 70368744177664) : K.natAbs ≤ 70368744177664 := by
  have h1 : p < 70368744177664 * n := (Nat.div_lt_iff_lt_mul h0).1 hp
  obtain ⟨a1, a2, _⟩ := h
  have h1' : (p : Int) < 70368744177664 * (n : Int) := by omega
  have c1 : K ≤ 70368744177664 := by
    apply Classical.byContradiction; intro hc
    have : (70368744177664 + 1) * (n : Int) ≤ K * n := Int.mul_le_mul_of_nonneg_right (by omega) (by omega)
    rw [Int.add_mul, Int.one_mul] at this
    omega
  have c2 : 0 ≤ K := by
    apply Classical.byContradiction; intro hc
    have : K * (n : Int) ≤ -1 * n := Int.mul_le_mul_of_nonneg_right (by omega) (by omega)
    omega
  omega
theorem upw_near {p n k : Nat} (h0 : 0 < n) (h1 : n * k ≤ p) (h2 : ¬ n * (k + 1) ≤ p) : IsNear p n (upw k (sgnw ((p : Int) * 2 - ((n * (2 * k + 1) : Nat) : Int)))) := by
  have e1 : ((n * k : Nat) : Int) = (k : Int) * (n : Int) := by rw [Int.natCast_mul, Int.mul_comm]
  have e2 : ((n * (k + 1) : Nat) : Int) = (k : Int) * (n : Int) + n := by rw [Nat.mul_add, Nat.mul_one, Int.natCast_add, e1]
  have e3 : ((n * (2 * k + 1) : Nat) : Int) = 2 * ((k : Int) * (n : Int)) + n := by
    rw [Nat.mul_add, Nat.mul_one, Int.natCast_add, Nat.mul_left_comm, Int.natCast_mul, e1]; rfl
  have h1' : (k : Int) * n ≤ p := by omega
  have h2' : (p : Int) < (k : Int) * n + n := by omega
  have h3 : ((k : Int) + 1) * n = (k : Int) * n + n := by rw [Int.add_mul, Int.one_mul]
  rw [e3]
  clear e1 e2 e3 h1 h2
  have hs : (sgnw ((p : Int) * 2 - (2 * ((k : Int) * n) + n)) = 0 ∧ (p : Int) * 2 = 2 * ((k : Int) * n) + n) ∨ (sgnw ((p : Int) * 2 - (2 * ((k : Int) * n) + n)) = -1 ∧ (p : Int) * 2 < 2 * ((k : Int) * n) + n) ∨ (sgnw ((p : Int) * 2 - (2 * ((k : Int) * n) + n)) = 1 ∧ 2 * ((k : Int) * n) + n < (p : Int) * 2) := by
    unfold sgnw
    by_cases c1 : (p : Int) * 2 - (2 * ((k : Int) * n) + n) = 0
    · left; rw [if_pos c1]; exact ⟨rfl, by omega⟩
    · rw [if_neg c1]
      by_cases c2 : (p : Int) * 2 - (2 * ((k : Int) * n) + n) < 0
      · right; left; rw [if_pos c2]; exact ⟨rfl, by omega⟩
      · right; right; rw [if_neg c2]; exact ⟨rfl, by omega⟩
  generalize sgnw ((p : Int) * 2 - (2 * ((k : Int) * n) + n)) = s at *
  unfold upw
  by_cases c : 0 < s ∨ s = 0 ∧ (k : Int) % 2 = 1
  · rw [if_pos c]
    refine ⟨?_, ?_, ?_⟩ <;> (try rw [h3]) <;> (try intro _) <;> omega
  · rw [if_neg c]
    refine ⟨?_, ?_, ?_⟩ <;> (try intro _) <;> omega
theorem overp_any (p n : Nat) (u v : Value) (w : World) (hu : IsW u p) (hv : IsW v n) (h0 : 0 < n) (hn : n < 4951760157141521099596496896) (hp : p / n < 70368744177664) (hp2 : p < 98079714615416886934934209737619787751599303819750539264) :
    Calls zP 159 #[u, v] w fun e w' => (∃ r, e = zR r ∧ ∃ k : Int, IsW r k ∧ IsNear p n k ∧ 0 ≤ k ∧ k ≤ 70368744177664) ∧ Ext w w' := by
  obtain ⟨a0, a1, a2, rfl, ha⟩ := hu
  obtain ⟨b0, b1, b2, rfl, hb⟩ := hv
  have hA : IsW (zG #[J zu a0, J zu a1, J zu a2]) p := ⟨_, _, _, rfl, ha⟩
  have hB : IsW (zG #[J zu b0, J zu b1, J zu b2]) n := ⟨_, _, _, rfl, hb⟩
  have n46 : ¬ n * 70368744177664 ≤ p := by
    intro h
    have := (Nat.le_div_iff_mul_le h0 (x := 70368744177664) (y := p)).2 (by rw [Nat.mul_comm]; exact h)
    omega
  have dv : ∀ X, n * X ≤ p ↔ X ≤ p / n := fun X => by rw [Nat.le_div_iff_mul_le h0, Nat.mul_comm]
  obtain ⟨k, hk0⟩ : ∃ k, k = p / n := ⟨_, rfl⟩
  have hk1 : n * k ≤ p := (dv k).2 (by omega)
  have hk2 : ¬ n * (k + 1) ≤ p := fun h => by have := (dv _).1 h; omega
  have hk3 : k < 70368744177664 := by omega
  have eo : ((2 * k + 1 : Nat) : Int) = 2 * (k : Int) + 1 := by omega
  have ew : IntKind.u64.wrap (IntKind.u64.wrap (2 * (k : Int)) + 1) = 2 * (k : Int) + 1 := by rw [IntKind.wrap_u64, IntKind.wrap_u64]; omega
  have bd := lin_bound hn (show 2 * k + 1 ≤ 140737488355328 by omega)
  have e6 : ((n : Int) * (2 * (k : Int) + 1)) = ((n * (2 * k + 1) : Nat) : Int) := by
    rw [← eo]; simp [Int.natCast_mul]
  have hK := upw_near h0 hk1 hk2
  have hK2 : 0 ≤ upw k (sgnw ((p : Int) * 2 - ((n * (2 * k + 1) : Nat) : Int))) ∧ upw k (sgnw ((p : Int) * 2 - ((n * (2 * k + 1) : Nat) : Int))) ≤ 70368744177664 := by unfold upw; split <;> omega
  have HG : ∀ w', H3 w' w.heap.size (J zu a0) (J zu a1) (J zu a2) → H3 w' (w.heap.size + 1) (J zu b0) (J zu b1) (J zu b2) → Calls zP 171 #[.func (.func 179) #[] #[.pointer (some ⟨w.heap.size, 0, none⟩), .pointer (some ⟨w.heap.size + 1, 0, none⟩)]] w' fun e w'' => e = zR (J zu (k : Int)) ∧ Ext w' w'' := by
    intro w' PB NB
    refine (greatestO_any (fun X => n * X ≤ p) w.heap.size (w.heap.size + 1) w' (by omega) n46 (fun X w2 hX hx => over1_any p n X a0 a1 a2 b0 b1 b2 _ _ w2 hA hB hn hp2 hX (PB.ext hx) (NB.ext hx))).mono ?_
    rintro e w2 ⟨⟨R, rfl, r1, r2, r3⟩, x2⟩
    have : R = k := by
      have q1 := (dv R).1 r1
      have q2 : ¬ R + 1 ≤ p / n := fun h => r2 ((dv _).2 h)
      omega
    subst this
    exact ⟨rfl, x2⟩
  have hs0 : 0 ≤ sgnw (p : Int) := by unfold sgnw; split; omega; split <;> omega
  refine (over_raw a0 a1 a2 b0 b1 b2 k (sgnw ((p : Int) * 2 - ((n * (2 * k + 1) : Nat) : Int))) ((p : Int) * 2) ((n : Int) * (2 * (k : Int) + 1)) ((p : Int) * 2 - ((n * (2 * k + 1) : Nat) : Int)) _ (sgnw p) w (fun w' => signw_any _ _ w' hA (inW_of (by omega))) hs0 HG
    (fun w' => timesw_any p 2 _ w' hA (by omega)) (fun w' => by
      have h := timesw_any n (2 * k + 1) _ w' hB (by omega)
      rw [eo] at h; rw [ew]; exact h) (fun t t' w' h h' => by rw [← e6]; exact minus_any _ _ t t' w' h h') (fun t w' ht => signw_any _ t w' ht (inW_of (by omega)))
    (fun w' => nearer_any k _ w' (by omega) (by omega))).mono ?_
  rintro e w1 ⟨⟨r, rfl, hr⟩, x1⟩
  exact ⟨⟨r, rfl, _, hr, hK, hK2⟩, x1⟩
theorem overw_any (p : Int) (n : Nat) (u v : Value) (w : World) (hu : IsW u p) (hv : IsW v n) (h0 : 0 < n) (hn : n < 4951760157141521099596496896) (hp : p.natAbs / n < 70368744177664) (hp2 : p.natAbs < 98079714615416886934934209737619787751599303819750539264) :
    Calls zP 159 #[u, v] w fun e w' => (∃ r, e = zR r ∧ ∃ k : Int, IsW r k ∧ IsNear p n k ∧ k.natAbs ≤ 70368744177664) ∧ Ext w w' := by
  by_cases hs : 0 ≤ p
  · have e : p = (p.natAbs : Int) := by omega
    rw [e] at hu
    refine (overp_any p.natAbs n u v w hu hv h0 hn hp hp2).mono ?_
    rintro e1 w1 ⟨⟨r, rfl, k, hk, k1, k2, k3⟩, x1⟩
    exact ⟨⟨r, rfl, k, hk, by rw [e]; exact k1, by omega⟩, x1⟩
  · have e : -p = (p.natAbs : Int) := by omega
    obtain ⟨K, hK⟩ : ∃ K, IsNear (p.natAbs : Int) n K := ⟨_, nearI_spec _ _ (by omega)⟩
    have hN := hK.neg
    rw [← e, Int.neg_neg] at hN
    obtain ⟨a0, a1, a2, rfl, ha⟩ := hu
    obtain ⟨b0, b1, b2, rfl, hb⟩ := hv
    have hA : IsW (zG #[J zu a0, J zu a1, J zu a2]) p := ⟨_, _, _, rfl, ha⟩
    have hB : IsW (zG #[J zu b0, J zu b1, J zu b2]) n := ⟨_, _, _, rfl, hb⟩
    have hKb : 0 ≤ K ∧ K ≤ 70368744177664 ∨ True := Or.inr trivial
    have HO : ∀ t w', IsW t (-p) → Calls zP 159 #[t, zG #[J zu b0, J zu b1, J zu b2]] w' fun e w'' => (∃ r, e = zR r ∧ IsW r K ∧ 0 ≤ K ∧ K ≤ 70368744177664) ∧ Ext w' w'' := by
      intro t w' ht
      rw [e] at ht
      refine (overp_any p.natAbs n t _ w' ht hB h0 hn hp hp2).mono ?_
      rintro e1 w1 ⟨⟨r, rfl, k, hk, k1, k2, k3⟩, x1⟩
      have := IsNear.unique (by omega) k1 hK
      subst this
      exact ⟨⟨r, rfl, hk, k2, k3⟩, x1⟩
    have hKK : (-K).natAbs ≤ 70368744177664 := by
      have := over_near_le hK h0 hp
      omega
    refine (overn_raw a0 a1 a2 b0 b1 b2 (sgnw p) (-p) K (-K) w (by unfold sgnw; split; omega; split <;> omega) (fun w' => signw_any _ _ w' hA (inW_of (by omega)))
      (fun w' => negw_any _ _ w' hA) (fun t w' ht => (HO t w' ht).mono (by rintro e1 w1 ⟨⟨r, rfl, hr, _⟩, x1⟩; exact ⟨⟨r, rfl, hr⟩, x1⟩)) (fun t w' ht => negw_any _ t w' ht)).mono ?_
    rintro e1 w1 ⟨⟨r, rfl, hr⟩, x1⟩
    exact ⟨⟨r, rfl, _, hr, hN, hKK⟩, x1⟩
end Go.Proofs.YtoeecldhbabmbaaGreat
