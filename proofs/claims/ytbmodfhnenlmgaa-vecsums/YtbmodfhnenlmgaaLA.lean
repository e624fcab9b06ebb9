/- wide: Root. wide: Unit. vec: Norm. What the statements of layer 3 share: a list of Two, May, num, wakes. The cells of an entry of a list of Two. How a list of Two that came in is read, and how a law over one is lifted to its row. -/
import Derived.Test.YtbmodfhnenlmgaaW6
import Derived.Test.YtbmodfhnenlmgaaRootQNum
import Derived.Deep.DeepCutAuto
import Derived.Test.YtbmodfhnenlmgaaVB
import Derived.Test.YtbmodfhnenlmgaaMay
import Derived.Test.YtbmodfhnenlmgaaRows
import Derived.ProofKit
import Derived.OpenShut
import Derived.ChangeOld
import Derived.Deep.Slices
namespace Go.Proofs.Ytbmodfhnenlmgaa
open Go.RowKit Go.Shelf

theorem div_sq {p n X : Nat} (hn : 0 < n) : X * X ≤ p / n ↔ n * X * X ≤ p := by
  rw [Nat.le_div_iff_mul_le hn, Nat.mul_assoc n, Nat.mul_comm (X * X)]

theorem exists_sqrt (N : Nat) : ∃ k, k * k ≤ N ∧ N < (k + 1) * (k + 1) := by
  induction N with
  | zero => exact ⟨0, by omega, by omega⟩
  | succ N ih =>
    obtain ⟨k, h1, h2⟩ := ih
    by_cases h : N + 1 < (k + 1) * (k + 1)
    · exact ⟨k, by omega, h⟩
    · refine ⟨k + 1, by omega, ?_⟩
      have : (k + 1) * (k + 1) < (k + 1 + 1) * (k + 1 + 1) := Nat.mul_lt_mul_of_lt_of_le (by omega) (by omega) (by omega)
      omega
theorem sqrt_unique {N a b : Nat} (a1 : a * a ≤ N) (a2 : N < (a + 1) * (a + 1)) (b1 : b * b ≤ N) (b2 : N < (b + 1) * (b + 1)) : a = b := by
  rcases Nat.lt_trichotomy a b with h | h | h
  · have := Nat.mul_le_mul (show a + 1 ≤ b by omega) (show a + 1 ≤ b by omega); omega
  · exact h
  · have := Nat.mul_le_mul (show b + 1 ≤ a by omega) (show b + 1 ≤ a by omega); omega

set_option maxHeartbeats 8000000 in
theorem root_raw (a0 a1 a2 b0 b1 b2 k s z4 z5 z6 z7 z8 : Int) (w : World)
    (hk0 : 0 ≤ k) (hk1 : k < 70368744177664)
    (HR : Hid (∀ w', H3 w' w.heap.size (.int .u64 a0) (.int .u64 a1) (.int .u64 a2) → H3 w' (w.heap.size + 1) (.int .u64 b0) (.int .u64 b1) (.int .u64 b2) → Calls Try.prog 81 #[.func (.func 82) #[] #[.pointer (some ⟨w.heap.size, 0, none⟩), .pointer (some ⟨w.heap.size + 1, 0, none⟩)]] w' fun e w'' => e = .returned (.int .u64 k) ∧ Ext w' w''))
    (HT4 : Hid (∀ w', Calls Try.prog 84 #[.agg #[.int .u64 a0, .int .u64 a1, .int .u64 a2], .int .u64 4] w' fun e w'' => (∃ r, e = .returned r ∧ IsW r z4) ∧ Ext w' w''))
    (HT1 : Hid (∀ w', Calls Try.prog 84 #[.agg #[.int .u64 b0, .int .u64 b1, .int .u64 b2], .int .u64 (2 * k + 1)] w' fun e w'' => (∃ r, e = .returned r ∧ IsW r z5) ∧ Ext w' w''))
    (HT2 : Hid (∀ t w', IsW t z5 → Calls Try.prog 84 #[t, .int .u64 (2 * k + 1)] w' fun e w'' => (∃ r, e = .returned r ∧ IsW r z6) ∧ Ext w' w''))
    (HM : Hid (∀ t t' w', IsW t z4 → IsW t' z6 → Calls Try.prog 83 #[t, t'] w' fun e w'' => (∃ r, e = .returned r ∧ IsW r z7) ∧ Ext w' w''))
    (HS : Hid (∀ t w', IsW t z7 → Calls Try.prog 85 #[t] w' fun e w'' => e = .returned (.int .i64 s) ∧ Ext w' w''))
    (HN : Hid (∀ w', Calls Try.prog 86 #[.int .u64 k, .int .i64 s] w' fun e w'' => (∃ r, e = .returned r ∧ IsW r z8) ∧ Ext w' w'')) :
    Calls Try.prog 65 #[.agg #[.int .u64 a0, .int .u64 a1, .int .u64 a2], .agg #[.int .u64 b0, .int .u64 b1, .int .u64 b2]] w fun e w' => (∃ r, e = .returned r ∧ IsW r z8) ∧ Ext w w' := by
  go_enter Try.func65, Try.ntmps65
  go_wp2_with fail
  refine (HR.out _ (H3.alloc (H3.alloc (h3_at rfl) _) _) (H3.alloc (h3_at (by simp)) _)).mono ?_
  rintro e w1 ⟨rfl, x1⟩
  have PB : Hid (H3 w1 w.heap.size (.int .u64 a0) (.int .u64 a1) (.int .u64 a2)) := (H3.alloc (H3.alloc (h3_at rfl) _) _).ext x1
  have NB : Hid (H3 w1 (w.heap.size + 1) (.int .u64 b0) (.int .u64 b1) (.int .u64 b2)) := (H3.alloc (h3_at (by simp)) _).ext x1
  have RB : Hid (H3 w1 (w.heap.size + 1 + 1) (.int .u64 0) (.int .u64 0) (.int .u64 0)) := (h3_at (by simp)).ext x1
  have E1 : Ext w w1.drew := Ext.drew (Ext.trans (by repeat (first | with_reducible assumption | with_reducible exact Ext.refl _ | with_reducible refine Ext.drew ?_ | with_reducible refine Ext.drewN ?_ _ | with_reducible refine Ext.alloc ?_ _ | with_reducible refine Ext.set ?_ (by first | exact Nat.le_refl _ | (dsimp only; omega) | (simp; done)) _)) x1)
  clear x1
  obtain ⟨p0, p1, p2, p3, p4, p5, p6⟩ := PB.out
  obtain ⟨n0, n1, n2, n3, n4, n5, n6⟩ := NB.out
  have y1 : Ext w1.drew w1.drew := Ext.refl _
  go_wp2_with fail
  go_region_with (first | (go_at_call_of 84 (Value.agg #[Value.int IntKind.u64 a0, Value.int IntKind.u64 a1, Value.int IntKind.u64 a2]); refine (HT4.out _).mono ?_; rintro e w4 ⟨⟨u4, rfl, hu4⟩, x4⟩; have y4 : Ext w1.drew w4 := Ext.trans (by with_reducible assumption) x4; obtain ⟨p0, p1, p2, p3, p4, p5, p6⟩ := PB.out.drew.ext y4; obtain ⟨n0, n1, n2, n3, n4, n5, n6⟩ := NB.out.drew.ext y4) | (go_at_call_of 84 (Value.agg #[Value.int IntKind.u64 b0, Value.int IntKind.u64 b1, Value.int IntKind.u64 b2]); refine (HT1.out _).mono ?_; rintro e w5 ⟨⟨u5, rfl, hu5⟩, x5⟩; have y5 : Ext w1.drew w5 := Ext.trans (by with_reducible assumption) x5; obtain ⟨p0, p1, p2, p3, p4, p5, p6⟩ := PB.out.drew.ext y5; obtain ⟨n0, n1, n2, n3, n4, n5, n6⟩ := NB.out.drew.ext y5) | (go_at_call_of 84 u5; refine (HT2.out _ _ hu5).mono ?_; rintro e w6 ⟨⟨u6, rfl, hu6⟩, x6⟩; have y6 : Ext w1.drew w6 := Ext.trans (by with_reducible assumption) x6; obtain ⟨p0, p1, p2, p3, p4, p5, p6⟩ := PB.out.drew.ext y6; obtain ⟨n0, n1, n2, n3, n4, n5, n6⟩ := NB.out.drew.ext y6) | (go_at_call 83; refine (HM.out _ _ _ hu4 hu6).mono ?_; rintro e w7 ⟨⟨u7, rfl, hu7⟩, x7⟩; have y7 : Ext w1.drew w7 := Ext.trans (by with_reducible assumption) x7; obtain ⟨p0, p1, p2, p3, p4, p5, p6⟩ := PB.out.drew.ext y7; obtain ⟨n0, n1, n2, n3, n4, n5, n6⟩ := NB.out.drew.ext y7) | (go_at_call 85; refine (HS.out _ _ hu7).mono ?_; rintro e w8 ⟨rfl, x8⟩; have y8 : Ext w1.drew w8 := Ext.trans (by with_reducible assumption) x8; obtain ⟨p0, p1, p2, p3, p4, p5, p6⟩ := PB.out.drew.ext y8; obtain ⟨n0, n1, n2, n3, n4, n5, n6⟩ := NB.out.drew.ext y8) | (go_at_call 86; refine (HN.out _).mono ?_; rintro e w9 ⟨⟨u9, rfl, m0, m1, m2, rfl, hr⟩, x9⟩; have HRr : Hid _ := hr; clear hr; have y9 : Ext w1.drew w9 := Ext.trans (by with_reducible assumption) x9; obtain ⟨p0, p1, p2, p3, p4, p5, p6⟩ := PB.out.drew.ext y9; obtain ⟨n0, n1, n2, n3, n4, n5, n6⟩ := NB.out.drew.ext y9; obtain ⟨c0, c1, c2, c3, c4, c5, c6⟩ := RB.out.drew.ext y9))
  all_goals
    have E8 : Ext w w9 := E1.trans y9
    clear y1 y4 y5 y6 y7 y8 y9 x4 x5 x6 x7 x8 x9 E1
    go_wp2_with fail
    exact bodyPost_ret (v := .agg #[.int .u64 m0, .int .u64 m1, .int .u64 m2]) (by simp [results, Try.results65, go_sem, c0, c1, c2]) rfl ⟨⟨_, rfl, _, _, _, rfl, HRr.out⟩, by repeat (first | with_reducible assumption | with_reducible exact Ext.refl _ | with_reducible refine Ext.drew ?_ | with_reducible refine Ext.drewN ?_ _ | with_reducible refine Ext.alloc ?_ _ | with_reducible refine Ext.set ?_ (by first | exact Nat.le_refl _ | (dsimp only; omega) | (simp; done)) _)⟩

theorem upw_root {p n k : Nat} (h0 : 0 < n) (h1 : n * k * k ≤ p) (h2 : ¬ n * (k + 1) * (k + 1) ≤ p) : ∃ K : Nat, upw k (sgnw ((p : Int) * 4 - ((n * (2 * k + 1) * (2 * k + 1) : Nat) : Int))) = K ∧ RootQ p n K ∧ K ≤ k + 1 := by
  have c6 : n * (2 * k + 1) * (2 * k + 1) = (2 * k + 1) * (2 * k + 1) * n := by rw [Nat.mul_assoc, Nat.mul_comm]
  have c7 : n * k * k = k * k * n := by rw [Nat.mul_assoc, Nat.mul_comm]
  have c8 : n * (k + 1) * (k + 1) = (k + 1) * (k + 1) * n := by rw [Nat.mul_assoc, Nat.mul_comm]
  unfold upw
  split
  · rename_i h
    refine ⟨k + 1, by omega, rootQ_up (by omega) ?_, by omega⟩
    unfold sgnw at h
    split at h
    · right; omega
    · split at h
      · omega
      · left; omega
  · rename_i h
    refine ⟨k, rfl, rootQ_down h0 (by omega) ?_, by omega⟩
    unfold sgnw at h
    split at h
    · right; omega
    · split at h
      · left; omega
      · omega

theorem rootw_any (p n : Nat) (u v : Value) (w : World) (hu : IsW u p) (hv : IsW v n) (h0 : 0 < n) (hn : n < 4951760157141521099596496896) (hp : p / n < 4951760157141521099596496896) (hp2 : p < 98079714615416886934934209737619787751599303819750539264) :
    Calls Try.prog 65 #[u, v] w fun e w' => (∃ r, e = .returned r ∧ ∃ k : Nat, IsW r k ∧ RootQ p n k ∧ k ≤ 70368744177664) ∧ Ext w w' := by
  obtain ⟨a0, a1, a2, rfl, ha⟩ := hu
  obtain ⟨b0, b1, b2, rfl, hb⟩ := hv
  have hA : IsW (.agg #[.int .u64 a0, .int .u64 a1, .int .u64 a2]) p := ⟨_, _, _, rfl, ha⟩
  have hB : IsW (.agg #[.int .u64 b0, .int .u64 b1, .int .u64 b2]) n := ⟨_, _, _, rfl, hb⟩
  have n46 : ¬ n * 70368744177664 * 70368744177664 ≤ p := by
    intro h
    have := (Nat.le_div_iff_mul_le h0 (x := 4951760157141521099596496896) (y := p)).2 (by omega)
    omega
  obtain ⟨k, hk1, hk2, hk3⟩ : ∃ k : Nat, n * k * k ≤ p ∧ ¬ n * (k + 1) * (k + 1) ≤ p ∧ k < 70368744177664 := by
    obtain ⟨k, q1, q2⟩ := exists_sqrt (p / n)
    refine ⟨k, (div_sq h0).1 q1, fun h => by have := (div_sq h0).2 h; omega, ?_⟩
    apply Classical.byContradiction
    intro h
    have : 70368744177664 * 70368744177664 ≤ k * k := Nat.mul_le_mul (by omega) (by omega)
    omega
  have eo : ((2 * k + 1 : Nat) : Int) = 2 * (k : Int) + 1 := by omega
  have bd := sq_bound hn (show 2 * k + 1 ≤ 140737488355328 by omega)
  have e6 : ((n : Int) * (2 * (k : Int) + 1) * (2 * (k : Int) + 1)) = ((n * (2 * k + 1) * (2 * k + 1) : Nat) : Int) := by
    rw [← eo]; simp [Int.natCast_mul]
  obtain ⟨K, eK, hK, hK2⟩ := upw_root h0 hk1 hk2
  have HG : ∀ w', H3 w' w.heap.size (.int .u64 a0) (.int .u64 a1) (.int .u64 a2) → H3 w' (w.heap.size + 1) (.int .u64 b0) (.int .u64 b1) (.int .u64 b2) → Calls Try.prog 81 #[.func (.func 82) #[] #[.pointer (some ⟨w.heap.size, 0, none⟩), .pointer (some ⟨w.heap.size + 1, 0, none⟩)]] w' fun e w'' => e = .returned (.int .u64 (k : Int)) ∧ Ext w' w'' := by
    intro w' PB NB
    refine (greatestR_any (fun X => n * X * X ≤ p) w.heap.size (w.heap.size + 1) w' (by omega) n46 (fun X w2 hX hx => root1_any p n X a0 a1 a2 b0 b1 b2 _ _ w2 hA hB hn hp2 hX (PB.ext hx) (NB.ext hx))).mono ?_
    rintro e w2 ⟨⟨R, rfl, r1, r2, r3⟩, x2⟩
    have : R = k := sqrt_unique ((div_sq h0).2 r1) (Nat.lt_of_not_le fun h => r2 ((div_sq h0).1 h)) ((div_sq h0).2 hk1) (Nat.lt_of_not_le fun h => hk2 ((div_sq h0).1 h))
    subst this
    exact ⟨rfl, x2⟩
  refine (root_raw a0 a1 a2 b0 b1 b2 k (sgnw ((p : Int) * 4 - ((n * (2 * k + 1) * (2 * k + 1) : Nat) : Int))) ((p : Int) * 4) ((n : Int) * (2 * (k : Int) + 1)) ((n : Int) * (2 * (k : Int) + 1) * (2 * (k : Int) + 1)) ((p : Int) * 4 - ((n * (2 * k + 1) * (2 * k + 1) : Nat) : Int)) K w (by omega) (by omega) HG
    (fun w' => timesw_any p 4 _ w' hA (by omega)) (fun w' => by
      have h := timesw_any n (2 * k + 1) _ w' hB (by omega)
      rw [eo] at h; exact h) (fun t w' ht => by
      have h := timesw_any _ (2 * k + 1) t w' ht (by omega)
      rw [eo] at h; exact h) (fun t t' w' h h' => by rw [← e6]; exact minus_any _ _ t t' w' h h') (fun t w' ht => signw_any _ t w' ht (inW_of (by omega)))
    (fun w' => by rw [← eK]; exact nearer_any k _ w' (by omega) (by omega))).mono ?_
  rintro e w1 ⟨⟨r, rfl, hr⟩, x1⟩
  exact ⟨⟨r, rfl, K, hr, hK, by omega⟩, x1⟩
end Go.Proofs.Ytbmodfhnenlmgaa

namespace Go.Proofs.Ytbmodfhnenlmgaa
open Go.RowKit Go.Shelf

theorem hid_ext {w w' : World} {b : Nat} {u v x : Value} (h : Hid (H3 w b u v x)) (hx : Ext w w') : Hid (H3 w' b u v x) := h.out.ext hx
theorem ext_newA {X w' : World} {u v x : Value} {T : TypeId} (h : Ext (X.alloc (.cells #[u, v, x] T)) w') : Hid (H3 w' X.heap.size u v x) := (h3_at rfl).ext h
theorem ext_newD {X w' : World} {u v x : Value} {T : TypeId} (h : Ext (X.alloc (.cells #[u, v, x] T)).drew w') : Hid (H3 w' X.heap.size u v x) := (H3.drew (h3_at rfl)).ext h
theorem H3.set3u {w : World} {b : Nat} {u v x : Value} (h : H3 w b u v x) (u' v' x' : Value) : H3 (((w.setCell ⟨b, 0, none⟩ u').setCell ⟨b, 1, none⟩ v').setCell ⟨b, 2, none⟩ x') b u' v' x' := by
  obtain ⟨h0, h1, h2, f0, f1, f2, hb⟩ := h
  refine ⟨?_, ?_, ?_, ?_, ?_, ?_, ?_⟩ <;> simp [go_sem, h0, h1, h2, f0, f1, f2, hb]
/-- the variable part, behind its region -/
def Part (w wx : World) (g : Nat) (k : Int) : Prop := ∃ s0 s1 s2 : Int, H3 wx g (.int .u64 s0) (.int .u64 s1) (.int .u64 s2) ∧ IsW (.agg #[.int .u64 s0, .int .u64 s1, .int .u64 s2]) k ∧ Ext w wx ∧ w.heap.size ≤ g
theorem part_a {w wR : World} {s0 s1 s2 k : Int} {T : TypeId} (hR : Hid (s0 = l0 k ∧ s1 = l1 k ∧ s2 = l2 k)) (y : Ext w wR) : Hid (Part w (wR.alloc (.cells #[.int .u64 s0, .int .u64 s1, .int .u64 s2] T)) wR.heap.size k) :=
  ⟨s0, s1, s2, h3_at rfl, ⟨_, _, _, rfl, hR.out⟩, y.alloc _, y.size⟩
theorem part_b {w wR : World} {g : Nat} {u v x : Value} {s0 s1 s2 k : Int} (hN : Hid (H3 wR g u v x)) (hR : Hid (s0 = l0 k ∧ s1 = l1 k ∧ s2 = l2 k)) (y : Ext w wR) (hg : w.heap.size ≤ g) :
    Hid (Part w (((wR.setCell ⟨g, 0, none⟩ (.int .u64 s0)).setCell ⟨g, 1, none⟩ (.int .u64 s1)).setCell ⟨g, 2, none⟩ (.int .u64 s2)) g k) :=
  ⟨s0, s1, s2, hN.out.set3u _ _ _, ⟨_, _, _, rfl, hR.out⟩, ((y.set hg _).set hg _).set hg _, hg⟩

theorem rootw_det (p n k : Nat) (u v : Value) (w : World) (hk : RootQ p n k) (hu : IsW u p) (hv : IsW v n) (h0 : 0 < n) (hn : n < 4951760157141521099596496896) (hp : p / n < 4951760157141521099596496896) (hp2 : p < 98079714615416886934934209737619787751599303819750539264) :
    Calls Try.prog 65 #[u, v] w fun e w' => (∃ r, e = .returned r ∧ IsW r (k : Int)) ∧ Ext w w' := by
  refine (rootw_any p n u v w hu hv h0 hn hp hp2).mono ?_
  rintro e w1 ⟨⟨r, rfl, k', h1, h2, _⟩, x1⟩
  rw [rootQ_unique h0 h2 hk] at h1
  exact ⟨⟨r, rfl, h1⟩, x1⟩

def sgd (v : Int) (k : Nat) : Int := if v < 0 then -(k : Int) else (k : Int)
end Go.Proofs.Ytbmodfhnenlmgaa

namespace Go.Proofs.Ytbmodfhnenlmgaa
open Go.RowKit Go.Shelf

def one3 (a0 a1 a2 : Int) (_i j : Nat) : Int := if j = 0 then a0 else if j = 1 then a1 else a2
theorem cells3_at (a0 a1 a2 : Int) (W : World) (n : Nat) (T : TypeId) (hn : W.heap.size = n) : ∀ i, i < 1 → ∀ j, j < 3 → (W.alloc (.cells #[.int .i64 a0, .int .i64 a1, .int .i64 a2] T)).cell? ⟨n, i * 3 + j, none⟩ = some (.int .i64 (one3 a0 a1 a2 i j)) := by
  subst hn
  intro i hi j hj
  obtain rfl : i = 0 := by omega
  have hj' : j = 0 ∨ j = 1 ∨ j = 2 := by omega
  rcases hj' with rfl | rfl | rfl <;> simp [go_sem, one3]
theorem check1_yes (a0 a1 a2 : Int) (W : World) (n : Nat) (T : TypeId) (hn : W.heap.size = n) (h1 : ok3 a0 a1 a2 = true) :
    Calls Try.prog 36 #[.slice (some ⟨n, 0, none⟩) 1 1] (W.alloc (.cells #[.int .i64 a0, .int .i64 a1, .int .i64 a2] T)) fun e w' => e = .returned (.int .i64 0) ∧ Ext (W.alloc (.cells #[.int .i64 a0, .int .i64 a1, .int .i64 a2] T)) w' := by
  refine (check_list 1 (one3 a0 a1 a2) n _ (by omega) (cells3_at a0 a1 a2 W n T hn)).mono ?_
  rintro e w1 ⟨⟨r, rfl, hr⟩, x⟩
  rcases hr with ⟨rfl, _⟩ | ⟨_, i, hi, hb⟩
  · exact ⟨rfl, x⟩
  · exfalso
    simp [one3, h1] at hb
theorem check1_no (a0 a1 a2 : Int) (W : World) (n : Nat) (T : TypeId) (hn : W.heap.size = n) (h : ok3 a0 a1 a2 = false) :
    Calls Try.prog 36 #[.slice (some ⟨n, 0, none⟩) 1 1] (W.alloc (.cells #[.int .i64 a0, .int .i64 a1, .int .i64 a2] T)) fun e w' => e = .returned (.int .i64 1) ∧ Ext (W.alloc (.cells #[.int .i64 a0, .int .i64 a1, .int .i64 a2] T)) w' := by
  refine (check_list 1 (one3 a0 a1 a2) n _ (by omega) (cells3_at a0 a1 a2 W n T hn)).mono ?_
  rintro e w1 ⟨⟨r, rfl, hr⟩, x⟩
  rcases hr with ⟨rfl, hk⟩ | ⟨rfl, _⟩
  · exfalso
    have h1 := hk 0 (by omega)
    simp [one3] at h1
    rw [h1] at h
    cases h
  · exact ⟨rfl, x⟩

set_option maxHeartbeats 4000000 in
theorem norm_no (a0 a1 a2 : Int) (w : World)
    (HK : Hid (∀ (W : World) (n : Nat) (T : TypeId), W.heap.size = n → Calls Try.prog 36 #[.slice (some ⟨n, 0, none⟩) 1 1] (W.alloc (.cells #[.int .i64 a0, .int .i64 a1, .int .i64 a2] T)) fun e w' => e = .returned (.int .i64 1) ∧ Ext (W.alloc (.cells #[.int .i64 a0, .int .i64 a1, .int .i64 a2] T)) w')) :
    Calls Try.prog 28 #[.agg #[.int .i64 a0, .int .i64 a1, .int .i64 a2]] w fun e' w' => e' = .returned (.tuple #[.int .i64 0, .int .i64 1]) ∧ Ext w w' := by
  have HA : Hid (∀ w', Calls Try.prog 21 #[.agg #[.int .i64 a0, .int .i64 a1, .int .i64 a2]] w' fun e w'' => e = .returned (.agg #[.int .i64 a0, .int .i64 a1, .int .i64 a2]) ∧ Ext w' w'') := fun w' => of_any a0 a1 a2 w'
  go_enter Try.func28, Try.ntmps28
  go_wp2_with fail
  refine (HA.out _).mono ?_
  rintro e' w1 ⟨rfl, x1⟩
  go_wp2_with fail
  refine (HK.out _ _ _ rfl).mono ?_
  rintro e' w2 ⟨rfl, x20⟩
  have x2 := x1.trans (Ext.trans ((Ext.refl _).alloc _) x20)
  clear x20 x1
  have E8 : Ext w w2 := Ext.trans ((Ext.refl _).alloc _) x2
  clear x2
  go_wp2_with fail
  go_ret2
  exact ⟨rfl, E8⟩
set_option maxHeartbeats 4000000 in
theorem norm_yes (a0 a1 a2 r s : Int) (w : World)
    (HK : Hid (∀ (W : World) (n : Nat) (T : TypeId), W.heap.size = n → Calls Try.prog 36 #[.slice (some ⟨n, 0, none⟩) 1 1] (W.alloc (.cells #[.int .i64 a0, .int .i64 a1, .int .i64 a2] T)) fun e w' => e = .returned (.int .i64 0) ∧ Ext (W.alloc (.cells #[.int .i64 a0, .int .i64 a1, .int .i64 a2] T)) w'))
    (HL : Hid (∀ w', Calls Try.prog 45 #[.agg #[.int .i64 a0, .int .i64 a1, .int .i64 a2]] w' fun e w'' => e = .returned (.tuple #[.int .i64 r, .int .i64 s]) ∧ Ext w' w'')) :
    Calls Try.prog 28 #[.agg #[.int .i64 a0, .int .i64 a1, .int .i64 a2]] w fun e' w' => e' = .returned (.tuple #[.int .i64 r, .int .i64 s]) ∧ Ext w w' := by
  have HA : Hid (∀ w', Calls Try.prog 21 #[.agg #[.int .i64 a0, .int .i64 a1, .int .i64 a2]] w' fun e w'' => e = .returned (.agg #[.int .i64 a0, .int .i64 a1, .int .i64 a2]) ∧ Ext w' w'') := fun w' => of_any a0 a1 a2 w'
  go_enter Try.func28, Try.ntmps28
  go_wp2_with fail
  refine (HA.out _).mono ?_
  rintro e' w1 ⟨rfl, x1⟩
  go_wp2_with fail
  refine (HK.out _ _ _ rfl).mono ?_
  rintro e' w2 ⟨rfl, x20⟩
  have x2 := x1.trans (Ext.trans ((Ext.refl _).alloc _) x20)
  clear x20 x1
  have E8 : Ext w w2 := Ext.trans ((Ext.refl _).alloc _) x2
  obtain ⟨p0, p1, p2, p3, p4, p5, p6⟩ : H3 w2 w.heap.size (.int .i64 a0) (.int .i64 a1) (.int .i64 a2) := (h3_at rfl).ext x2
  clear x2
  go_wp2_with fail
  refine (HA.out _).mono ?_
  rintro e' w3 ⟨rfl, x3⟩
  go_wp2_with fail
  refine (HL.out _).mono ?_
  rintro e' w4 ⟨rfl, x4⟩
  go_wp2_with fail
  go_ret2
  exact ⟨rfl, (E8.trans x3).trans x4⟩
theorem rootQ_exists (p n : Nat) (h0 : 0 < n) : ∃ k, RootQ p n k := by
  obtain ⟨k, k1, k2⟩ := exists_sqrt (p / n)
  have hm : k * k * n ≤ p := by rw [← Nat.le_div_iff_mul_le h0]; exact k1
  have hM : p < (k + 1) * (k + 1) * n := by rw [← Nat.div_lt_iff_lt_mul h0]; exact k2
  by_cases h : (2 * k + 1) * (2 * k + 1) * n < 4 * p ∨ (2 * k + 1) * (2 * k + 1) * n = 4 * p ∧ k % 2 = 1
  · exact ⟨k + 1, rootQ_up hM h⟩
  · exact ⟨k, rootQ_down h0 hm (by omega)⟩
theorem rootQ_le {p n k B : Nat} (h : RootQ p n k) (hn : 0 < n) (hp : p ≤ B * B * n) : k ≤ B := by
  obtain ⟨_, h2, _, h4⟩ := h
  apply Decidable.byContradiction
  intro hh
  have h5 : (2 * B + 1) * (2 * B + 1) * n ≤ (2 * k - 1) * (2 * k - 1) * n := Nat.mul_le_mul_right n (Nat.mul_le_mul (by omega) (by omega))
  have h6 : (2 * B + 1) * (2 * B + 1) * n = 4 * (B * B * n) + 4 * (B * n) + n := by
    have : (2 * B + 1) * (2 * B + 1) = 4 * (B * B) + 4 * B + 1 := by
      simp only [Nat.mul_add, Nat.add_mul, Nat.mul_one, Nat.one_mul]
      have : 2 * B * (2 * B) = 4 * (B * B) := by rw [Nat.mul_mul_mul_comm]
      omega
    rw [this, Nat.add_mul, Nat.add_mul, Nat.mul_assoc 4, Nat.mul_assoc 4, Nat.one_mul]
  omega
/-- the sum of the squares -/
def sq3 (a0 a1 a2 : Int) : Nat := a0.natAbs * a0.natAbs + a1.natAbs * a1.natAbs + a2.natAbs * a2.natAbs
theorem sq3_dot (a0 a1 a2 : Int) : dot3 a0 a1 a2 a0 a1 a2 = (sq3 a0 a1 a2 : Int) := by
  unfold dot3 sq3
  rw [Int.natCast_add, Int.natCast_add, Int.natAbs_mul_self, Int.natAbs_mul_self, Int.natAbs_mul_self]
theorem sq3_lt {a0 a1 a2 : Int} (h : ok3 a0 a1 a2 = true) : sq3 a0 a1 a2 < 3713820117856140824697372672 := by
  obtain ⟨g0, g1, g2⟩ := ok3_parts h
  have b0 := okW_bounds g0
  have b1 := okW_bounds g1
  have b2 := okW_bounds g2
  have m0 : a0.natAbs * a0.natAbs ≤ 35184372088831 * 35184372088831 := Nat.mul_le_mul (by omega) (by omega)
  have m1 : a1.natAbs * a1.natAbs ≤ 35184372088831 * 35184372088831 := Nat.mul_le_mul (by omega) (by omega)
  have m2 : a2.natAbs * a2.natAbs ≤ 35184372088831 * 35184372088831 := Nat.mul_le_mul (by omega) (by omega)
  unfold sq3
  omega
set_option maxHeartbeats 4000000 in
theorem length_any (a0 a1 a2 : Int) (k : Nat) (w : World) (h : ok3 a0 a1 a2 = true) (hk : RootQ (sq3 a0 a1 a2) 1 k) :
    Calls Try.prog 45 #[.agg #[.int .i64 a0, .int .i64 a1, .int .i64 a2]] w fun e w' => e = .returned (.tuple #[.int .i64 (fitR k).1, .int .i64 (fitR k).2]) ∧ Ext w w' := by
  obtain ⟨g0, g1, g2⟩ := ok3_parts h
  have hl := sq3_lt h
  have kb : k ≤ 70368744177664 := rootQ_le hk (by omega) (by omega)
  have HS : Hid (∀ w', Calls Try.prog 66 #[.agg #[.int .i64 a0, .int .i64 a1, .int .i64 a2], .agg #[.int .i64 a0, .int .i64 a1, .int .i64 a2]] w' fun e w'' => (∃ r, e = .returned r ∧ IsW r (sq3 a0 a1 a2 : Nat)) ∧ Ext w' w'') := fun w' => by
    rw [← sq3_dot]
    exact sum_any a0 a1 a2 a0 a1 a2 w' g0 g1 g2 g0 g1 g2
  have HO : Hid (∀ w', Calls Try.prog 67 #[.int .i64 1] w' fun e w'' => (∃ r, e = .returned r ∧ IsW r ((1 : Nat) : Int)) ∧ Ext w' w'') := fun w' => ofw_any 1 w' (by omega) (by omega)
  have HR : Hid (∀ u v w', IsW u (sq3 a0 a1 a2 : Nat) → IsW v ((1 : Nat) : Int) → Calls Try.prog 65 #[u, v] w' fun e w'' => (∃ r, e = .returned r ∧ IsW r (k : Int)) ∧ Ext w' w'') := fun u v w' hu hv => rootw_det _ 1 k u v w' hk hu hv (by omega) (by omega) (by rw [Nat.div_one]; omega) (by omega)
  have HW : Hid (∀ u w', IsW u (k : Int) → Calls Try.prog 68 #[u] w' fun e w'' => e = .returned (.tuple #[.int .i64 (fitR k).1, .int .i64 (fitR k).2]) ∧ Ext w' w'') := fun u w' hu => wordw_any _ u w' hu (by unfold InW; omega)
  clear g0 g1 g2 hl kb hk h
  generalize sq3 a0 a1 a2 = D at *
  generalize (fitR (k : Int)).1 = o1 at *
  generalize (fitR (k : Int)).2 = o2 at *
  go_enter Try.func45, Try.ntmps45
  go_wp2_with fail
  refine (HS.out _).mono ?_
  rintro e w1 ⟨⟨u1, rfl, hu1⟩, x1⟩
  go_wp2_with fail
  refine (HO.out _).mono ?_
  rintro e w2 ⟨⟨u2, rfl, hu2⟩, x2⟩
  go_wp2_with fail
  refine (HR.out _ _ _ hu1 hu2).mono ?_
  rintro e w3 ⟨⟨u3, rfl, hu3⟩, x3⟩
  go_wp2_with fail
  refine (HW.out _ _ hu3).mono ?_
  rintro e w4 ⟨rfl, x4⟩
  go_wp2_with fail
  go_ret2
  exact ⟨rfl, (((Ext.trans ((Ext.refl _).alloc _) x1).trans x2).trans x3).trans x4⟩
theorem vNorm_yes (a0 a1 a2 : Int) (k : Nat) (w : World) (h : ok3 a0 a1 a2 = true) (hk : RootQ (sq3 a0 a1 a2) 1 k) :
    Calls Try.prog 28 #[.agg #[.int .i64 a0, .int .i64 a1, .int .i64 a2]] w fun e w' => e = .returned (.tuple #[.int .i64 (fitR k).1, .int .i64 (fitR k).2]) ∧ Ext w w' :=
  norm_yes a0 a1 a2 _ _ w (fun W n T hn => check1_yes a0 a1 a2 W n T hn h) (fun w' => length_any a0 a1 a2 k w' h hk)
theorem vNorm_no (a0 a1 a2 : Int) (w : World) (h : ok3 a0 a1 a2 = false) :
    Calls Try.prog 28 #[.agg #[.int .i64 a0, .int .i64 a1, .int .i64 a2]] w fun e w' => e = .returned (.tuple #[.int .i64 0, .int .i64 1]) ∧ Ext w w' :=
  norm_no a0 a1 a2 w (fun W n T hn => check1_no a0 a1 a2 W n T hn h)
end Go.Proofs.Ytbmodfhnenlmgaa

namespace Go.Proofs.Ytbmodfhnenlmgaa
open Go.RowKit Go.Shelf

/-- a list of Two: cell j of entry i holds the number Z i j -/
def Twos3 (w : World) (b off len : Nat) (Z : Nat → Nat → Int) : Prop :=
  ∀ i, i < len → ∀ j, j < 16 → w.cell? ⟨b, off + i * 16 + j, none⟩ = some (.int .i64 (Z i j)) ∧ -9223372036854775808 ≤ Z i j ∧ Z i j ≤ 9223372036854775807
theorem Twos3.ext {w w' : World} {b off len : Nat} {Z : Nat → Nat → Int} (h : Twos3 w b off len Z) (hx : Ext w w') : Twos3 w' b off len Z := by
  intro i hi j hj
  obtain ⟨h1, h2⟩ := h i hi j hj
  refine ⟨?_, h2⟩
  rw [(hx.lay).1 b _ (cell_lt h1)]
  exact h1

set_option maxHeartbeats 400000 in
theorem num3_any (v : Int) (w : World) :
    Calls Try.prog 27 #[.int .i64 v] w fun e w' => e = .returned (.int .i64 v) ∧ w' = w := by
  go_enter Try.func27, Try.ntmps27
  go_wp2
  go_ret
  exact ⟨rfl, rfl⟩

set_option maxHeartbeats 2000000 in
theorem mayv_any (x y z : Int) (w : World) :
    Calls Try.prog 8 #[.agg #[.int .i64 x, .int .i64 y, .int .i64 z]] w fun e w' => e = .returned (.bool (ok3 x y z)) ∧ Ext w w' := by
  have HM : Hid (∀ v w', Calls Try.prog 16 #[.int .i64 v] w' fun e w'' => e = .returned (.bool (okW v)) ∧ w'' = w') := may_any
  unfold ok3
  cases h0 : okW x
  · go_enter Try.func8, Try.ntmps8
    go_wp2_with (go_at_call 16; refine (HM.out _ _).mono ?_; rintro e wx ⟨rfl, hwx⟩; have hwy := hwx.symm; clear hwx; subst hwy)
    go_ret
    exact ⟨rfl, (Ext.refl _).alloc _⟩
  · cases h1 : okW y
    · go_enter Try.func8, Try.ntmps8
      go_wp2_with (go_at_call 16; refine (HM.out _ _).mono ?_; rintro e wx ⟨rfl, hwx⟩; have hwy := hwx.symm; clear hwx; subst hwy)
      go_ret
      exact ⟨rfl, (Ext.refl _).alloc _⟩
    · go_enter Try.func8, Try.ntmps8
      go_wp2_with (go_at_call 16; refine (HM.out _ _).mono ?_; rintro e wx ⟨rfl, hwx⟩; have hwy := hwx.symm; clear hwx; subst hwy)
      go_ret
      exact ⟨rfl, (Ext.refl _).alloc _⟩

set_option maxHeartbeats 1000000 in
theorem wakes3_any (w : World) :
    Calls Try.prog 12 #[] w fun e w' => e = .returned (.bool true) ∧ Ext w w' := by
  have HN : Hid (∀ w', Calls Try.prog 28 #[.agg #[.int .i64 3, .int .i64 4, .int .i64 0]] w' fun e w'' => e = .returned (.tuple #[.int .i64 5, .int .i64 0]) ∧ Ext w' w'') := fun w' => by
    have h := vNorm_yes 3 4 0 5 w' (by decide) (by unfold RootQ; decide)
    have e : fitR ((5 : Nat) : Int) = (5, 0) := by decide
    rw [e] at h
    exact h
  go_enter Try.func12, Try.ntmps12
  go_wp2_with fail
  refine (HN.out _).mono ?_
  rintro e w1 ⟨rfl, x1⟩
  go_wp2_with (go_at_call 27; refine (num3_any _ _).mono ?_; rintro e wx ⟨rfl, hwx⟩; have hwy := hwx.symm; clear hwx; subst hwy)
  go_ret
  exact ⟨rfl, x1⟩
end Go.Proofs.Ytbmodfhnenlmgaa

namespace Go.Proofs.Ytbmodfhnenlmgaa
open Go.RowKit Go.Shelf
theorem cell_al {w : World} {b o : Nat} {v : Value} (h : w.cell? ⟨b, o, none⟩ = some v) (x : Obj) : (w.alloc x).cell? ⟨b, o, none⟩ = some v := ((Ext.refl _).alloc x).keepc h
theorem cell_al2 {w : World} {b o : Nat} {v : Value} (h : w.cell? ⟨b, o, none⟩ = some v) (x y : Obj) : ((w.alloc x).alloc y).cell? ⟨b, o, none⟩ = some v := cell_al (cell_al h x) y
/-- the cells of entry k: its two vectors -/
def Row6 (w : World) (b o : Nat) (a0 a1 a2 b0 b1 b2 : Int) : Prop :=
  w.cell? ⟨b, o, none⟩ = some (.int .i64 a0) ∧ w.cell? ⟨b, o + 1, none⟩ = some (.int .i64 a1) ∧ w.cell? ⟨b, o + 2, none⟩ = some (.int .i64 a2) ∧
  w.cell? ⟨b, o + 3, none⟩ = some (.int .i64 b0) ∧ w.cell? ⟨b, o + 3 + 1, none⟩ = some (.int .i64 b1) ∧ w.cell? ⟨b, o + 3 + 2, none⟩ = some (.int .i64 b2)
theorem Twos3.row {w : World} {b off len : Nat} {Z : Nat → Nat → Int} (h : Twos3 w b off len Z) {k : Nat} (hk : k < len) : Row6 w b (off + k * 16) (Z k 0) (Z k 1) (Z k 2) (Z k 3) (Z k 4) (Z k 5) :=
  ⟨(h k hk 0 (by omega)).1, (h k hk 1 (by omega)).1, (h k hk 2 (by omega)).1, (h k hk 3 (by omega)).1, (h k hk 4 (by omega)).1, (h k hk 5 (by omega)).1⟩
theorem Row6.al {w : World} {b o : Nat} {a0 a1 a2 b0 b1 b2 : Int} (h : Row6 w b o a0 a1 a2 b0 b1 b2) (x : Obj) : Row6 (w.alloc x) b o a0 a1 a2 b0 b1 b2 := by
  obtain ⟨h0, h1, h2, h3, h4, h5⟩ := h
  exact ⟨cell_al h0 x, cell_al h1 x, cell_al h2 x, cell_al h3 x, cell_al h4 x, cell_al h5 x⟩
end Go.Proofs.Ytbmodfhnenlmgaa

namespace Go.Proofs.Ytbmodfhnenlmgaa
open Go.ChangeShapes Go.WideShapes Go.ChangeAt Go.RowKit Go.Deep

theorem Try.own : ownKnob Try.prog.godebug = none := by kernel_rfl
theorem Try.laidOut : laidOutB Try.prog = true := by kernel_rfl
theorem Try.cellsTwo : Try.prog.cellsOf 27 = 16 := by kernel_rfl
theorem Try.cellsI64 : Try.prog.cellsOf 2 = 1 := by kernel_rfl
theorem Try.cellsVec : Try.prog.cellsOf 24 = 3 := by kernel_rfl
theorem Try.cellsNine : Try.prog.cellsOf 25 = 9 := by kernel_rfl

def numAt (w : World) (a : Addr) : Int := match w.cell? a with | some (.int _ n) => n | _ => 0

theorem add_plain (b o n : Nat) : (⟨b, o, none⟩ : Addr).add n = ⟨b, o + n, none⟩ := by
  unfold Addr.add
  split
  · subst_vars; rfl
  · rfl

theorem i64_bounds {n : Int} (h : (Lit.int .i64 n).wf = true) : -9223372036854775808 ≤ n ∧ n ≤ 9223372036854775807 := by
  have := bounds_i64 h
  omega
/-- what is read of type t has n numbers -/
def Nums (t : TypeId) (n : Nat) : Prop := ∀ (H : Type) (enc : TypeId × Value → H) (w : World) (base : Nat) (spare : Nat → Bool) (held : Bool) (fuel : Nat) (cs : List Value) (x : DataW H × List MemPlace),
  DataW.trod enc Try.prog w base spare held fuel t cs = some x → ∀ j, j < n → ∃ m : Int, cs[j]? = some (.int .i64 m) ∧ -9223372036854775808 ≤ m ∧ m ≤ 9223372036854775807
theorem nums_i64 : Nums 2 1 := by
  intro H enc w base spare held fuel cs x h j hj
  obtain rfl : j = 0 := by omega
  obtain ⟨n, hn, _, hw⟩ := DataW.trod_int Try.underlying2 h
  exact ⟨n, by rw [hn]; rfl, i64_bounds hw⟩
theorem nums_part {cs : List Value} {o l j : Nat} (h : ∃ m : Int, (List.take l (List.drop o cs))[j]? = some (.int .i64 m) ∧ -9223372036854775808 ≤ m ∧ m ≤ 9223372036854775807) (hj : j < l) : ∃ m : Int, cs[o + j]? = some (.int .i64 m) ∧ -9223372036854775808 ≤ m ∧ m ≤ 9223372036854775807 := by
  obtain ⟨m, hm, hb⟩ := h
  refine ⟨m, ?_, hb⟩
  rw [List.getElem?_take_of_lt hj, List.getElem?_drop] at hm
  exact hm
theorem nums_vec : Nums 24 3 := by
  intro H enc w base spare held fuel cs x h j hj
  obtain ⟨xs, m, rfl, rfl, hlen, hxs, hf⟩ := DataW.trod_struct Try.underlying24 h
  have hx : xs.length = 3 := hxs
  have key : ∀ (i o : Nat) (f : Field), i < 3 → f.type = 2 → f.offset = o → DataW.trod enc Try.prog w base spare held m f.type (List.take (Try.prog.cellsOf f.type) (List.drop f.offset cs)) = xs[i]? → ∃ m : Int, cs[o + 0]? = some (.int .i64 m) ∧ -9223372036854775808 ≤ m ∧ m ≤ 9223372036854775807 := by
    intro i o f hi h1 h2 h3
    rw [h1, h2, Try.cellsI64, List.getElem?_eq_getElem (by omega : i < xs.length)] at h3
    exact nums_part (nums_i64 _ _ _ _ _ _ _ _ _ h3 0 (by omega)) (by omega)
  match j, hj with
  | 0, _ => exact key 0 0 _ (by omega) rfl rfl (hf 0 _ rfl)
  | 1, _ => exact key 1 1 _ (by omega) rfl rfl (hf 1 _ rfl)
  | 2, _ => exact key 2 2 _ (by omega) rfl rfl (hf 2 _ rfl)
theorem nums_nine : Nums 25 9 := by
  intro H enc w base spare held fuel cs x h j hj
  obtain ⟨xs, m, rfl, rfl, hlen, hxs, hf⟩ := DataW.trod_array Try.underlying25 h
  have h3 := hf j hj
  rw [Try.cellsI64, Nat.mul_one, List.getElem?_eq_getElem (by omega : j < xs.length)] at h3
  exact nums_part (nums_i64 _ _ _ _ _ _ _ _ _ h3 0 (by omega)) (by omega)
set_option maxRecDepth 20000 in
theorem nums_two : Nums 27 16 := by
  intro H enc w base spare held fuel cs x h j hj
  obtain ⟨xs, m, rfl, rfl, hlen, hxs, hf⟩ := DataW.trod_struct Try.underlying27 h
  have hx : xs.length = 4 := hxs
  have key : ∀ (i o n t : Nat) (f : Field), DataW.trod enc Try.prog w base spare held m f.type (List.take (Try.prog.cellsOf f.type) (List.drop f.offset cs)) = xs[i]? → i < 4 → f.type = t → f.offset = o → Try.prog.cellsOf t = n → Nums t n → ∀ j, j < n → ∃ m : Int, cs[o + j]? = some (.int .i64 m) ∧ -9223372036854775808 ≤ m ∧ m ≤ 9223372036854775807 := by
    intro i o n t f h3 hi h1 h2 hn hN j hj
    rw [h1, h2, hn, List.getElem?_eq_getElem (by omega : i < xs.length)] at h3
    exact nums_part (hN _ _ _ _ _ _ _ _ _ h3 j hj) hj
  have kA := key 0 0 3 24 _ (hf 0 _ rfl) (by omega) rfl rfl Try.cellsVec nums_vec
  have kB := key 1 3 3 24 _ (hf 1 _ rfl) (by omega) rfl rfl Try.cellsVec nums_vec
  have kK := key 2 6 1 2 _ (hf 2 _ rfl) (by omega) rfl rfl Try.cellsI64 nums_i64
  have kM := key 3 7 9 25 _ (hf 3 _ rfl) (by omega) rfl rfl Try.cellsNine nums_nine
  by_cases c1 : j < 3
  · have := kA j c1; rwa [Nat.zero_add] at this
  · by_cases c2 : j < 6
    · have := kB (j - 3) (by omega); rwa [show 3 + (j - 3) = j by omega] at this
    · by_cases c3 : j < 7
      · have := kK (j - 6) (by omega); rwa [show 6 + (j - 6) = j by omega] at this
      · have := kM (j - 7) (by omega); rwa [show 7 + (j - 7) = j by omega] at this

theorem open_twos {H : Type} {enc : TypeId × Value → H} {W : World} {a : Option Addr} {len cap : Nat} {d : DataW H} {p : List MemPlace}
    (h : DataW.Trod enc Try.prog W 0 (fun _ => true) true 22 (.slice a len cap) d p) : len = 0 ∨ ∃ b off Z, a = some ⟨b, off, none⟩ ∧ len ≤ maxLen ∧ Twos3 W b off len Z := by
  by_cases h0 : len = 0
  · exact .inl h0
  right
  obtain ⟨fuel, hf⟩ := h
  rcases open_slice Try.underlying22 hf with ⟨hcs, _⟩ | ⟨x, l, c, m, n, D, Pl, hcs, _, hl, hm, hmm, _, hel⟩
  · simp [Value.cells] at hcs
    omega
  · simp [Value.cells] at hcs
    obtain ⟨rfl, rfl, rfl⟩ := hcs
    simp only [if_true] at hmm
    obtain ⟨b, off, spot⟩ := x
    rw [Try.cellsTwo] at hel
    have hcell : ∀ i, i < len → ∀ j, j < 16 → ∃ n : Int, W.cell? (((⟨b, off, spot⟩ : Addr).add (i * 16)).add j) = some (.int .i64 n) ∧ -9223372036854775808 ≤ n ∧ n ≤ 9223372036854775807 := by
      intro i hi j hj
      obtain ⟨cs', h1, h2⟩ := hel i (by omega)
      obtain ⟨_, _, h3⟩ := World.cells?_some h1
      obtain ⟨n, hn, hb⟩ := nums_two _ _ _ _ _ _ _ _ _ h2 j hj
      refine ⟨n, ?_, hb⟩
      have h4 := h3 j hj
      rw [hn] at h4
      exact h4
    have hspot : spot = none := by
      obtain ⟨n, hn, _⟩ := hcell 0 (by omega) 0 (by omega)
      simpa [Addr.add] using World.cell?_spot hn
    subst hspot
    refine ⟨b, off, fun i j => numAt W ⟨b, off + i * 16 + j, none⟩, rfl, by omega, ?_⟩
    intro i hi j hj
    obtain ⟨n, hn0, hb⟩ := hcell i hi j hj
    have hn : W.cell? ⟨b, off + i * 16 + j, none⟩ = some (.int .i64 n) := by rw [add_plain, add_plain] at hn0; exact hn0
    have : numAt W ⟨b, off + i * 16 + j, none⟩ = n := by unfold numAt; rw [hn]
    simp only [this]
    exact ⟨hn, hb⟩
end Go.Proofs.Ytbmodfhnenlmgaa
