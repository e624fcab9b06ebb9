/- quat: Unit, Norm. Plain numbers: units, and products of units. vec: of, across. vec: check of one vector, Check. -/
import Derived.Test.YtmbdcgijjpcppaaGreatQ4um
import Derived.Test.YtmbdcgijjpcppaaGreatQ4nm
import Derived.Test.YtmbdcgijjpcppaaGreatMg13
import Derived.Test.YtmbdcgijjpcppaaGreatMg18
import Derived.Test.YtmbdcgijjpcppaaGreatW9m
import Derived.Test.YtmbdcgijjpcppaaGreatMg6
import Derived.Test.YtmbdcgijjpcppaaGreatWSm
namespace Go.Proofs.YtmbdcgijjpcppaaGreat
open Go.RowKit Go.Shelf

set_option maxHeartbeats 4000000 in
theorem eqQ (x y z u a b c d : Int) (w : World) : (Op.equalIn 10000 24 (.agg #[.int .i64 x, .int .i64 y, .int .i64 z, .int .i64 u]) (.agg #[.int .i64 a, .int .i64 b, .int .i64 c, .int .i64 d])).run Tryz.prog w = .ok (x == a && (y == b && (z == c && u == d))) w := by
  by_cases hx : x = a <;> by_cases hy : y = b <;> by_cases hz : z = c <;> by_cases hu : u = d <;> simp [go_sem, hx, hy, hz, hu]

set_option maxHeartbeats 2000000 in
theorem qunit1_raw (v b0 b1 b2 z : Int) (g : Nat) (w : World) (GB : H3 w g (.int .u64 b0) (.int .u64 b1) (.int .u64 b2))
    (HO : Hid (∀ w', Calls Tryz.prog 139 #[.int .i64 v, .agg #[.int .u64 b0, .int .u64 b1, .int .u64 b2]] w' fun e w'' => (∃ r, e = .returned r ∧ IsW r z) ∧ Ext w' w'')) :
    Calls Tryz.prog 138 #[.int .i64 v, .pointer (some ⟨g, 0, none⟩)] w fun e w' => (∃ r, e = .returned r ∧ IsW r z) ∧ Ext w w' := by
  have hg := GB.2.2.2.2.2.2
  have GG := GB.alloc (.cells #[.int .u64 0, .int .u64 0, .int .u64 0] 167)
  obtain ⟨g0, g1, g2, g3, g4, g5, g6⟩ := GG
  clear GB
  go_enter Tryz.func138, Tryz.ntmps138
  go_wp2_with fail
  refine (HO.out _).mono ?_
  rintro e w1 ⟨⟨r, rfl, s0, s1, s2, rfl, hr⟩, x1⟩
  have HR : Hid _ := hr
  clear hr
  have X1 : Ext w w1 := Ext.trans (by repeat (first | with_reducible assumption | with_reducible exact Ext.refl _ | with_reducible refine Ext.drew ?_ | with_reducible refine Ext.drewN ?_ _ | with_reducible refine Ext.alloc ?_ _ | with_reducible refine Ext.set ?_ (by first | exact Nat.le_refl _ | (dsimp only; omega) | (simp; done)) _)) x1
  obtain ⟨c0, c1, c2, c3, c4, c5, c6⟩ : H3 w1 w.heap.size _ _ _ := (h3_at rfl).ext x1
  clear x1 g0 g1 g2 g3 g4 g5 g6
  go_wp2_with fail
  exact bodyPost_ret (v := .agg #[.int .u64 s0, .int .u64 s1, .int .u64 s2]) (by simp [results, Tryz.results138, go_sem, c0, c1, c2]) rfl ⟨⟨_, rfl, _, _, _, rfl, HR.out⟩, by repeat (first | with_reducible assumption | with_reducible exact Ext.refl _ | with_reducible refine Ext.drew ?_ | with_reducible refine Ext.drewN ?_ _ | with_reducible refine Ext.alloc ?_ _ | with_reducible refine Ext.set ?_ (by first | exact Nat.le_refl _ | (dsimp only; omega) | (simp; done)) _)⟩

set_option maxHeartbeats 2000000 in
theorem qinQ30_any (z : Int) (u : Value) (w : World) (hu : IsW u z) (hz : InW (z + 536870912)) (hz' : InW z) :
    Calls Tryz.prog 132 #[u] w fun e w' => (∃ r, e = .returned r ∧ IsW r (nearQ z)) ∧ Ext w w' := by
  have HO : Hid (∀ w', Calls Tryz.prog 169 #[u, .int .i64 30] w' fun e w'' => (∃ r, e = .returned r ∧ IsW r (nearQ z)) ∧ Ext w' w'') := fun w' => nearestw_any z u w' hu hz hz'
  obtain ⟨a0, a1, a2, rfl, ha⟩ := hu
  clear ha hz hz'
  go_enter Tryz.func132, Tryz.ntmps132
  go_wp2_with fail
  refine (HO.out _).mono ?_
  rintro e w1 ⟨⟨r, rfl, s0, s1, s2, rfl, hr⟩, x1⟩
  have HR : Hid _ := hr
  clear hr
  have X1 : Ext w w1 := Ext.trans (by repeat (first | with_reducible assumption | with_reducible exact Ext.refl _ | with_reducible refine Ext.drew ?_ | with_reducible refine Ext.drewN ?_ _ | with_reducible refine Ext.alloc ?_ _ | with_reducible refine Ext.set ?_ (by first | exact Nat.le_refl _ | (dsimp only; omega) | (simp; done)) _)) x1
  obtain ⟨c0, c1, c2, c3, c4, c5, c6⟩ : H3 w1 (w.heap.size + 1) _ _ _ := (h3_at (by simp)).ext x1
  clear x1
  go_wp2_with fail
  exact bodyPost_ret (v := .agg #[.int .u64 s0, .int .u64 s1, .int .u64 s2]) (by simp [results, Tryz.results132, go_sem, c0, c1, c2]) rfl ⟨⟨_, rfl, _, _, _, rfl, HR.out⟩, by repeat (first | with_reducible assumption | with_reducible exact Ext.refl _ | with_reducible refine Ext.drew ?_ | with_reducible refine Ext.drewN ?_ _ | with_reducible refine Ext.alloc ?_ _ | with_reducible refine Ext.set ?_ (by first | exact Nat.le_refl _ | (dsimp only; omega) | (simp; done)) _)⟩

set_option maxRecDepth 20000 in
set_option maxHeartbeats 4000000 in
theorem qunit_raw (a b c d N E0 E1 E2 E3 ee : Int) (w : World)
    (HS : Hid (∀ w', Calls Tryz.prog 136 #[.agg #[.int .i64 a, .int .i64 b, .int .i64 c, .int .i64 d]] w' fun e w'' => (∃ r, e = .returned r ∧ IsW r N) ∧ Ext w' w''))
    (HT : Hid (∀ g b0 b1 b2 w', IsW (.agg #[.int .u64 b0, .int .u64 b1, .int .u64 b2]) N → H3 w' g (.int .u64 b0) (.int .u64 b1) (.int .u64 b2) → Calls Tryz.prog 137 #[.agg #[.int .i64 a, .int .i64 b, .int .i64 c, .int .i64 d], .func (.func 138) #[] #[.pointer (some ⟨g, 0, none⟩)]] w' fun e w'' => e = .returned (.tuple #[.agg #[.int .i64 E0, .int .i64 E1, .int .i64 E2, .int .i64 E3], .int .i64 ee]) ∧ Ext w' w'')) :
    Calls Tryz.prog 105 #[.agg #[.int .i64 a, .int .i64 b, .int .i64 c, .int .i64 d]] w fun e w' => e = .returned (.tuple #[.agg #[.int .i64 E0, .int .i64 E1, .int .i64 E2, .int .i64 E3], .int .i64 ee]) ∧ Ext w w' := by
  go_enter Tryz.func105, Tryz.ntmps105
  go_wp2_with fail
  refine (HS.out _).mono ?_
  rintro e w1 ⟨⟨uN, rfl, b0, b1, b2, rfl, hN0⟩, x1⟩
  have HN : Hid (IsW (.agg #[.int .u64 b0, .int .u64 b1, .int .u64 b2]) N) := ⟨_, _, _, rfl, hN0⟩
  clear hN0
  have QB : Hid (H4 w1 w.heap.size (.int .i64 a) (.int .i64 b) (.int .i64 c) (.int .i64 d)) := (H4.alloc (h4_at rfl) _).ext x1
  have RB : Hid (H4 w1 (w.heap.size + 1) (.int .i64 0) (.int .i64 0) (.int .i64 0) (.int .i64 0)) := (h4_at (by simp)).ext x1
  have X1 : Ext w w1 := Ext.trans (by repeat (first | with_reducible assumption | with_reducible exact Ext.refl _ | with_reducible refine Ext.drew ?_ | with_reducible refine Ext.drewN ?_ _ | with_reducible refine Ext.alloc ?_ _ | with_reducible refine Ext.set ?_ (by first | exact Nat.le_refl _ | (dsimp only; omega) | (simp; done)) _)) x1
  clear x1
  have d0 := fun o => (QB.out.alloc o).1
  have d1 := fun o => (QB.out.alloc o).2.1
  have d2 := fun o => (QB.out.alloc o).2.2.1
  have d3 := fun o => (QB.out.alloc o).2.2.2.1
  go_wp2_with fail
  refine (HT.out _ _ _ _ _ HN.out (h3_at rfl)).mono ?_
  rintro e w2 ⟨rfl, x2⟩
  have X2 : Ext w w2 := Ext.trans (X1.alloc _) x2
  obtain ⟨r0, r1, r2, r3, r4, r5, r6, r7, r8⟩ := (RB.out.alloc _).ext x2
  clear x2 X1 d0 d1 d2 d3
  go_wp2_with fail
  exact bodyPost_ret (v := .tuple #[.agg #[.int .i64 E0, .int .i64 E1, .int .i64 E2, .int .i64 E3], .int .i64 ee]) (by simp [results, Tryz.results105, go_sem, r0, r1, r2, r3]) rfl ⟨rfl, by repeat (first | with_reducible assumption | with_reducible exact Ext.refl _ | with_reducible refine Ext.drew ?_ | with_reducible refine Ext.drewN ?_ _ | with_reducible refine Ext.alloc ?_ _ | with_reducible refine Ext.set ?_ (by first | exact Nat.le_refl _ | (dsimp only; omega) | (simp; done)) _)⟩

theorem le_sq4 (a b c d : Int) : a.natAbs * a.natAbs ≤ sq4 a b c d ∧ b.natAbs * b.natAbs ≤ sq4 a b c d ∧ c.natAbs * c.natAbs ≤ sq4 a b c d ∧ d.natAbs * d.natAbs ≤ sq4 a b c d := by
  unfold sq4; refine ⟨?_, ?_, ?_, ?_⟩ <;> omega
theorem word_abs {a : Int} (h : okW a = true) : a.natAbs < 35184372088832 := by unfold okW at h; simp at h; omega
theorem sgd_le {v : Int} {k : Nat} : (sgd v k).natAbs = k := by unfold sgd; split <;> omega
theorem unit_k_le {v : Int} {n k : Nat} (hn : 0 < n) (hv : v.natAbs * v.natAbs ≤ n) (hk : RootQ (v.natAbs * v.natAbs * 1152921504606846976) n k) : k ≤ 1073741824 := by
  apply Nat.le_of_not_lt
  intro hc
  rcases hk.2.1 with h | h
  · omega
  · have h1 : 2147483649 * 2147483649 ≤ (2 * k - 1) * (2 * k - 1) := Nat.mul_le_mul (by omega) (by omega)
    have h2 : 2147483649 * 2147483649 * n ≤ (2 * k - 1) * (2 * k - 1) * n := Nat.mul_le_mul_right _ h1
    have h3 : v.natAbs * v.natAbs * 1152921504606846976 ≤ n * 1152921504606846976 := Nat.mul_le_mul_right _ hv
    omega
theorem qunit_any (a b c d : Int) (k0 k1 k2 k3 : Nat) (w : World) (h : ok4 a b c d = true) (hq : ¬ (a = 0 ∧ b = 0 ∧ c = 0 ∧ d = 0))
    (q0 : RootQ (a.natAbs * a.natAbs * 1152921504606846976) (sq4 a b c d) k0) (q1 : RootQ (b.natAbs * b.natAbs * 1152921504606846976) (sq4 a b c d) k1) (q2 : RootQ (c.natAbs * c.natAbs * 1152921504606846976) (sq4 a b c d) k2) (q3 : RootQ (d.natAbs * d.natAbs * 1152921504606846976) (sq4 a b c d) k3) :
    Calls Tryz.prog 105 #[.agg #[.int .i64 a, .int .i64 b, .int .i64 c, .int .i64 d]] w fun e w' => e = .returned (qres (sgd a k0) (sgd b k1) (sgd c k2) (sgd d k3)) ∧ Ext w w' := by
  have n0 := sq4_pos hq
  unfold ok4 at h
  simp only [Bool.and_eq_true] at h
  obtain ⟨ha, hb, hc, hd⟩ := h
  have n1 := sq4_lt ha hb hc hd
  obtain ⟨l0, l1, l2, l3⟩ := le_sq4 a b c d
  have m0 := unit_k_le n0 l0 q0; have m1 := unit_k_le n0 l1 q1; have m2 := unit_k_le n0 l2 q2; have m3 := unit_k_le n0 l3 q3
  obtain ⟨E0, E1, E2, E3, ee, hE⟩ := qres_shape (sgd a k0) (sgd b k1) (sgd c k2) (sgd d k3)
  rw [hE]
  refine qunit_raw a b c d _ E0 E1 E2 E3 ee w (fun w' => squares_any a b c d w' ha hb hc hd) ?_
  intro g b0 b1 b2 w' hN hG
  rw [← hE]
  have iw : ∀ (v : Int) (k : Nat), k ≤ 1073741824 → InW (sgd v k) := fun v k hk => inW_of (by rw [sgd_le]; omega)
  exact throughQ_any a b c d _ _ _ _ g w' (iw _ _ m0) (iw _ _ m1) (iw _ _ m2) (iw _ _ m3)
    (fun w2 hx => qunit1_raw a b0 b1 b2 _ g w2 (hG.ext hx) (fun w3 => unitw_any a _ k0 _ w3 hN n0 n1 (word_abs ha) l0 q0))
    (fun w2 hx => qunit1_raw b b0 b1 b2 _ g w2 (hG.ext hx) (fun w3 => unitw_any b _ k1 _ w3 hN n0 n1 (word_abs hb) l1 q1))
    (fun w2 hx => qunit1_raw c b0 b1 b2 _ g w2 (hG.ext hx) (fun w3 => unitw_any c _ k2 _ w3 hN n0 n1 (word_abs hc) l2 q2))
    (fun w2 hx => qunit1_raw d b0 b1 b2 _ g w2 (hG.ext hx) (fun w3 => unitw_any d _ k3 _ w3 hN n0 n1 (word_abs hd) l3 q3))

set_option maxRecDepth 20000 in
set_option maxHeartbeats 4000000 in
theorem qUnit_raw (a b c d E0 E1 E2 E3 ee : Int) (w : World) (hz : (a == 0 && (b == 0 && (c == 0 && d == 0))) = false)
    (HK : Hid (∀ w', Calls Tryz.prog 103 #[.agg #[.int .i64 a, .int .i64 b, .int .i64 c, .int .i64 d]] w' fun e w'' => e = .returned (.int .i64 0) ∧ Ext w' w''))
    (HF : Hid (∀ w', Calls Tryz.prog 101 #[.agg #[.int .i64 a, .int .i64 b, .int .i64 c, .int .i64 d]] w' fun e w'' => e = .returned (.agg #[.int .i64 a, .int .i64 b, .int .i64 c, .int .i64 d]) ∧ Ext w' w''))
    (HU : Hid (∀ w', Calls Tryz.prog 105 #[.agg #[.int .i64 a, .int .i64 b, .int .i64 c, .int .i64 d]] w' fun e w'' => e = .returned (.tuple #[.agg #[.int .i64 E0, .int .i64 E1, .int .i64 E2, .int .i64 E3], .int .i64 ee]) ∧ Ext w' w''))
    (HA : Hid (∀ w', Calls Tryz.prog 104 #[.agg #[.int .i64 E0, .int .i64 E1, .int .i64 E2, .int .i64 E3], .int .i64 ee] w' fun e w'' => e = .returned (.tuple #[.agg #[.int .i64 E0, .int .i64 E1, .int .i64 E2, .int .i64 E3], .int .i64 ee]) ∧ Ext w' w'')) :
    Calls Tryz.prog 61 #[.agg #[.int .i64 a, .int .i64 b, .int .i64 c, .int .i64 d]] w fun e w' => e = .returned (.tuple #[.agg #[.int .i64 E0, .int .i64 E1, .int .i64 E2, .int .i64 E3], .int .i64 ee]) ∧ Ext w w' := by
  have he := eqQ a b c d 0 0 0 0
  rw [hz] at he
  clear hz
  go_enter Tryz.func61, Tryz.ntmps61
  go_wp2_with fail
  refine (HK.out _).mono ?_
  rintro e w1 ⟨rfl, x1⟩
  have QB : Hid (H4 w1 w.heap.size (.int .i64 a) (.int .i64 b) (.int .i64 c) (.int .i64 d)) := (H4.alloc (h4_at rfl) _).ext x1
  have RB : Hid (H4 w1 (w.heap.size + 1) (.int .i64 0) (.int .i64 0) (.int .i64 0) (.int .i64 0)) := (h4_at (by simp)).ext x1
  have X1 : Ext w w1 := Ext.trans (by repeat (first | with_reducible assumption | with_reducible exact Ext.refl _ | with_reducible refine Ext.drew ?_ | with_reducible refine Ext.drewN ?_ _ | with_reducible refine Ext.alloc ?_ _ | with_reducible refine Ext.set ?_ (by first | exact Nat.le_refl _ | (dsimp only; omega) | (simp; done)) _)) x1
  clear x1
  obtain ⟨s0, s1, s2, s3, s4, s5, s6, s7, s8⟩ := QB.out
  go_wp2_with fail
  refine (HF.out _).mono ?_
  rintro e w2 ⟨rfl, x2⟩
  go_wp2_with fail
  refine (HU.out _).mono ?_
  rintro e w3 ⟨rfl, x3⟩
  go_wp2_with fail
  refine (HA.out _).mono ?_
  rintro e w4 ⟨rfl, x4⟩
  have X4 : Ext w w4 := ((X1.trans x2).trans x3).trans x4
  obtain ⟨r0, r1, r2, r3, r4, r5, r6, r7, r8⟩ := ((RB.out.ext x2).ext x3).ext x4
  clear x2 x3 x4 X1 s0 s1 s2 s3 s4 s5 s6 s7 s8
  go_wp2_with fail
  exact bodyPost_ret (v := .tuple #[.agg #[.int .i64 E0, .int .i64 E1, .int .i64 E2, .int .i64 E3], .int .i64 ee]) (by simp [results, Tryz.results61, go_sem, r0, r1, r2, r3]) rfl ⟨rfl, by repeat (first | with_reducible assumption | with_reducible exact Ext.refl _ | with_reducible refine Ext.drew ?_ | with_reducible refine Ext.drewN ?_ _ | with_reducible refine Ext.alloc ?_ _ | with_reducible refine Ext.set ?_ (by first | exact Nat.le_refl _ | (dsimp only; omega) | (simp; done)) _)⟩

theorem chk4_y {a b c d : Int} (h : ok4 a b c d = true) : chk4 a b c d = 0 := by unfold chk4; rw [if_pos h]
theorem qUnit_yes (a b c d : Int) (k0 k1 k2 k3 : Nat) (w : World) (h : ok4 a b c d = true) (hq : ¬ (a = 0 ∧ b = 0 ∧ c = 0 ∧ d = 0))
    (q0 : RootQ (a.natAbs * a.natAbs * 1152921504606846976) (sq4 a b c d) k0) (q1 : RootQ (b.natAbs * b.natAbs * 1152921504606846976) (sq4 a b c d) k1) (q2 : RootQ (c.natAbs * c.natAbs * 1152921504606846976) (sq4 a b c d) k2) (q3 : RootQ (d.natAbs * d.natAbs * 1152921504606846976) (sq4 a b c d) k3) :
    Calls Tryz.prog 61 #[.agg #[.int .i64 a, .int .i64 b, .int .i64 c, .int .i64 d]] w fun e w' => e = .returned (.tuple #[.agg #[.int .i64 (sgd a k0), .int .i64 (sgd b k1), .int .i64 (sgd c k2), .int .i64 (sgd d k3)], .int .i64 0]) ∧ Ext w w' := by
  have n0 := sq4_pos hq
  obtain ⟨l0, l1, l2, l3⟩ := le_sq4 a b c d
  have m0 := unit_k_le n0 l0 q0; have m1 := unit_k_le n0 l1 q1; have m2 := unit_k_le n0 l2 q2; have m3 := unit_k_le n0 l3 q3
  have K := qCheck_any a b c d
  rw [chk4_y h] at K
  have U := fun w' => qunit_any a b c d k0 k1 k2 k3 w' h hq q0 q1 q2 q3
  have ow : ∀ (v : Int) (k : Nat), k ≤ 1073741824 → okW (sgd v k) = true := fun v k hk => by
    have := sgd_le (v := v) (k := k)
    unfold okW; simp; omega
  have e : qres (sgd a k0) (sgd b k1) (sgd c k2) (sgd d k3) = .tuple #[.agg #[.int .i64 (sgd a k0), .int .i64 (sgd b k1), .int .i64 (sgd c k2), .int .i64 (sgd d k3)], .int .i64 0] := by
    unfold qres ok4; rw [ow _ _ m0, ow _ _ m1, ow _ _ m2, ow _ _ m3]; rfl
  rw [e] at U
  have hz : (a == 0 && (b == 0 && (c == 0 && d == 0))) = false := by
    cases hh : (a == 0 && (b == 0 && (c == 0 && d == 0)))
    · rfl
    · exfalso; simp at hh; exact hq hh
  exact qUnit_raw a b c d _ _ _ _ 0 w hz K (qof_any a b c d) U (asQuat_any _ _ _ _ _)

end Go.Proofs.YtmbdcgijjpcppaaGreat

namespace Go.Proofs.YtmbdcgijjpcppaaGreat
open Go.RowKit Go.Shelf

/-- the four roots of a unit's squares are together nearly 2^60 -/
theorem unit_sum (n p0 p1 p2 p3 k0 k1 k2 k3 : Nat) (h0 : 0 < n) (hn : p0 + p1 + p2 + p3 = n)
    (q0 : RootQ (p0 * 1152921504606846976) n k0) (q1 : RootQ (p1 * 1152921504606846976) n k1) (q2 : RootQ (p2 * 1152921504606846976) n k2) (q3 : RootQ (p3 * 1152921504606846976) n k3) :
    1152921504606846976 ≤ k0 * k0 + k1 * k1 + k2 * k2 + k3 * k3 + 2147483657 ∧ k0 * k0 + k1 * k1 + k2 * k2 + k3 * k3 ≤ 1152921504606846976 + 2147483656 := by
  have up : 4 * 1152921504606846976 * n ≤ ((2 * k0 + 1) * (2 * k0 + 1) + (2 * k1 + 1) * (2 * k1 + 1) + (2 * k2 + 1) * (2 * k2 + 1) + (2 * k3 + 1) * (2 * k3 + 1)) * n := by
    have a0 := q0.1; have a1 := q1.1; have a2 := q2.1; have a3 := q3.1
    rw [Nat.add_mul, Nat.add_mul, Nat.add_mul]
    omega
  have up2 := Nat.le_of_mul_le_mul_right up h0
  have g : ∀ p k : Nat, RootQ (p * 1152921504606846976) n k → ((4 * (k * k) - 4 * k : Nat) : Nat) * n ≤ 4 * (p * 1152921504606846976) := by
    intro p k q
    rcases q.2.1 with h | h
    · subst h; simp
    · refine Nat.le_trans (Nat.mul_le_mul_right n ?_) h
      rcases k with _ | k
      · omega
      · have e : 2 * (k + 1) - 1 = 2 * k + 1 := by omega
        rw [e]
        have e2 : 4 * ((k + 1) * (k + 1)) = 4 * (k * k) + 8 * k + 4 := by grind
        have e3 : (2 * k + 1) * (2 * k + 1) = 4 * (k * k) + 4 * k + 1 := by grind
        omega
  have dn : ((4 * (k0 * k0) - 4 * k0) + (4 * (k1 * k1) - 4 * k1) + (4 * (k2 * k2) - 4 * k2) + (4 * (k3 * k3) - 4 * k3)) * n ≤ 4 * 1152921504606846976 * n := by
    have a0 := g _ _ q0; have a1 := g _ _ q1; have a2 := g _ _ q2; have a3 := g _ _ q3
    rw [Nat.add_mul, Nat.add_mul, Nat.add_mul]
    omega
  have dn2 := Nat.le_of_mul_le_mul_right dn h0
  have e0 : (2 * k0 + 1) * (2 * k0 + 1) = 4 * (k0 * k0) + 4 * k0 + 1 := by grind
  have e1 : (2 * k1 + 1) * (2 * k1 + 1) = 4 * (k1 * k1) + 4 * k1 + 1 := by grind
  have e2 : (2 * k2 + 1) * (2 * k2 + 1) = 4 * (k2 * k2) + 4 * k2 + 1 := by grind
  have e3 : (2 * k3 + 1) * (2 * k3 + 1) = 4 * (k3 * k3) + 4 * k3 + 1 := by grind
  rw [e0, e1, e2, e3] at up2
  have c : ((k0 : Int) + k1 + k2 + k3) * ((k0 : Int) + k1 + k2 + k3) ≤ 4 * ((k0 : Int) * k0 + (k1 : Int) * k1 + (k2 : Int) * k2 + (k3 : Int) * k3) := by
    have s1 := sq_nonneg ((k0 : Int) - k1); have s2 := sq_nonneg ((k0 : Int) - k2); have s3 := sq_nonneg ((k0 : Int) - k3)
    have s4 := sq_nonneg ((k1 : Int) - k2); have s5 := sq_nonneg ((k1 : Int) - k3); have s6 := sq_nonneg ((k2 : Int) - k3)
    have e : 4 * ((k0 : Int) * k0 + (k1 : Int) * k1 + (k2 : Int) * k2 + (k3 : Int) * k3) - ((k0 : Int) + k1 + k2 + k3) * ((k0 : Int) + k1 + k2 + k3) = ((k0 : Int) - k1) * ((k0 : Int) - k1) + ((k0 : Int) - k2) * ((k0 : Int) - k2) + ((k0 : Int) - k3) * ((k0 : Int) - k3) + ((k1 : Int) - k2) * ((k1 : Int) - k2) + ((k1 : Int) - k3) * ((k1 : Int) - k3) + ((k2 : Int) - k3) * ((k2 : Int) - k3) := by grind
    omega
  obtain ⟨S, hS⟩ : ∃ S : Nat, S = k0 + k1 + k2 + k3 := ⟨_, rfl⟩
  obtain ⟨K, hK⟩ : ∃ K : Nat, K = k0 * k0 + k1 * k1 + k2 * k2 + k3 * k3 := ⟨_, rfl⟩
  have c' : (S : Int) * S ≤ 4 * (K : Int) := by
    have eS : (S : Int) = (k0 : Int) + k1 + k2 + k3 := by omega
    have eK : (K : Int) = (k0 : Int) * k0 + (k1 : Int) * k1 + (k2 : Int) * k2 + (k3 : Int) * k3 := by rw [hK]; simp
    rw [eS, eK]; exact c
  have l1 : K ≤ 1152921504606846976 + S := by omega
  have l2 : 1152921504606846976 ≤ K + S + 1 := by omega
  have l3 : S ≤ 2147483656 := by
    apply Nat.le_of_not_lt
    intro hc
    have : (2147483657 : Int) * (2147483657 - 4) ≤ (S : Int) * ((S : Int) - 4) := Int.mul_le_mul (by omega) (by omega) (by omega) (by omega)
    have ee : (S : Int) * ((S : Int) - 4) = (S : Int) * S - 4 * S := by grind
    rw [ee] at this
    omega
  omega

theorem mul_abs {m f C : Int} (h1 : -C ≤ f) (h2 : f ≤ C) : m * f ≤ (m.natAbs : Int) * C ∧ -((m.natAbs : Int) * C) ≤ m * f := by
  by_cases h : 0 ≤ m
  · have e : (m.natAbs : Int) = m := by omega
    rw [e]
    refine ⟨Int.mul_le_mul_of_nonneg_left h2 h, ?_⟩
    rw [← Int.mul_neg]
    exact Int.mul_le_mul_of_nonneg_left h1 h
  · have e : (m.natAbs : Int) = -m := by omega
    rw [e]
    have e1 : m * f = -m * -f := by rw [Int.neg_mul_neg]
    rw [e1]
    refine ⟨Int.mul_le_mul_of_nonneg_left (by omega) (by omega), ?_⟩
    rw [← Int.mul_neg]
    exact Int.mul_le_mul_of_nonneg_left (by omega) (by omega)
theorem sum_abs (m0 m1 m2 m3 H : Int) (hH : 0 ≤ H) (h : m0 * m0 + m1 * m1 + m2 * m2 + m3 * m3 ≤ H * H) : (m0.natAbs : Int) + m1.natAbs + m2.natAbs + m3.natAbs ≤ 2 * H := by
  have sq : ∀ m : Int, m * m = (m.natAbs : Int) * m.natAbs := fun m => (Int.natAbs_mul_self' m).symm
  rw [sq m0, sq m1, sq m2, sq m3] at h
  generalize (m0.natAbs : Int) = a0 at *
  generalize (m1.natAbs : Int) = a1 at *
  generalize (m2.natAbs : Int) = a2 at *
  generalize (m3.natAbs : Int) = a3 at *
  apply Classical.byContradiction
  intro hc
  have s1 := sq_nonneg (a0 - a1); have s2 := sq_nonneg (a0 - a2); have s3 := sq_nonneg (a0 - a3)
  have s4 := sq_nonneg (a1 - a2); have s5 := sq_nonneg (a1 - a3); have s6 := sq_nonneg (a2 - a3)
  have e : 4 * (a0 * a0 + a1 * a1 + a2 * a2 + a3 * a3) - (a0 + a1 + a2 + a3) * (a0 + a1 + a2 + a3) = (a0 - a1) * (a0 - a1) + (a0 - a2) * (a0 - a2) + (a0 - a3) * (a0 - a3) + (a1 - a2) * (a1 - a2) + (a1 - a3) * (a1 - a3) + (a2 - a3) * (a2 - a3) := by grind
  have l : (2 * H + 1) * (2 * H + 1) ≤ (a0 + a1 + a2 + a3) * (a0 + a1 + a2 + a3) := Int.mul_le_mul (by omega) (by omega) (by omega) (by omega)
  have l2 : (2 * H + 1) * (2 * H + 1) = 4 * (H * H) + 4 * H + 1 := by grind
  omega
/-- a product of units, rounded, is nearly one -/
theorem mul_sum (A B m0 m1 m2 m3 c0 c1 c2 c3 : Int) (hA : 1152921504606846976 - 2147483657 ≤ A ∧ A ≤ 1152921504606846976 + 2147483656) (hB : 1152921504606846976 - 2147483657 ≤ B ∧ B ≤ 1152921504606846976 + 2147483656)
    (hm : m0 * m0 + m1 * m1 + m2 * m2 + m3 * m3 = A * B) (n0 : IsNear m0 1073741824 c0) (n1 : IsNear m1 1073741824 c1) (n2 : IsNear m2 1073741824 c2) (n3 : IsNear m3 1073741824 c3) :
    1152921504606846976 - 6442451000 ≤ c0 * c0 + c1 * c1 + c2 * c2 + c3 * c3 ∧ c0 * c0 + c1 * c1 + c2 * c2 + c3 * c3 ≤ 1152921504606846976 + 6442451000 := by
  have ab1 : A * B ≤ (1152921504606846976 + 2147483656) * (1152921504606846976 + 2147483656) := Int.mul_le_mul hA.2 hB.2 (by omega) (by omega)
  have ab2 : (1152921504606846976 - 2147483657) * (1152921504606846976 - 2147483657) ≤ A * B := Int.mul_le_mul hA.1 hB.1 (by omega) (by omega)
  have sm := sum_abs m0 m1 m2 m3 (1152921504606846976 + 2147483656) (by omega) (by omega)
  obtain ⟨f0, e0⟩ : ∃ f, f = 1073741824 * c0 - m0 := ⟨_, rfl⟩
  obtain ⟨f1, e1⟩ : ∃ f, f = 1073741824 * c1 - m1 := ⟨_, rfl⟩
  obtain ⟨f2, e2⟩ : ∃ f, f = 1073741824 * c2 - m2 := ⟨_, rfl⟩
  obtain ⟨f3, e3⟩ : ∃ f, f = 1073741824 * c3 - m3 := ⟨_, rfl⟩
  have b0 : -536870912 ≤ f0 ∧ f0 ≤ 536870912 := by have := n0.1; have := n0.2.1; omega
  have b1 : -536870912 ≤ f1 ∧ f1 ≤ 536870912 := by have := n1.1; have := n1.2.1; omega
  have b2 : -536870912 ≤ f2 ∧ f2 ≤ 536870912 := by have := n2.1; have := n2.2.1; omega
  have b3 : -536870912 ≤ f3 ∧ f3 ≤ 536870912 := by have := n3.1; have := n3.2.1; omega
  have p0 := mul_abs (m := m0) b0.1 b0.2; have p1 := mul_abs (m := m1) b1.1 b1.2
  have p2 := mul_abs (m := m2) b2.1 b2.2; have p3 := mul_abs (m := m3) b3.1 b3.2
  have sqb : ∀ f : Int, -536870912 ≤ f ∧ f ≤ 536870912 → f * f ≤ 288230376151711744 := fun f hf => by
    have h := mul_abs (m := f) hf.1 hf.2
    have : (f.natAbs : Int) ≤ 536870912 := by omega
    omega
  have g0 := sqb f0 b0; have g1 := sqb f1 b1; have g2 := sqb f2 b2; have g3 := sqb f3 b3
  have z0 := sq_nonneg f0; have z1 := sq_nonneg f1; have z2 := sq_nonneg f2; have z3 := sq_nonneg f3
  have key : 1152921504606846976 * (c0 * c0 + c1 * c1 + c2 * c2 + c3 * c3) = A * B + 2 * (m0 * f0 + m1 * f1 + m2 * f2 + m3 * f3) + (f0 * f0 + f1 * f1 + f2 * f2 + f3 * f3) := by
    rw [← hm, e0, e1, e2, e3]; grind
  clear e0 e1 e2 e3 hm sqb
  generalize c0 * c0 + c1 * c1 + c2 * c2 + c3 * c3 = T at *
  generalize A * B = AB at *
  generalize m0 * f0 = F0 at *
  generalize m1 * f1 = F1 at *
  generalize m2 * f2 = F2 at *
  generalize m3 * f3 = F3 at *
  generalize f0 * f0 = G0 at *
  generalize f1 * f1 = G1 at *
  generalize f2 * f2 = G2 at *
  generalize f3 * f3 = G3 at *
  omega
theorem quat_sq (a b c d x y z t : Int) : qw a b c d x y z t * qw a b c d x y z t + qx a b c d x y z t * qx a b c d x y z t + qy a b c d x y z t * qy a b c d x y z t + qz a b c d x y z t * qz a b c d x y z t = (a * a + b * b + c * c + d * d) * (x * x + y * y + z * z + t * t) := by
  unfold qw qx qy qz; grind
theorem nearQ_IsNear (z : Int) : IsNear z 1073741824 (nearQ z) := by
  unfold IsNear nearQ oddQ; refine ⟨?_, ?_, ?_⟩ <;> omega
end Go.Proofs.YtmbdcgijjpcppaaGreat

namespace Go.Proofs.YtmbdcgijjpcppaaGreat
open Go.RowKit Go.Shelf

set_option maxHeartbeats 1000000 in
theorem of_any (x y z : Int) (w : World) :
    Calls Tryz.prog 63 #[.agg #[.int .i64 x, .int .i64 y, .int .i64 z]] w fun e w' => e = .returned (.agg #[.int .i64 x, .int .i64 y, .int .i64 z]) ∧ Ext w w' := by
  go_enter Tryz.func63, Tryz.ntmps63
  go_wp2_with fail
  exact bodyPost_ret (v := .agg #[.int .i64 x, .int .i64 y, .int .i64 z]) (by simp [results, Tryz.results63, go_sem]) rfl ⟨rfl, by repeat (first | with_reducible assumption | with_reducible exact Ext.refl _ | with_reducible refine Ext.drew ?_ | with_reducible refine Ext.drewN ?_ _ | with_reducible refine Ext.alloc ?_ _ | with_reducible refine Ext.set ?_ (by first | exact Nat.le_refl _ | (dsimp only; omega) | (simp; done)) _)⟩

set_option maxHeartbeats 1000000 in
theorem across_any (x y z : Int) (w : World) :
    Calls Tryz.prog 128 #[.agg #[.int .i64 x, .int .i64 y, .int .i64 z]] w fun e w' => e = .returned (.agg #[.int .i64 0, .int .i64 z, .int .i64 (wrap64 (-y)), .int .i64 (wrap64 (-z)), .int .i64 0, .int .i64 x, .int .i64 y, .int .i64 (wrap64 (-x)), .int .i64 0]) ∧ Ext w w' := by
  go_enter Tryz.func128, Tryz.ntmps128
  go_wp2_with fail
  go_region
  go_wp2_with fail
  exact bodyPost_ret (v := .agg #[.int .i64 0, .int .i64 z, .int .i64 (wrap64 (-y)), .int .i64 (wrap64 (-z)), .int .i64 0, .int .i64 x, .int .i64 y, .int .i64 (wrap64 (-x)), .int .i64 0]) (by simp [results, Tryz.results128, go_sem]) rfl ⟨rfl, by repeat (first | with_reducible assumption | with_reducible exact Ext.refl _ | with_reducible refine Ext.drew ?_ | with_reducible refine Ext.drewN ?_ _ | with_reducible refine Ext.alloc ?_ _ | with_reducible refine Ext.set ?_ (by first | exact Nat.le_refl _ | (dsimp only; omega) | (simp; done)) _)⟩

end Go.Proofs.YtmbdcgijjpcppaaGreat

namespace Go.Proofs.YtmbdcgijjpcppaaGreat
open Go.RowKit Go.Shelf
def one3 (a0 a1 a2 : Int) (_i j : Nat) : Int := if j = 0 then a0 else if j = 1 then a1 else a2
theorem cells3_at (a0 a1 a2 : Int) (W : World) (n : Nat) (T : TypeId) (hn : W.heap.size = n) : ∀ i, i < 1 → ∀ j, j < 3 → (W.alloc (.cells #[.int .i64 a0, .int .i64 a1, .int .i64 a2] T)).cell? ⟨n, i * 3 + j, none⟩ = some (.int .i64 (one3 a0 a1 a2 i j)) := by
  subst hn
  intro i hi j hj
  obtain rfl : i = 0 := by omega
  have hj' : j = 0 ∨ j = 1 ∨ j = 2 := by omega
  rcases hj' with rfl | rfl | rfl <;> simp [go_sem, one3]
theorem check1_yes (a0 a1 a2 : Int) (W : World) (n : Nat) (T : TypeId) (hn : W.heap.size = n) (h1 : ok3 a0 a1 a2 = true) :
    Calls Tryz.prog 89 #[.slice (some ⟨n, 0, none⟩) 1 1] (W.alloc (.cells #[.int .i64 a0, .int .i64 a1, .int .i64 a2] T)) fun e w' => e = .returned (.int .i64 0) ∧ Ext (W.alloc (.cells #[.int .i64 a0, .int .i64 a1, .int .i64 a2] T)) w' := by
  refine (check_list 1 (one3 a0 a1 a2) n _ (by omega) (cells3_at a0 a1 a2 W n T hn)).mono ?_
  rintro e w1 ⟨⟨r, rfl, hr⟩, x⟩
  rcases hr with ⟨rfl, _⟩ | ⟨_, i, hi, hb⟩
  · exact ⟨rfl, x⟩
  · exfalso
    simp [one3, h1] at hb
theorem check1_no (a0 a1 a2 : Int) (W : World) (n : Nat) (T : TypeId) (hn : W.heap.size = n) (h : ok3 a0 a1 a2 = false) :
    Calls Tryz.prog 89 #[.slice (some ⟨n, 0, none⟩) 1 1] (W.alloc (.cells #[.int .i64 a0, .int .i64 a1, .int .i64 a2] T)) fun e w' => e = .returned (.int .i64 1) ∧ Ext (W.alloc (.cells #[.int .i64 a0, .int .i64 a1, .int .i64 a2] T)) w' := by
  refine (check_list 1 (one3 a0 a1 a2) n _ (by omega) (cells3_at a0 a1 a2 W n T hn)).mono ?_
  rintro e w1 ⟨⟨r, rfl, hr⟩, x⟩
  rcases hr with ⟨rfl, hk⟩ | ⟨rfl, _⟩
  · exfalso
    have h1 := hk 0 (by omega)
    simp [one3] at h1
    rw [h1] at h
    cases h
  · exact ⟨rfl, x⟩
def chk3 (x y z : Int) : Int := if ok3 x y z then 0 else 1
set_option maxRecDepth 20000 in
set_option maxHeartbeats 4000000 in
theorem vCheck_any (x y z : Int) (w : World) :
    Calls Tryz.prog 45 #[.agg #[.int .i64 x, .int .i64 y, .int .i64 z]] w fun e w' => e = .returned (.int .i64 (chk3 x y z)) ∧ Ext w w' := by
  have HF : Hid _ := of_any x y z
  have HC : Hid (∀ (W : World) (n : Nat) (T : TypeId), W.heap.size = n → Calls Tryz.prog 89 #[.slice (some ⟨n, 0, none⟩) 1 1] (W.alloc (.cells #[.int .i64 x, .int .i64 y, .int .i64 z] T)) fun e w' => e = .returned (.int .i64 (chk3 x y z)) ∧ Ext (W.alloc (.cells #[.int .i64 x, .int .i64 y, .int .i64 z] T)) w') := by
    intro W n T hn
    unfold chk3
    cases h : ok3 x y z
    · exact check1_no x y z W n T hn h
    · exact check1_yes x y z W n T hn h
  go_enter Tryz.func45, Tryz.ntmps45
  go_wp2_with fail
  refine (HF.out _).mono ?_
  rintro e w1 ⟨rfl, x1⟩
  have X1 : Ext w w1 := Ext.trans (by repeat (first | with_reducible assumption | with_reducible exact Ext.refl _ | with_reducible refine Ext.drew ?_ | with_reducible refine Ext.drewN ?_ _ | with_reducible refine Ext.alloc ?_ _ | with_reducible refine Ext.set ?_ (by first | exact Nat.le_refl _ | (dsimp only; omega) | (simp; done)) _)) x1
  clear x1
  go_wp2_with fail
  refine (HC.out _ _ _ rfl).mono ?_
  rintro e w2 ⟨rfl, x2⟩
  have X2 : Ext w w2 := Ext.trans (by repeat (first | with_reducible assumption | with_reducible exact Ext.refl _ | with_reducible refine Ext.drew ?_ | with_reducible refine Ext.drewN ?_ _ | with_reducible refine Ext.alloc ?_ _ | with_reducible refine Ext.set ?_ (by first | exact Nat.le_refl _ | (dsimp only; omega) | (simp; done)) _)) x2
  go_wp2_with fail
  go_ret
  exact ⟨rfl, X2⟩
end Go.Proofs.YtmbdcgijjpcppaaGreat
