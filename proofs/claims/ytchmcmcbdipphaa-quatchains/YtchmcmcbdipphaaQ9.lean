/- quat: Unit, Norm. -/
import Derived.Test.YtchmcmcbdipphaaQ4u
import Derived.Test.YtchmcmcbdipphaaQ4n
import Derived.Test.YtchmcmcbdipphaaQ2
import Derived.Test.YtchmcmcbdipphaaQ1c
import Derived.Test.YtchmcmcbdipphaaQNum
import Derived.Test.YtchmcmcbdipphaaW9
namespace Go.Proofs.Ytchmcmcbdipphaa
open Go.RowKit Go.Shelf

set_option maxHeartbeats 4000000 in
theorem eqQ (x y z u a b c d : Int) (w : World) : (Op.equalIn 10000 24 (.agg #[.int .i64 x, .int .i64 y, .int .i64 z, .int .i64 u]) (.agg #[.int .i64 a, .int .i64 b, .int .i64 c, .int .i64 d])).run Try.prog w = .ok (x == a && (y == b && (z == c && u == d))) w := by
  by_cases hx : x = a <;> by_cases hy : y = b <;> by_cases hz : z = c <;> by_cases hu : u = d <;> simp [go_sem, hx, hy, hz, hu]

set_option maxHeartbeats 2000000 in
theorem qunit1_raw (v b0 b1 b2 z : Int) (g : Nat) (w : World) (GB : H3 w g (.int .u64 b0) (.int .u64 b1) (.int .u64 b2))
    (HO : Hid (∀ w', Calls Try.prog 65 #[.int .i64 v, .agg #[.int .u64 b0, .int .u64 b1, .int .u64 b2]] w' fun e w'' => (∃ r, e = .returned r ∧ IsW r z) ∧ Ext w' w'')) :
    Calls Try.prog 64 #[.int .i64 v, .pointer (some ⟨g, 0, none⟩)] w fun e w' => (∃ r, e = .returned r ∧ IsW r z) ∧ Ext w w' := by
  have hg := GB.2.2.2.2.2.2
  have GG := GB.alloc (.cells #[.int .u64 0, .int .u64 0, .int .u64 0] 58)
  obtain ⟨g0, g1, g2, g3, g4, g5, g6⟩ := GG
  clear GB
  go_enter Try.func64, Try.ntmps64
  go_wp2_with fail
  refine (HO.out _).mono ?_
  rintro e w1 ⟨⟨r, rfl, s0, s1, s2, rfl, hr⟩, x1⟩
  have HR : Hid _ := hr
  clear hr
  have X1 : Ext w w1 := Ext.trans (by repeat (first | with_reducible assumption | with_reducible exact Ext.refl _ | with_reducible refine Ext.drew ?_ | with_reducible refine Ext.drewN ?_ _ | with_reducible refine Ext.alloc ?_ _ | with_reducible refine Ext.set ?_ (by first | exact Nat.le_refl _ | (dsimp only; omega) | (simp; done)) _)) x1
  obtain ⟨c0, c1, c2, c3, c4, c5, c6⟩ : H3 w1 w.heap.size _ _ _ := (h3_at rfl).ext x1
  clear x1 g0 g1 g2 g3 g4 g5 g6
  go_wp2_with fail
  exact bodyPost_ret (v := .agg #[.int .u64 s0, .int .u64 s1, .int .u64 s2]) (by simp [results, Try.results64, go_sem, c0, c1, c2]) rfl ⟨⟨_, rfl, _, _, _, rfl, HR.out⟩, by repeat (first | with_reducible assumption | with_reducible exact Ext.refl _ | with_reducible refine Ext.drew ?_ | with_reducible refine Ext.drewN ?_ _ | with_reducible refine Ext.alloc ?_ _ | with_reducible refine Ext.set ?_ (by first | exact Nat.le_refl _ | (dsimp only; omega) | (simp; done)) _)⟩

set_option maxHeartbeats 2000000 in
theorem qinQ30_any (z : Int) (u : Value) (w : World) (hu : IsW u z) (hz : InW (z + 536870912)) (hz' : InW z) :
    Calls Try.prog 31 #[u] w fun e w' => (∃ r, e = .returned r ∧ IsW r (nearQ z)) ∧ Ext w w' := by
  have HO : Hid (∀ w', Calls Try.prog 49 #[u, .int .i64 30] w' fun e w'' => (∃ r, e = .returned r ∧ IsW r (nearQ z)) ∧ Ext w' w'') := fun w' => nearestw_any z u w' hu hz hz'
  obtain ⟨a0, a1, a2, rfl, ha⟩ := hu
  clear ha hz hz'
  go_enter Try.func31, Try.ntmps31
  go_wp2_with fail
  refine (HO.out _).mono ?_
  rintro e w1 ⟨⟨r, rfl, s0, s1, s2, rfl, hr⟩, x1⟩
  have HR : Hid _ := hr
  clear hr
  have X1 : Ext w w1 := Ext.trans (by repeat (first | with_reducible assumption | with_reducible exact Ext.refl _ | with_reducible refine Ext.drew ?_ | with_reducible refine Ext.drewN ?_ _ | with_reducible refine Ext.alloc ?_ _ | with_reducible refine Ext.set ?_ (by first | exact Nat.le_refl _ | (dsimp only; omega) | (simp; done)) _)) x1
  obtain ⟨c0, c1, c2, c3, c4, c5, c6⟩ : H3 w1 (w.heap.size + 1) _ _ _ := (h3_at (by simp)).ext x1
  clear x1
  go_wp2_with fail
  exact bodyPost_ret (v := .agg #[.int .u64 s0, .int .u64 s1, .int .u64 s2]) (by simp [results, Try.results31, go_sem, c0, c1, c2]) rfl ⟨⟨_, rfl, _, _, _, rfl, HR.out⟩, by repeat (first | with_reducible assumption | with_reducible exact Ext.refl _ | with_reducible refine Ext.drew ?_ | with_reducible refine Ext.drewN ?_ _ | with_reducible refine Ext.alloc ?_ _ | with_reducible refine Ext.set ?_ (by first | exact Nat.le_refl _ | (dsimp only; omega) | (simp; done)) _)⟩

set_option maxRecDepth 20000 in
set_option maxHeartbeats 4000000 in
theorem qunit_raw (a b c d N E0 E1 E2 E3 ee : Int) (w : World)
    (HS : Hid (∀ w', Calls Try.prog 42 #[.agg #[.int .i64 a, .int .i64 b, .int .i64 c, .int .i64 d]] w' fun e w'' => (∃ r, e = .returned r ∧ IsW r N) ∧ Ext w' w''))
    (HT : Hid (∀ g b0 b1 b2 w', IsW (.agg #[.int .u64 b0, .int .u64 b1, .int .u64 b2]) N → H3 w' g (.int .u64 b0) (.int .u64 b1) (.int .u64 b2) → Calls Try.prog 63 #[.agg #[.int .i64 a, .int .i64 b, .int .i64 c, .int .i64 d], .func (.func 64) #[] #[.pointer (some ⟨g, 0, none⟩)]] w' fun e w'' => e = .returned (.tuple #[.agg #[.int .i64 E0, .int .i64 E1, .int .i64 E2, .int .i64 E3], .int .i64 ee]) ∧ Ext w' w'')) :
    Calls Try.prog 41 #[.agg #[.int .i64 a, .int .i64 b, .int .i64 c, .int .i64 d]] w fun e w' => e = .returned (.tuple #[.agg #[.int .i64 E0, .int .i64 E1, .int .i64 E2, .int .i64 E3], .int .i64 ee]) ∧ Ext w w' := by
  go_enter Try.func41, Try.ntmps41
  go_wp2_with fail
  refine (HS.out _).mono ?_
  rintro e w1 ⟨⟨uN, rfl, b0, b1, b2, rfl, hN0⟩, x1⟩
  have HN : Hid (IsW (.agg #[.int .u64 b0, .int .u64 b1, .int .u64 b2]) N) := ⟨_, _, _, rfl, hN0⟩
  clear hN0
  have QB : Hid (H4 w1 w.heap.size (.int .i64 a) (.int .i64 b) (.int .i64 c) (.int .i64 d)) := (H4.alloc (h4_at rfl) _).ext x1
  have RB : Hid (H4 w1 (w.heap.size + 1) (.int .i64 0) (.int .i64 0) (.int .i64 0) (.int .i64 0)) := (h4_at (by simp)).ext x1
  have X1 : Ext w w1 := Ext.trans (by repeat (first | with_reducible assumption | with_reducible exact Ext.refl _ | with_reducible refine Ext.drew ?_ | with_reducible refine Ext.drewN ?_ _ | with_reducible refine Ext.alloc ?_ _ | with_reducible refine Ext.set ?_ (by first | exact Nat.le_refl _ | (dsimp only; omega) | (simp; done)) _)) x1
  clear x1
  have d0 := fun o => (QB.out.alloc o).1
  have d1 := fun o => (QB.out.alloc o).2.1
  have d2 := fun o => (QB.out.alloc o).2.2.1
  have d3 := fun o => (QB.out.alloc o).2.2.2.1
  go_wp2_with fail
  refine (HT.out _ _ _ _ _ HN.out (h3_at rfl)).mono ?_
  rintro e w2 ⟨rfl, x2⟩
  have X2 : Ext w w2 := Ext.trans (X1.alloc _) x2
  obtain ⟨r0, r1, r2, r3, r4, r5, r6, r7, r8⟩ := (RB.out.alloc _).ext x2
  clear x2 X1 d0 d1 d2 d3
  go_wp2_with fail
  exact bodyPost_ret (v := .tuple #[.agg #[.int .i64 E0, .int .i64 E1, .int .i64 E2, .int .i64 E3], .int .i64 ee]) (by simp [results, Try.results41, go_sem, r0, r1, r2, r3]) rfl ⟨rfl, by repeat (first | with_reducible assumption | with_reducible exact Ext.refl _ | with_reducible refine Ext.drew ?_ | with_reducible refine Ext.drewN ?_ _ | with_reducible refine Ext.alloc ?_ _ | with_reducible refine Ext.set ?_ (by first | exact Nat.le_refl _ | (dsimp only; omega) | (simp; done)) _)⟩

theorem le_sq4 (a b c d : Int) : a.natAbs * a.natAbs ≤ sq4 a b c d ∧ b.natAbs * b.natAbs ≤ sq4 a b c d ∧ c.natAbs * c.natAbs ≤ sq4 a b c d ∧ d.natAbs * d.natAbs ≤ sq4 a b c d := by
  unfold sq4; refine ⟨?_, ?_, ?_, ?_⟩ <;> omega
theorem word_abs {a : Int} (h : okW a = true) : a.natAbs < 35184372088832 := by unfold okW at h; simp at h; omega
theorem sgd_le {v : Int} {k : Nat} : (sgd v k).natAbs = k := by unfold sgd; split <;> omega
theorem unit_k_le {v : Int} {n k : Nat} (hn : 0 < n) (hv : v.natAbs * v.natAbs ≤ n) (hk : RootQ (v.natAbs * v.natAbs * 1152921504606846976) n k) : k ≤ 1073741824 := by
  apply Nat.le_of_not_lt
  intro hc
  rcases hk.2.1 with h | h
  · omega
  · have h1 : 2147483649 * 2147483649 ≤ (2 * k - 1) * (2 * k - 1) := Nat.mul_le_mul (by omega) (by omega)
    have h2 : 2147483649 * 2147483649 * n ≤ (2 * k - 1) * (2 * k - 1) * n := Nat.mul_le_mul_right _ h1
    have h3 : v.natAbs * v.natAbs * 1152921504606846976 ≤ n * 1152921504606846976 := Nat.mul_le_mul_right _ hv
    omega
theorem qunit_any (a b c d : Int) (k0 k1 k2 k3 : Nat) (w : World) (h : ok4 a b c d = true) (hq : ¬ (a = 0 ∧ b = 0 ∧ c = 0 ∧ d = 0))
    (q0 : RootQ (a.natAbs * a.natAbs * 1152921504606846976) (sq4 a b c d) k0) (q1 : RootQ (b.natAbs * b.natAbs * 1152921504606846976) (sq4 a b c d) k1) (q2 : RootQ (c.natAbs * c.natAbs * 1152921504606846976) (sq4 a b c d) k2) (q3 : RootQ (d.natAbs * d.natAbs * 1152921504606846976) (sq4 a b c d) k3) :
    Calls Try.prog 41 #[.agg #[.int .i64 a, .int .i64 b, .int .i64 c, .int .i64 d]] w fun e w' => e = .returned (qres (sgd a k0) (sgd b k1) (sgd c k2) (sgd d k3)) ∧ Ext w w' := by
  have n0 := sq4_pos hq
  unfold ok4 at h
  simp only [Bool.and_eq_true] at h
  obtain ⟨ha, hb, hc, hd⟩ := h
  have n1 := sq4_lt ha hb hc hd
  obtain ⟨l0, l1, l2, l3⟩ := le_sq4 a b c d
  have m0 := unit_k_le n0 l0 q0; have m1 := unit_k_le n0 l1 q1; have m2 := unit_k_le n0 l2 q2; have m3 := unit_k_le n0 l3 q3
  obtain ⟨E0, E1, E2, E3, ee, hE⟩ := qres_shape (sgd a k0) (sgd b k1) (sgd c k2) (sgd d k3)
  rw [hE]
  refine qunit_raw a b c d _ E0 E1 E2 E3 ee w (fun w' => squares_any a b c d w' ha hb hc hd) ?_
  intro g b0 b1 b2 w' hN hG
  rw [← hE]
  have iw : ∀ (v : Int) (k : Nat), k ≤ 1073741824 → InW (sgd v k) := fun v k hk => inW_of (by rw [sgd_le]; omega)
  exact throughQ_any a b c d _ _ _ _ g w' (iw _ _ m0) (iw _ _ m1) (iw _ _ m2) (iw _ _ m3)
    (fun w2 hx => qunit1_raw a b0 b1 b2 _ g w2 (hG.ext hx) (fun w3 => unitw_any a _ k0 _ w3 hN n0 n1 (word_abs ha) l0 q0))
    (fun w2 hx => qunit1_raw b b0 b1 b2 _ g w2 (hG.ext hx) (fun w3 => unitw_any b _ k1 _ w3 hN n0 n1 (word_abs hb) l1 q1))
    (fun w2 hx => qunit1_raw c b0 b1 b2 _ g w2 (hG.ext hx) (fun w3 => unitw_any c _ k2 _ w3 hN n0 n1 (word_abs hc) l2 q2))
    (fun w2 hx => qunit1_raw d b0 b1 b2 _ g w2 (hG.ext hx) (fun w3 => unitw_any d _ k3 _ w3 hN n0 n1 (word_abs hd) l3 q3))

set_option maxRecDepth 20000 in
set_option maxHeartbeats 4000000 in
theorem qUnit_raw (a b c d E0 E1 E2 E3 ee : Int) (w : World) (hz : (a == 0 && (b == 0 && (c == 0 && d == 0))) = false)
    (HK : Hid (∀ w', Calls Try.prog 25 #[.agg #[.int .i64 a, .int .i64 b, .int .i64 c, .int .i64 d]] w' fun e w'' => e = .returned (.int .i64 0) ∧ Ext w' w''))
    (HF : Hid (∀ w', Calls Try.prog 29 #[.agg #[.int .i64 a, .int .i64 b, .int .i64 c, .int .i64 d]] w' fun e w'' => e = .returned (.agg #[.int .i64 a, .int .i64 b, .int .i64 c, .int .i64 d]) ∧ Ext w' w''))
    (HU : Hid (∀ w', Calls Try.prog 41 #[.agg #[.int .i64 a, .int .i64 b, .int .i64 c, .int .i64 d]] w' fun e w'' => e = .returned (.tuple #[.agg #[.int .i64 E0, .int .i64 E1, .int .i64 E2, .int .i64 E3], .int .i64 ee]) ∧ Ext w' w''))
    (HA : Hid (∀ w', Calls Try.prog 26 #[.agg #[.int .i64 E0, .int .i64 E1, .int .i64 E2, .int .i64 E3], .int .i64 ee] w' fun e w'' => e = .returned (.tuple #[.agg #[.int .i64 E0, .int .i64 E1, .int .i64 E2, .int .i64 E3], .int .i64 ee]) ∧ Ext w' w'')) :
    Calls Try.prog 22 #[.agg #[.int .i64 a, .int .i64 b, .int .i64 c, .int .i64 d]] w fun e w' => e = .returned (.tuple #[.agg #[.int .i64 E0, .int .i64 E1, .int .i64 E2, .int .i64 E3], .int .i64 ee]) ∧ Ext w w' := by
  have he := eqQ a b c d 0 0 0 0
  rw [hz] at he
  clear hz
  go_enter Try.func22, Try.ntmps22
  go_wp2_with fail
  refine (HK.out _).mono ?_
  rintro e w1 ⟨rfl, x1⟩
  have QB : Hid (H4 w1 w.heap.size (.int .i64 a) (.int .i64 b) (.int .i64 c) (.int .i64 d)) := (H4.alloc (h4_at rfl) _).ext x1
  have RB : Hid (H4 w1 (w.heap.size + 1) (.int .i64 0) (.int .i64 0) (.int .i64 0) (.int .i64 0)) := (h4_at (by simp)).ext x1
  have X1 : Ext w w1 := Ext.trans (by repeat (first | with_reducible assumption | with_reducible exact Ext.refl _ | with_reducible refine Ext.drew ?_ | with_reducible refine Ext.drewN ?_ _ | with_reducible refine Ext.alloc ?_ _ | with_reducible refine Ext.set ?_ (by first | exact Nat.le_refl _ | (dsimp only; omega) | (simp; done)) _)) x1
  clear x1
  obtain ⟨s0, s1, s2, s3, s4, s5, s6, s7, s8⟩ := QB.out
  go_wp2_with fail
  refine (HF.out _).mono ?_
  rintro e w2 ⟨rfl, x2⟩
  go_wp2_with fail
  refine (HU.out _).mono ?_
  rintro e w3 ⟨rfl, x3⟩
  go_wp2_with fail
  refine (HA.out _).mono ?_
  rintro e w4 ⟨rfl, x4⟩
  have X4 : Ext w w4 := ((X1.trans x2).trans x3).trans x4
  obtain ⟨r0, r1, r2, r3, r4, r5, r6, r7, r8⟩ := ((RB.out.ext x2).ext x3).ext x4
  clear x2 x3 x4 X1 s0 s1 s2 s3 s4 s5 s6 s7 s8
  go_wp2_with fail
  exact bodyPost_ret (v := .tuple #[.agg #[.int .i64 E0, .int .i64 E1, .int .i64 E2, .int .i64 E3], .int .i64 ee]) (by simp [results, Try.results22, go_sem, r0, r1, r2, r3]) rfl ⟨rfl, by repeat (first | with_reducible assumption | with_reducible exact Ext.refl _ | with_reducible refine Ext.drew ?_ | with_reducible refine Ext.drewN ?_ _ | with_reducible refine Ext.alloc ?_ _ | with_reducible refine Ext.set ?_ (by first | exact Nat.le_refl _ | (dsimp only; omega) | (simp; done)) _)⟩

theorem chk4_y {a b c d : Int} (h : ok4 a b c d = true) : chk4 a b c d = 0 := by unfold chk4; rw [if_pos h]
theorem qUnit_yes (a b c d : Int) (k0 k1 k2 k3 : Nat) (w : World) (h : ok4 a b c d = true) (hq : ¬ (a = 0 ∧ b = 0 ∧ c = 0 ∧ d = 0))
    (q0 : RootQ (a.natAbs * a.natAbs * 1152921504606846976) (sq4 a b c d) k0) (q1 : RootQ (b.natAbs * b.natAbs * 1152921504606846976) (sq4 a b c d) k1) (q2 : RootQ (c.natAbs * c.natAbs * 1152921504606846976) (sq4 a b c d) k2) (q3 : RootQ (d.natAbs * d.natAbs * 1152921504606846976) (sq4 a b c d) k3) :
    Calls Try.prog 22 #[.agg #[.int .i64 a, .int .i64 b, .int .i64 c, .int .i64 d]] w fun e w' => e = .returned (.tuple #[.agg #[.int .i64 (sgd a k0), .int .i64 (sgd b k1), .int .i64 (sgd c k2), .int .i64 (sgd d k3)], .int .i64 0]) ∧ Ext w w' := by
  have n0 := sq4_pos hq
  obtain ⟨l0, l1, l2, l3⟩ := le_sq4 a b c d
  have m0 := unit_k_le n0 l0 q0; have m1 := unit_k_le n0 l1 q1; have m2 := unit_k_le n0 l2 q2; have m3 := unit_k_le n0 l3 q3
  have K := qCheck_any a b c d
  rw [chk4_y h] at K
  have U := fun w' => qunit_any a b c d k0 k1 k2 k3 w' h hq q0 q1 q2 q3
  have ow : ∀ (v : Int) (k : Nat), k ≤ 1073741824 → okW (sgd v k) = true := fun v k hk => by
    have := sgd_le (v := v) (k := k)
    unfold okW; simp; omega
  have e : qres (sgd a k0) (sgd b k1) (sgd c k2) (sgd d k3) = .tuple #[.agg #[.int .i64 (sgd a k0), .int .i64 (sgd b k1), .int .i64 (sgd c k2), .int .i64 (sgd d k3)], .int .i64 0] := by
    unfold qres ok4; rw [ow _ _ m0, ow _ _ m1, ow _ _ m2, ow _ _ m3]; rfl
  rw [e] at U
  have hz : (a == 0 && (b == 0 && (c == 0 && d == 0))) = false := by
    cases hh : (a == 0 && (b == 0 && (c == 0 && d == 0)))
    · rfl
    · exfalso; simp at hh; exact hq hh
  exact qUnit_raw a b c d _ _ _ _ 0 w hz K (qof_any a b c d) U (asQuat_any _ _ _ _ _)

set_option maxRecDepth 20000 in
set_option maxHeartbeats 4000000 in
theorem qNorm_raw (a b c d N M r s : Int) (w : World)
    (HK : Hid (∀ w', Calls Try.prog 25 #[.agg #[.int .i64 a, .int .i64 b, .int .i64 c, .int .i64 d]] w' fun e w'' => e = .returned (.int .i64 0) ∧ Ext w' w''))
    (HF : Hid (∀ w', Calls Try.prog 29 #[.agg #[.int .i64 a, .int .i64 b, .int .i64 c, .int .i64 d]] w' fun e w'' => e = .returned (.agg #[.int .i64 a, .int .i64 b, .int .i64 c, .int .i64 d]) ∧ Ext w' w''))
    (HS : Hid (∀ w', Calls Try.prog 42 #[.agg #[.int .i64 a, .int .i64 b, .int .i64 c, .int .i64 d]] w' fun e w'' => (∃ r, e = .returned r ∧ IsW r N) ∧ Ext w' w''))
    (HI : Hid (∀ t w', IsW t N → Calls Try.prog 31 #[t] w' fun e w'' => (∃ r, e = .returned r ∧ IsW r M) ∧ Ext w' w''))
    (HW : Hid (∀ t w', IsW t M → Calls Try.prog 43 #[t] w' fun e w'' => e = .returned (.tuple #[.int .i64 r, .int .i64 s]) ∧ Ext w' w'')) :
    Calls Try.prog 23 #[.agg #[.int .i64 a, .int .i64 b, .int .i64 c, .int .i64 d]] w fun e w' => e = .returned (.tuple #[.int .i64 r, .int .i64 s]) ∧ Ext w w' := by
  go_enter Try.func23, Try.ntmps23
  go_wp2_with fail
  refine (HK.out _).mono ?_
  rintro e w1 ⟨rfl, x1⟩
  have QB : Hid (H4 w1 w.heap.size (.int .i64 a) (.int .i64 b) (.int .i64 c) (.int .i64 d)) := (h4_at rfl).ext x1
  have X1 : Ext w w1 := Ext.trans (by repeat (first | with_reducible assumption | with_reducible exact Ext.refl _ | with_reducible refine Ext.drew ?_ | with_reducible refine Ext.drewN ?_ _ | with_reducible refine Ext.alloc ?_ _ | with_reducible refine Ext.set ?_ (by first | exact Nat.le_refl _ | (dsimp only; omega) | (simp; done)) _)) x1
  clear x1
  obtain ⟨s0, s1, s2, s3, s4, s5, s6, s7, s8⟩ := QB.out
  go_wp2_with fail
  refine (HF.out _).mono ?_
  rintro e w2 ⟨rfl, x2⟩
  go_wp2_with fail
  refine (HS.out _).mono ?_
  rintro e w3 ⟨⟨u3, rfl, h3⟩, x3⟩
  go_wp2_with fail
  refine (HI.out _ _ h3).mono ?_
  rintro e w4 ⟨⟨u4, rfl, h4⟩, x4⟩
  go_wp2_with fail
  refine (HW.out _ _ h4).mono ?_
  rintro e w5 ⟨rfl, x5⟩
  have X5 : Ext w w5 := (((X1.trans x2).trans x3).trans x4).trans x5
  clear x2 x3 x4 x5 X1 h3 h4
  go_wp2_with fail
  go_ret2
  exact ⟨rfl, X5⟩
theorem qNorm_yes (a b c d : Int) (w : World) (h : ok4 a b c d = true) :
    Calls Try.prog 23 #[.agg #[.int .i64 a, .int .i64 b, .int .i64 c, .int .i64 d]] w fun e w' => e = .returned (.tuple #[.int .i64 (fitR (nearQ (sq4 a b c d : Nat))).1, .int .i64 (fitR (nearQ (sq4 a b c d : Nat))).2]) ∧ Ext w w' := by
  have K := qCheck_any a b c d
  rw [chk4_y h] at K
  unfold ok4 at h
  simp only [Bool.and_eq_true] at h
  obtain ⟨ha, hb, hc, hd⟩ := h
  have n1 := sq4_lt ha hb hc hd
  have hw : InW (nearQ (sq4 a b c d : Nat)) := inW_of (by unfold nearQ oddQ; omega)
  exact qNorm_raw a b c d _ _ _ _ w K (qof_any a b c d) (fun w' => squares_any a b c d w' ha hb hc hd) (fun t w' ht => qinQ30_any _ t w' ht (inW_of (by omega)) (inW_of (by omega))) (fun t w' ht => wordw_any _ t w' ht hw)
end Go.Proofs.Ytchmcmcbdipphaa
