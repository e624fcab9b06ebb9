/- fuse: its numbers. fuse: Spin, Up, North. fuse: Spin, Up, North. -/
import Derived.Test.YtmbdcgijjpcppaaGreatMg7
import Derived.Test.YtmbdcgijjpcppaaGreatMg20
import Derived.Test.YtmbdcgijjpcppaaGreatMg24
import Derived.Test.YtmbdcgijjpcppaaGreatV9m
import Derived.Test.YtmbdcgijjpcppaaGreatMg13
import Derived.Deep.RegionHeld
import Derived.Deep.DeepCutAuto
namespace Go.Proofs.YtmbdcgijjpcppaaGreat
open Go.RowKit Go.Shelf
/-- what quat.Unit tells of four numbers that are not 0 -/
def UnitQ (t0 t1 t2 t3 u0 u1 u2 u3 : Int) : Prop := ∃ k0 k1 k2 k3 : Nat, RootQ (t0.natAbs * t0.natAbs * 1152921504606846976) (sq4 t0 t1 t2 t3) k0 ∧ RootQ (t1.natAbs * t1.natAbs * 1152921504606846976) (sq4 t0 t1 t2 t3) k1 ∧ RootQ (t2.natAbs * t2.natAbs * 1152921504606846976) (sq4 t0 t1 t2 t3) k2 ∧ RootQ (t3.natAbs * t3.natAbs * 1152921504606846976) (sq4 t0 t1 t2 t3) k3 ∧ u0 = sgd t0 k0 ∧ u1 = sgd t1 k1 ∧ u2 = sgd t2 k2 ∧ u3 = sgd t3 k3
/-- what vec.Unit tells of three that are not 0 -/
def UnitV (t0 t1 t2 u0 u1 u2 : Int) : Prop := ∃ k0 k1 k2 : Nat, RootQ (t0.natAbs * t0.natAbs * 1152921504606846976) (sq3 t0 t1 t2) k0 ∧ RootQ (t1.natAbs * t1.natAbs * 1152921504606846976) (sq3 t0 t1 t2) k1 ∧ RootQ (t2.natAbs * t2.natAbs * 1152921504606846976) (sq3 t0 t1 t2) k2 ∧ u0 = sgd t0 k0 ∧ u1 = sgd t1 k1 ∧ u2 = sgd t2 k2
theorem unitq_ex {a b c d : Int} (h : ¬ (a = 0 ∧ b = 0 ∧ c = 0 ∧ d = 0)) : ∃ u0 u1 u2 u3, UnitQ a b c d u0 u1 u2 u3 := by
  have n0 := sq4_pos h
  obtain ⟨k0, h0⟩ := rootQ_exists (a.natAbs * a.natAbs * 1152921504606846976) (sq4 a b c d) n0
  obtain ⟨k1, h1⟩ := rootQ_exists (b.natAbs * b.natAbs * 1152921504606846976) (sq4 a b c d) n0
  obtain ⟨k2, h2⟩ := rootQ_exists (c.natAbs * c.natAbs * 1152921504606846976) (sq4 a b c d) n0
  obtain ⟨k3, h3⟩ := rootQ_exists (d.natAbs * d.natAbs * 1152921504606846976) (sq4 a b c d) n0
  exact ⟨_, _, _, _, k0, k1, k2, k3, h0, h1, h2, h3, rfl, rfl, rfl, rfl⟩
theorem unitv_ex {a b c : Int} (h : ¬ (a = 0 ∧ b = 0 ∧ c = 0)) : ∃ u0 u1 u2, UnitV a b c u0 u1 u2 := by
  have n0 := sq3_zero a b c h
  obtain ⟨k0, h0⟩ := rootQ_exists (a.natAbs * a.natAbs * 1152921504606846976) (sq3 a b c) n0
  obtain ⟨k1, h1⟩ := rootQ_exists (b.natAbs * b.natAbs * 1152921504606846976) (sq3 a b c) n0
  obtain ⟨k2, h2⟩ := rootQ_exists (c.natAbs * c.natAbs * 1152921504606846976) (sq3 a b c) n0
  exact ⟨_, _, _, k0, k1, k2, h0, h1, h2, rfl, rfl, rfl⟩
theorem unitv_le {a b c u0 u1 u2 : Int} (h : ¬ (a = 0 ∧ b = 0 ∧ c = 0)) (hu : UnitV a b c u0 u1 u2) : (-1073741824 ≤ u0 ∧ u0 ≤ 1073741824) ∧ (-1073741824 ≤ u1 ∧ u1 ≤ 1073741824) ∧ (-1073741824 ≤ u2 ∧ u2 ≤ 1073741824) := by
  obtain ⟨k0, k1, k2, h0, h1, h2, e0, e1, e2⟩ := hu
  have n0 := sq3_zero a b c h
  obtain ⟨p0, p1, p2⟩ := sq3_parts a b c
  have q0 := unit_k_le n0 p0 h0
  have q1 := unit_k_le n0 p1 h1
  have q2 := unit_k_le n0 p2 h2
  have s0 := @sgd_le a k0
  have s1 := @sgd_le b k1
  have s2 := @sgd_le c k2
  rw [← e0] at s0; rw [← e1] at s1; rw [← e2] at s2
  omega
theorem unitq_le {a b c d u0 u1 u2 u3 : Int} (h : ¬ (a = 0 ∧ b = 0 ∧ c = 0 ∧ d = 0)) (hu : UnitQ a b c d u0 u1 u2 u3) : (-1073741824 ≤ u0 ∧ u0 ≤ 1073741824) ∧ (-1073741824 ≤ u1 ∧ u1 ≤ 1073741824) ∧ (-1073741824 ≤ u2 ∧ u2 ≤ 1073741824) ∧ (-1073741824 ≤ u3 ∧ u3 ≤ 1073741824) := by
  obtain ⟨k0, k1, k2, k3, h0, h1, h2, h3, e0, e1, e2, e3⟩ := hu
  have n0 := sq4_pos h
  obtain ⟨p0, p1, p2, p3⟩ := le_sq4 a b c d
  have q0 := unit_k_le n0 p0 h0
  have q1 := unit_k_le n0 p1 h1
  have q2 := unit_k_le n0 p2 h2
  have q3 := unit_k_le n0 p3 h3
  have s0 := @sgd_le a k0
  have s1 := @sgd_le b k1
  have s2 := @sgd_le c k2
  have s3 := @sgd_le d k3
  rw [← e0] at s0; rw [← e1] at s1; rw [← e2] at s2; rw [← e3] at s3
  omega
theorem sgd_sq (v : Int) (k : Nat) : sgd v k * sgd v k = ((k * k : Nat) : Int) := by
  unfold sgd
  split
  · rw [Int.neg_mul_neg, Int.natCast_mul]
  · rw [Int.natCast_mul]
/-- a unit is an orientation -/
theorem unitq_okO {a b c d u0 u1 u2 u3 : Int} (h : ¬ (a = 0 ∧ b = 0 ∧ c = 0 ∧ d = 0)) (hu : UnitQ a b c d u0 u1 u2 u3) : okO u0 u1 u2 u3 = true := by
  have hb := unitq_le h hu
  obtain ⟨k0, k1, k2, k3, h0, h1, h2, h3, e0, e1, e2, e3⟩ := hu
  have n0 := sq4_pos h
  have s := unit_sum (sq4 a b c d) _ _ _ _ k0 k1 k2 k3 n0 (by unfold sq4; rfl) h0 h1 h2 h3
  have f0 := sgd_sq a k0
  have f1 := sgd_sq b k1
  have f2 := sgd_sq c k2
  have f3 := sgd_sq d k3
  rw [← e0] at f0; rw [← e1] at f1; rw [← e2] at f2; rw [← e3] at f3
  refine okO_iff.2 ⟨⟨by omega, by omega⟩, ⟨by omega, by omega⟩, ⟨by omega, by omega⟩, ⟨by omega, by omega⟩, ?_, ?_⟩ <;> rw [f0, f1, f2, f3] <;> omega
theorem okO_ok4 {a b c d : Int} (h : okO a b c d = true) : ok4 a b c d = true := by
  have := okO_iff.1 h
  unfold ok4 okW
  simp only [Bool.and_eq_true, decide_eq_true_eq]
  omega
theorem okO_zero {a b c d : Int} (h : okO a b c d = true) : ¬ (a = 0 ∧ b = 0 ∧ c = 0 ∧ d = 0) := by
  rintro ⟨rfl, rfl, rfl, rfl⟩
  have := okO_iff.1 h
  omega
theorem nearI_neg (p d : Int) (hd : 0 < d) : nearI (-p) d = -nearI p d := (nearI_spec (-p) d hd).unique hd (nearI_spec p d hd).neg
theorem nearQ_neg (p : Int) : nearQ (-p) = -nearQ p := (nearQ_IsNear (-p)).unique (by decide) (nearQ_IsNear p).neg
theorem nearI_zero {p d : Int} (hd : 0 < d) {z : Int} (hz : nearI p d = z) : -d ≤ 2 * (p - z * d) ∧ 2 * (p - z * d) ≤ d := by
  have h := nearI_spec p d hd
  rw [hz] at h
  exact ⟨h.1, h.2.1⟩
theorem rootQ_zero {n k : Nat} (hn : 0 < n) (h : RootQ 0 n k) : k = 0 := by
  rcases h.2.1 with h1 | h1
  · exact h1
  · apply Nat.eq_zero_of_not_pos
    intro hk
    have h2 : 1 * 1 ≤ (2 * k - 1) * (2 * k - 1) := Nat.mul_le_mul (by omega) (by omega)
    have h3 : 1 * n ≤ (2 * k - 1) * (2 * k - 1) * n := Nat.mul_le_mul_right _ (by omega)
    omega
theorem sgd_neg {v : Int} {n k : Nat} (hn : 0 < n) (h : RootQ (v.natAbs * v.natAbs * 1152921504606846976) n k) : sgd (-v) k = -sgd v k := by
  unfold sgd
  by_cases h0 : v = 0
  · subst h0
    have : k = 0 := rootQ_zero hn (by simpa using h)
    subst this
    rfl
  · by_cases h1 : v < 0
    · rw [if_neg (by omega), if_pos h1]; omega
    · rw [if_pos (by omega), if_neg h1]
theorem sq4_neg (a b c d : Int) : sq4 (-a) (-b) (-c) (-d) = sq4 a b c d := by unfold sq4; simp only [Int.natAbs_neg]
theorem sq4_conj (a b c d : Int) : sq4 a (-b) (-c) (-d) = sq4 a b c d := by unfold sq4; simp only [Int.natAbs_neg]
theorem unitq_neg {a b c d u0 u1 u2 u3 : Int} (h : ¬ (a = 0 ∧ b = 0 ∧ c = 0 ∧ d = 0)) (hu : UnitQ a b c d u0 u1 u2 u3) : UnitQ (-a) (-b) (-c) (-d) (-u0) (-u1) (-u2) (-u3) := by
  obtain ⟨k0, k1, k2, k3, h0, h1, h2, h3, e0, e1, e2, e3⟩ := hu
  have n0 := sq4_pos h
  refine ⟨k0, k1, k2, k3, ?_, ?_, ?_, ?_, ?_, ?_, ?_, ?_⟩
  · rw [sq4_neg, Int.natAbs_neg]; exact h0
  · rw [sq4_neg, Int.natAbs_neg]; exact h1
  · rw [sq4_neg, Int.natAbs_neg]; exact h2
  · rw [sq4_neg, Int.natAbs_neg]; exact h3
  · rw [sgd_neg n0 h0, e0]
  · rw [sgd_neg n0 h1, e1]
  · rw [sgd_neg n0 h2, e2]
  · rw [sgd_neg n0 h3, e3]
/-- a number's bound out of its square's -/
theorem abs_of_sq {p m : Int} (hm : 0 ≤ m) (h : p * p ≤ m * m) : -m ≤ p ∧ p ≤ m := by
  have h1 : p * p < (m + 1) * (m + 1) := by
    have e : (m + 1) * (m + 1) = m * m + 2 * m + 1 := by grind
    omega
  have := lt_of_sq h1
  omega
theorem near_abs {p n B : Int} (hn : 0 < n) (h1 : -(n * B) ≤ p) (h2 : p ≤ n * B) : -B ≤ nearI p n ∧ nearI p n ≤ B := by
  obtain ⟨s1, s2, _⟩ := nearI_spec p n hn
  generalize nearI p n = z at *
  constructor
  · apply Int.le_of_not_gt
    intro hc
    have h3 : z * n ≤ (-B - 1) * n := Int.mul_le_mul_of_nonneg_right (by omega) (by omega)
    have e : (-B - 1) * n = -(n * B) - n := by grind
    omega
  · apply Int.le_of_not_gt
    intro hc
    have h3 : (B + 1) * n ≤ z * n := Int.mul_le_mul_of_nonneg_right (by omega) (by omega)
    have e : (B + 1) * n = n * B + n := by grind
    omega
theorem tn_bound {a b c d x y z B : Int} (hB : 0 ≤ B) (hn : 0 < sq4 a b c d) (hv : x * x + y * y + z * z ≤ B * B) :
    (-B ≤ nearI (tnx a b c d x y z) (sq4 a b c d) ∧ nearI (tnx a b c d x y z) (sq4 a b c d) ≤ B) ∧ (-B ≤ nearI (tny a b c d x y z) (sq4 a b c d) ∧ nearI (tny a b c d x y z) (sq4 a b c d) ≤ B) ∧ (-B ≤ nearI (tnz a b c d x y z) (sq4 a b c d) ∧ nearI (tnz a b c d x y z) (sq4 a b c d) ≤ B) := by
  have h := tn_sq a b c d x y z
  have e := sq4_int a b c d
  rw [e] at h
  have hn' : (0 : Int) < ((sq4 a b c d : Nat) : Int) := by omega
  generalize ((sq4 a b c d : Nat) : Int) = n at *
  generalize tnx a b c d x y z = X at *
  generalize tny a b c d x y z = Y at *
  generalize tnz a b c d x y z = Z at *
  have hx := sq_nonneg X
  have hy := sq_nonneg Y
  have hz := sq_nonneg Z
  have hnn : 0 ≤ n * n := sq_nonneg n
  have h2 : n * n * (x * x + y * y + z * z) ≤ n * n * (B * B) := Int.mul_le_mul_of_nonneg_left hv hnn
  have e2 : n * n * (B * B) = n * B * (n * B) := by grind
  have hnB : 0 ≤ n * B := Int.mul_nonneg (by omega) hB
  have gx := abs_of_sq (p := X) hnB (by omega)
  have gy := abs_of_sq (p := Y) hnB (by omega)
  have gz := abs_of_sq (p := Z) hnB (by omega)
  exact ⟨near_abs hn' gx.1 gx.2, near_abs hn' gy.1 gy.2, near_abs hn' gz.1 gz.2⟩
theorem nearQ_abs {p B : Int} (h1 : -(1073741824 * B) ≤ p) (h2 : p ≤ 1073741824 * B) : -B ≤ nearQ p ∧ nearQ p ≤ B := by
  have h := nearQ_IsNear p
  have e : nearQ p = nearI p 1073741824 := h.unique (by decide) (nearI_spec p 1073741824 (by decide))
  rw [e]
  exact near_abs (by decide) h1 h2
theorem okW_of {v : Int} (h1 : -35184372088832 < v) (h2 : v < 35184372088832) : okW v = true := by unfold okW; simp [h1, h2]
theorem mul_le_of {a b A B : Int} (h1 : -A ≤ a) (h2 : a ≤ A) (k1 : -B ≤ b) (k2 : b ≤ B) : -(A * B) ≤ a * b ∧ a * b ≤ A * B := by
  have hA : 0 ≤ A := by omega
  have hB : 0 ≤ B := by omega
  have e : (a * b).natAbs = a.natAbs * b.natAbs := Int.natAbs_mul a b
  have m : a.natAbs * b.natAbs ≤ A.natAbs * B.natAbs := Nat.mul_le_mul (by omega) (by omega)
  have e2 : (A * B).natAbs = A.natAbs * B.natAbs := Int.natAbs_mul A B
  have e3 : 0 ≤ A * B := Int.mul_nonneg hA hB
  omega
end Go.Proofs.YtmbdcgijjpcppaaGreat

namespace Go.Proofs.YtmbdcgijjpcppaaGreat
open Go.RowKit Go.Shelf
set_option maxRecDepth 20000 in
set_option maxHeartbeats 8000000 in
theorem spin_bad0 (a b c d x y z n : Int) (w : World) (HK : Hid (∀ w', Calls Tryz.prog 14 #[.agg #[.int .i64 a, .int .i64 b, .int .i64 c, .int .i64 d]] w' fun e w'' => e = .returned (.int .i64 1) ∧ Ext w' w'')) :
    Calls Tryz.prog 12 #[.agg #[.int .i64 a, .int .i64 b, .int .i64 c, .int .i64 d], .agg #[.int .i64 x, .int .i64 y, .int .i64 z], .int .i64 n] w fun e w' => e = .returned (.tuple #[.agg #[.int .i64 0, .int .i64 0, .int .i64 0, .int .i64 0], .int .i64 1]) ∧ Ext w w' := by
  have RB : Hid (HV (((w.alloc (.cells #[.int .i64 a, .int .i64 b, .int .i64 c, .int .i64 d] 26)).alloc (.cells #[.int .i64 x, .int .i64 y, .int .i64 z] 28)).alloc (.cells #[.int .i64 0, .int .i64 0, .int .i64 0, .int .i64 0] 26)) (w.heap.size + 1 + 1) [.int .i64 0, .int .i64 0, .int .i64 0, .int .i64 0]) := hv_at (by simp)
  have FB : Hid (HV (((w.alloc (.cells #[.int .i64 a, .int .i64 b, .int .i64 c, .int .i64 d] 26)).alloc (.cells #[.int .i64 x, .int .i64 y, .int .i64 z] 28)).alloc (.cells #[.int .i64 0, .int .i64 0, .int .i64 0, .int .i64 0] 26)) w.heap.size [.int .i64 a, .int .i64 b, .int .i64 c, .int .i64 d]) := HV.alloc (HV.alloc (hv_at rfl) _) _
  have VB : Hid (HV (((w.alloc (.cells #[.int .i64 a, .int .i64 b, .int .i64 c, .int .i64 d] 26)).alloc (.cells #[.int .i64 x, .int .i64 y, .int .i64 z] 28)).alloc (.cells #[.int .i64 0, .int .i64 0, .int .i64 0, .int .i64 0] 26)) (w.heap.size + 1) [.int .i64 x, .int .i64 y, .int .i64 z]) := HV.alloc (hv_at (by simp)) _
  have XB : Ext w (((w.alloc (.cells #[.int .i64 a, .int .i64 b, .int .i64 c, .int .i64 d] 26)).alloc (.cells #[.int .i64 x, .int .i64 y, .int .i64 z] 28)).alloc (.cells #[.int .i64 0, .int .i64 0, .int .i64 0, .int .i64 0] 26)) := (((Ext.refl _).alloc _).alloc _).alloc _
  have ne1 : w.heap.size ≠ w.heap.size + 1 + 1 := by omega
  have ne2 : w.heap.size + 1 + 1 ≠ w.heap.size := by omega
  have ne3 : w.heap.size + 1 ≠ w.heap.size + 1 + 1 := by omega
  have ne4 : w.heap.size + 1 + 1 ≠ w.heap.size + 1 := by omega
  go_enter Tryz.func12, Tryz.ntmps12
  go_wp2_with fail
  refine (HK.out _).mono ?_
  rintro e w1 ⟨rfl, x1⟩
  have X1 : Ext w w1 := XB.trans x1
  have RB1 : Hid (HV w1 (w.heap.size + 1 + 1) [.int .i64 0, .int .i64 0, .int .i64 0, .int .i64 0]) := RB.out.ext x1
  have FB1 : Hid (HV w1 (w.heap.size) [.int .i64 a, .int .i64 b, .int .i64 c, .int .i64 d]) := FB.out.ext x1
  have VB1 : Hid (HV w1 (w.heap.size + 1) [.int .i64 x, .int .i64 y, .int .i64 z]) := VB.out.ext x1
  clear x1 XB RB FB VB
  obtain ⟨r0, r1, r2, r3⟩ := RB1.out.k4
  obtain ⟨z0, z1, z2, z3⟩ := RB1.out.z4
  have rl := RB1.out.1
  go_wp2_with fail
  exact bodyPost_ret (v := .tuple #[.agg #[.int .i64 0, .int .i64 0, .int .i64 0, .int .i64 0], .int .i64 1]) (by simp [results, Tryz.results12, go_sem, r0, r1, r2, r3]) rfl ⟨rfl, by repeat (first | with_reducible assumption | with_reducible exact Ext.refl _ | with_reducible refine Ext.drew ?_ | with_reducible refine Ext.drewN ?_ _ | with_reducible refine Ext.alloc ?_ _ | with_reducible refine Ext.set ?_ (by first | exact Nat.le_refl _ | (dsimp only; omega) | (simp; done)) _)⟩
set_option maxRecDepth 20000 in
set_option maxHeartbeats 8000000 in
theorem spin_bad1 (a b c d x y z n : Int) (w : World) (HK : Hid (∀ w', Calls Tryz.prog 14 #[.agg #[.int .i64 a, .int .i64 b, .int .i64 c, .int .i64 d]] w' fun e w'' => e = .returned (.int .i64 0) ∧ Ext w' w'')) (KV : Hid (∀ w', Calls Tryz.prog 45 #[.agg #[.int .i64 x, .int .i64 y, .int .i64 z]] w' fun e w'' => e = .returned (.int .i64 1) ∧ Ext w' w'')) :
    Calls Tryz.prog 12 #[.agg #[.int .i64 a, .int .i64 b, .int .i64 c, .int .i64 d], .agg #[.int .i64 x, .int .i64 y, .int .i64 z], .int .i64 n] w fun e w' => e = .returned (.tuple #[.agg #[.int .i64 0, .int .i64 0, .int .i64 0, .int .i64 0], .int .i64 1]) ∧ Ext w w' := by
  have RB : Hid (HV (((w.alloc (.cells #[.int .i64 a, .int .i64 b, .int .i64 c, .int .i64 d] 26)).alloc (.cells #[.int .i64 x, .int .i64 y, .int .i64 z] 28)).alloc (.cells #[.int .i64 0, .int .i64 0, .int .i64 0, .int .i64 0] 26)) (w.heap.size + 1 + 1) [.int .i64 0, .int .i64 0, .int .i64 0, .int .i64 0]) := hv_at (by simp)
  have FB : Hid (HV (((w.alloc (.cells #[.int .i64 a, .int .i64 b, .int .i64 c, .int .i64 d] 26)).alloc (.cells #[.int .i64 x, .int .i64 y, .int .i64 z] 28)).alloc (.cells #[.int .i64 0, .int .i64 0, .int .i64 0, .int .i64 0] 26)) w.heap.size [.int .i64 a, .int .i64 b, .int .i64 c, .int .i64 d]) := HV.alloc (HV.alloc (hv_at rfl) _) _
  have VB : Hid (HV (((w.alloc (.cells #[.int .i64 a, .int .i64 b, .int .i64 c, .int .i64 d] 26)).alloc (.cells #[.int .i64 x, .int .i64 y, .int .i64 z] 28)).alloc (.cells #[.int .i64 0, .int .i64 0, .int .i64 0, .int .i64 0] 26)) (w.heap.size + 1) [.int .i64 x, .int .i64 y, .int .i64 z]) := HV.alloc (hv_at (by simp)) _
  have XB : Ext w (((w.alloc (.cells #[.int .i64 a, .int .i64 b, .int .i64 c, .int .i64 d] 26)).alloc (.cells #[.int .i64 x, .int .i64 y, .int .i64 z] 28)).alloc (.cells #[.int .i64 0, .int .i64 0, .int .i64 0, .int .i64 0] 26)) := (((Ext.refl _).alloc _).alloc _).alloc _
  have ne1 : w.heap.size ≠ w.heap.size + 1 + 1 := by omega
  have ne2 : w.heap.size + 1 + 1 ≠ w.heap.size := by omega
  have ne3 : w.heap.size + 1 ≠ w.heap.size + 1 + 1 := by omega
  have ne4 : w.heap.size + 1 + 1 ≠ w.heap.size + 1 := by omega
  go_enter Tryz.func12, Tryz.ntmps12
  go_wp2_with fail
  refine (HK.out _).mono ?_
  rintro e w1 ⟨rfl, x1⟩
  have X1 : Ext w w1 := XB.trans x1
  have RB1 : Hid (HV w1 (w.heap.size + 1 + 1) [.int .i64 0, .int .i64 0, .int .i64 0, .int .i64 0]) := RB.out.ext x1
  have FB1 : Hid (HV w1 (w.heap.size) [.int .i64 a, .int .i64 b, .int .i64 c, .int .i64 d]) := FB.out.ext x1
  have VB1 : Hid (HV w1 (w.heap.size + 1) [.int .i64 x, .int .i64 y, .int .i64 z]) := VB.out.ext x1
  clear x1 XB RB FB VB
  obtain ⟨v0, v1, v2⟩ := VB1.out.k3
  have vl := VB1.out.1
  go_wp2_with fail
  refine (KV.out _).mono ?_
  rintro e w2 ⟨rfl, x2⟩
  have X2 : Ext w w2 := X1.trans x2
  have RB2 : Hid (HV w2 (w.heap.size + 1 + 1) [.int .i64 0, .int .i64 0, .int .i64 0, .int .i64 0]) := RB1.out.ext x2
  have FB2 : Hid (HV w2 (w.heap.size) [.int .i64 a, .int .i64 b, .int .i64 c, .int .i64 d]) := FB1.out.ext x2
  have VB2 : Hid (HV w2 (w.heap.size + 1) [.int .i64 x, .int .i64 y, .int .i64 z]) := VB1.out.ext x2
  clear x2 X1 RB1 FB1 VB1
  clear v0 v1 v2 vl
  obtain ⟨r0, r1, r2, r3⟩ := RB2.out.k4
  obtain ⟨z0, z1, z2, z3⟩ := RB2.out.z4
  have rl := RB2.out.1
  go_wp2_with fail
  exact bodyPost_ret (v := .tuple #[.agg #[.int .i64 0, .int .i64 0, .int .i64 0, .int .i64 0], .int .i64 1]) (by simp [results, Tryz.results12, go_sem, r0, r1, r2, r3]) rfl ⟨rfl, by repeat (first | with_reducible assumption | with_reducible exact Ext.refl _ | with_reducible refine Ext.drew ?_ | with_reducible refine Ext.drewN ?_ _ | with_reducible refine Ext.alloc ?_ _ | with_reducible refine Ext.set ?_ (by first | exact Nat.le_refl _ | (dsimp only; omega) | (simp; done)) _)⟩
set_option maxRecDepth 20000 in
set_option maxHeartbeats 8000000 in
theorem spin_bad2 (a b c d x y z n : Int) (w : World) (HK : Hid (∀ w', Calls Tryz.prog 14 #[.agg #[.int .i64 a, .int .i64 b, .int .i64 c, .int .i64 d]] w' fun e w'' => e = .returned (.int .i64 0) ∧ Ext w' w'')) (KV : Hid (∀ w', Calls Tryz.prog 45 #[.agg #[.int .i64 x, .int .i64 y, .int .i64 z]] w' fun e w'' => e = .returned (.int .i64 0) ∧ Ext w' w'')) (HT : Hid (∀ w', Calls Tryz.prog 46 #[.int .i64 n] w' fun e w'' => e = .returned (.bool false) ∧ w'' = w')) :
    Calls Tryz.prog 12 #[.agg #[.int .i64 a, .int .i64 b, .int .i64 c, .int .i64 d], .agg #[.int .i64 x, .int .i64 y, .int .i64 z], .int .i64 n] w fun e w' => e = .returned (.tuple #[.agg #[.int .i64 0, .int .i64 0, .int .i64 0, .int .i64 0], .int .i64 1]) ∧ Ext w w' := by
  have RB : Hid (HV (((w.alloc (.cells #[.int .i64 a, .int .i64 b, .int .i64 c, .int .i64 d] 26)).alloc (.cells #[.int .i64 x, .int .i64 y, .int .i64 z] 28)).alloc (.cells #[.int .i64 0, .int .i64 0, .int .i64 0, .int .i64 0] 26)) (w.heap.size + 1 + 1) [.int .i64 0, .int .i64 0, .int .i64 0, .int .i64 0]) := hv_at (by simp)
  have FB : Hid (HV (((w.alloc (.cells #[.int .i64 a, .int .i64 b, .int .i64 c, .int .i64 d] 26)).alloc (.cells #[.int .i64 x, .int .i64 y, .int .i64 z] 28)).alloc (.cells #[.int .i64 0, .int .i64 0, .int .i64 0, .int .i64 0] 26)) w.heap.size [.int .i64 a, .int .i64 b, .int .i64 c, .int .i64 d]) := HV.alloc (HV.alloc (hv_at rfl) _) _
  have VB : Hid (HV (((w.alloc (.cells #[.int .i64 a, .int .i64 b, .int .i64 c, .int .i64 d] 26)).alloc (.cells #[.int .i64 x, .int .i64 y, .int .i64 z] 28)).alloc (.cells #[.int .i64 0, .int .i64 0, .int .i64 0, .int .i64 0] 26)) (w.heap.size + 1) [.int .i64 x, .int .i64 y, .int .i64 z]) := HV.alloc (hv_at (by simp)) _
  have XB : Ext w (((w.alloc (.cells #[.int .i64 a, .int .i64 b, .int .i64 c, .int .i64 d] 26)).alloc (.cells #[.int .i64 x, .int .i64 y, .int .i64 z] 28)).alloc (.cells #[.int .i64 0, .int .i64 0, .int .i64 0, .int .i64 0] 26)) := (((Ext.refl _).alloc _).alloc _).alloc _
  have ne1 : w.heap.size ≠ w.heap.size + 1 + 1 := by omega
  have ne2 : w.heap.size + 1 + 1 ≠ w.heap.size := by omega
  have ne3 : w.heap.size + 1 ≠ w.heap.size + 1 + 1 := by omega
  have ne4 : w.heap.size + 1 + 1 ≠ w.heap.size + 1 := by omega
  go_enter Tryz.func12, Tryz.ntmps12
  go_wp2_with fail
  refine (HK.out _).mono ?_
  rintro e w1 ⟨rfl, x1⟩
  have X1 : Ext w w1 := XB.trans x1
  have RB1 : Hid (HV w1 (w.heap.size + 1 + 1) [.int .i64 0, .int .i64 0, .int .i64 0, .int .i64 0]) := RB.out.ext x1
  have FB1 : Hid (HV w1 (w.heap.size) [.int .i64 a, .int .i64 b, .int .i64 c, .int .i64 d]) := FB.out.ext x1
  have VB1 : Hid (HV w1 (w.heap.size + 1) [.int .i64 x, .int .i64 y, .int .i64 z]) := VB.out.ext x1
  clear x1 XB RB FB VB
  obtain ⟨v0, v1, v2⟩ := VB1.out.k3
  have vl := VB1.out.1
  go_wp2_with fail
  refine (KV.out _).mono ?_
  rintro e w2 ⟨rfl, x2⟩
  have X2 : Ext w w2 := X1.trans x2
  have RB2 : Hid (HV w2 (w.heap.size + 1 + 1) [.int .i64 0, .int .i64 0, .int .i64 0, .int .i64 0]) := RB1.out.ext x2
  have FB2 : Hid (HV w2 (w.heap.size) [.int .i64 a, .int .i64 b, .int .i64 c, .int .i64 d]) := FB1.out.ext x2
  have VB2 : Hid (HV w2 (w.heap.size + 1) [.int .i64 x, .int .i64 y, .int .i64 z]) := VB1.out.ext x2
  clear x2 X1 RB1 FB1 VB1
  clear v0 v1 v2 vl
  go_wp2_with fail
  refine (HT.out _).mono ?_
  rintro e wx ⟨rfl, hwx⟩; have hwy := hwx.symm; clear hwx; subst hwy
  obtain ⟨r0, r1, r2, r3⟩ := RB2.out.k4
  obtain ⟨z0, z1, z2, z3⟩ := RB2.out.z4
  have rl := RB2.out.1
  go_wp2_with fail
  exact bodyPost_ret (v := .tuple #[.agg #[.int .i64 0, .int .i64 0, .int .i64 0, .int .i64 0], .int .i64 1]) (by simp [results, Tryz.results12, go_sem, r0, r1, r2, r3]) rfl ⟨rfl, by repeat (first | with_reducible assumption | with_reducible exact Ext.refl _ | with_reducible refine Ext.drew ?_ | with_reducible refine Ext.drewN ?_ _ | with_reducible refine Ext.alloc ?_ _ | with_reducible refine Ext.set ?_ (by first | exact Nat.le_refl _ | (dsimp only; omega) | (simp; done)) _)⟩
set_option maxRecDepth 20000 in
set_option maxHeartbeats 8000000 in
theorem spin_far (a b c d x y z n A B C : Int) (w : World) (HK : Hid (∀ w', Calls Tryz.prog 14 #[.agg #[.int .i64 a, .int .i64 b, .int .i64 c, .int .i64 d]] w' fun e w'' => e = .returned (.int .i64 0) ∧ Ext w' w'')) (KV : Hid (∀ w', Calls Tryz.prog 45 #[.agg #[.int .i64 x, .int .i64 y, .int .i64 z]] w' fun e w'' => e = .returned (.int .i64 0) ∧ Ext w' w'')) (HT : Hid (∀ w', Calls Tryz.prog 46 #[.int .i64 n] w' fun e w'' => e = .returned (.bool true) ∧ w'' = w')) (HA : Hid (∀ w', Calls Tryz.prog 47 #[.agg #[.int .i64 x, .int .i64 y, .int .i64 z], .int .i64 n] w' fun e w'' => e = .returned (.agg #[.int .i64 A, .int .i64 B, .int .i64 C]) ∧ Ext w' w'')) (HS : Hid (∀ w', Calls Tryz.prog 48 #[.agg #[.int .i64 A, .int .i64 B, .int .i64 C]] w' fun e w'' => e = .returned (.bool false) ∧ Ext w' w'')) :
    Calls Tryz.prog 12 #[.agg #[.int .i64 a, .int .i64 b, .int .i64 c, .int .i64 d], .agg #[.int .i64 x, .int .i64 y, .int .i64 z], .int .i64 n] w fun e w' => e = .returned (.tuple #[.agg #[.int .i64 0, .int .i64 0, .int .i64 0, .int .i64 0], .int .i64 2]) ∧ Ext w w' := by
  have RB : Hid (HV (((w.alloc (.cells #[.int .i64 a, .int .i64 b, .int .i64 c, .int .i64 d] 26)).alloc (.cells #[.int .i64 x, .int .i64 y, .int .i64 z] 28)).alloc (.cells #[.int .i64 0, .int .i64 0, .int .i64 0, .int .i64 0] 26)) (w.heap.size + 1 + 1) [.int .i64 0, .int .i64 0, .int .i64 0, .int .i64 0]) := hv_at (by simp)
  have FB : Hid (HV (((w.alloc (.cells #[.int .i64 a, .int .i64 b, .int .i64 c, .int .i64 d] 26)).alloc (.cells #[.int .i64 x, .int .i64 y, .int .i64 z] 28)).alloc (.cells #[.int .i64 0, .int .i64 0, .int .i64 0, .int .i64 0] 26)) w.heap.size [.int .i64 a, .int .i64 b, .int .i64 c, .int .i64 d]) := HV.alloc (HV.alloc (hv_at rfl) _) _
  have VB : Hid (HV (((w.alloc (.cells #[.int .i64 a, .int .i64 b, .int .i64 c, .int .i64 d] 26)).alloc (.cells #[.int .i64 x, .int .i64 y, .int .i64 z] 28)).alloc (.cells #[.int .i64 0, .int .i64 0, .int .i64 0, .int .i64 0] 26)) (w.heap.size + 1) [.int .i64 x, .int .i64 y, .int .i64 z]) := HV.alloc (hv_at (by simp)) _
  have XB : Ext w (((w.alloc (.cells #[.int .i64 a, .int .i64 b, .int .i64 c, .int .i64 d] 26)).alloc (.cells #[.int .i64 x, .int .i64 y, .int .i64 z] 28)).alloc (.cells #[.int .i64 0, .int .i64 0, .int .i64 0, .int .i64 0] 26)) := (((Ext.refl _).alloc _).alloc _).alloc _
  have ne1 : w.heap.size ≠ w.heap.size + 1 + 1 := by omega
  have ne2 : w.heap.size + 1 + 1 ≠ w.heap.size := by omega
  have ne3 : w.heap.size + 1 ≠ w.heap.size + 1 + 1 := by omega
  have ne4 : w.heap.size + 1 + 1 ≠ w.heap.size + 1 := by omega
  go_enter Tryz.func12, Tryz.ntmps12
  go_wp2_with fail
  refine (HK.out _).mono ?_
  rintro e w1 ⟨rfl, x1⟩
  have X1 : Ext w w1 := XB.trans x1
  have RB1 : Hid (HV w1 (w.heap.size + 1 + 1) [.int .i64 0, .int .i64 0, .int .i64 0, .int .i64 0]) := RB.out.ext x1
  have FB1 : Hid (HV w1 (w.heap.size) [.int .i64 a, .int .i64 b, .int .i64 c, .int .i64 d]) := FB.out.ext x1
  have VB1 : Hid (HV w1 (w.heap.size + 1) [.int .i64 x, .int .i64 y, .int .i64 z]) := VB.out.ext x1
  clear x1 XB RB FB VB
  obtain ⟨v0, v1, v2⟩ := VB1.out.k3
  have vl := VB1.out.1
  go_wp2_with fail
  refine (KV.out _).mono ?_
  rintro e w2 ⟨rfl, x2⟩
  have X2 : Ext w w2 := X1.trans x2
  have RB2 : Hid (HV w2 (w.heap.size + 1 + 1) [.int .i64 0, .int .i64 0, .int .i64 0, .int .i64 0]) := RB1.out.ext x2
  have FB2 : Hid (HV w2 (w.heap.size) [.int .i64 a, .int .i64 b, .int .i64 c, .int .i64 d]) := FB1.out.ext x2
  have VB2 : Hid (HV w2 (w.heap.size + 1) [.int .i64 x, .int .i64 y, .int .i64 z]) := VB1.out.ext x2
  clear x2 X1 RB1 FB1 VB1
  clear v0 v1 v2 vl
  go_wp2_with fail
  refine (HT.out _).mono ?_
  rintro e wx ⟨rfl, hwx⟩; have hwy := hwx.symm; clear hwx; subst hwy
  obtain ⟨v0, v1, v2⟩ := VB2.out.k3
  have vl := VB2.out.1
  go_wp2_with fail
  refine (HA.out _).mono ?_
  rintro e w3 ⟨rfl, x3⟩
  have X3 : Ext w w3 := X2.trans x3
  have RB3 : Hid (HV w3 (w.heap.size + 1 + 1) [.int .i64 0, .int .i64 0, .int .i64 0, .int .i64 0]) := RB2.out.ext x3
  have FB3 : Hid (HV w3 (w.heap.size) [.int .i64 a, .int .i64 b, .int .i64 c, .int .i64 d]) := FB2.out.ext x3
  have VB3 : Hid (HV w3 (w.heap.size + 1) [.int .i64 x, .int .i64 y, .int .i64 z]) := VB2.out.ext x3
  clear x3 X2 RB2 FB2 VB2
  clear v0 v1 v2 vl
  go_wp2_with fail
  refine (HS.out _).mono ?_
  rintro e w4 ⟨rfl, x4⟩
  have X4 : Ext w w4 := (X3.alloc _).trans x4
  have RB4 : Hid (HV w4 (w.heap.size + 1 + 1) [.int .i64 0, .int .i64 0, .int .i64 0, .int .i64 0]) := (RB3.out.alloc _).ext x4
  have FB4 : Hid (HV w4 w.heap.size [.int .i64 a, .int .i64 b, .int .i64 c, .int .i64 d]) := (FB3.out.alloc _).ext x4
  have AB4 : Hid (HV w4 w3.heap.size [.int .i64 A, .int .i64 B, .int .i64 C]) := (hv_at rfl).ext x4
  clear x4 X3 RB3 FB3 VB3
  obtain ⟨r0, r1, r2, r3⟩ := RB4.out.k4
  obtain ⟨z0, z1, z2, z3⟩ := RB4.out.z4
  have rl := RB4.out.1
  go_wp2_with fail
  exact bodyPost_ret (v := .tuple #[.agg #[.int .i64 0, .int .i64 0, .int .i64 0, .int .i64 0], .int .i64 2]) (by simp [results, Tryz.results12, go_sem, r0, r1, r2, r3]) rfl ⟨rfl, by repeat (first | with_reducible assumption | with_reducible exact Ext.refl _ | with_reducible refine Ext.drew ?_ | with_reducible refine Ext.drewN ?_ _ | with_reducible refine Ext.alloc ?_ _ | with_reducible refine Ext.set ?_ (by first | exact Nat.le_refl _ | (dsimp only; omega) | (simp; done)) _)⟩
set_option maxRecDepth 20000 in
set_option maxHeartbeats 8000000 in
theorem spin_good (a b c d x y z n A B C u0 u1 u2 u3 ue : Int) (w : World) (HK : Hid (∀ w', Calls Tryz.prog 14 #[.agg #[.int .i64 a, .int .i64 b, .int .i64 c, .int .i64 d]] w' fun e w'' => e = .returned (.int .i64 0) ∧ Ext w' w'')) (KV : Hid (∀ w', Calls Tryz.prog 45 #[.agg #[.int .i64 x, .int .i64 y, .int .i64 z]] w' fun e w'' => e = .returned (.int .i64 0) ∧ Ext w' w'')) (HT : Hid (∀ w', Calls Tryz.prog 46 #[.int .i64 n] w' fun e w'' => e = .returned (.bool true) ∧ w'' = w')) (HA : Hid (∀ w', Calls Tryz.prog 47 #[.agg #[.int .i64 x, .int .i64 y, .int .i64 z], .int .i64 n] w' fun e w'' => e = .returned (.agg #[.int .i64 A, .int .i64 B, .int .i64 C]) ∧ Ext w' w'')) (HS : Hid (∀ w', Calls Tryz.prog 48 #[.agg #[.int .i64 A, .int .i64 B, .int .i64 C]] w' fun e w'' => e = .returned (.bool true) ∧ Ext w' w'')) (HG : Hid (∀ w', Calls Tryz.prog 49 #[.agg #[.int .i64 a, .int .i64 b, .int .i64 c, .int .i64 d], .agg #[.int .i64 A, .int .i64 B, .int .i64 C], .func (.func 50) #[] #[]] w' fun e w'' => e = .returned (.tuple #[.agg #[.int .i64 u0, .int .i64 u1, .int .i64 u2, .int .i64 u3], .int .i64 ue]) ∧ Ext w' w'')) :
    Calls Tryz.prog 12 #[.agg #[.int .i64 a, .int .i64 b, .int .i64 c, .int .i64 d], .agg #[.int .i64 x, .int .i64 y, .int .i64 z], .int .i64 n] w fun e w' => e = .returned (.tuple #[.agg #[.int .i64 u0, .int .i64 u1, .int .i64 u2, .int .i64 u3], .int .i64 ue]) ∧ Ext w w' := by
  have RB : Hid (HV (((w.alloc (.cells #[.int .i64 a, .int .i64 b, .int .i64 c, .int .i64 d] 26)).alloc (.cells #[.int .i64 x, .int .i64 y, .int .i64 z] 28)).alloc (.cells #[.int .i64 0, .int .i64 0, .int .i64 0, .int .i64 0] 26)) (w.heap.size + 1 + 1) [.int .i64 0, .int .i64 0, .int .i64 0, .int .i64 0]) := hv_at (by simp)
  have FB : Hid (HV (((w.alloc (.cells #[.int .i64 a, .int .i64 b, .int .i64 c, .int .i64 d] 26)).alloc (.cells #[.int .i64 x, .int .i64 y, .int .i64 z] 28)).alloc (.cells #[.int .i64 0, .int .i64 0, .int .i64 0, .int .i64 0] 26)) w.heap.size [.int .i64 a, .int .i64 b, .int .i64 c, .int .i64 d]) := HV.alloc (HV.alloc (hv_at rfl) _) _
  have VB : Hid (HV (((w.alloc (.cells #[.int .i64 a, .int .i64 b, .int .i64 c, .int .i64 d] 26)).alloc (.cells #[.int .i64 x, .int .i64 y, .int .i64 z] 28)).alloc (.cells #[.int .i64 0, .int .i64 0, .int .i64 0, .int .i64 0] 26)) (w.heap.size + 1) [.int .i64 x, .int .i64 y, .int .i64 z]) := HV.alloc (hv_at (by simp)) _
  have XB : Ext w (((w.alloc (.cells #[.int .i64 a, .int .i64 b, .int .i64 c, .int .i64 d] 26)).alloc (.cells #[.int .i64 x, .int .i64 y, .int .i64 z] 28)).alloc (.cells #[.int .i64 0, .int .i64 0, .int .i64 0, .int .i64 0] 26)) := (((Ext.refl _).alloc _).alloc _).alloc _
  have ne1 : w.heap.size ≠ w.heap.size + 1 + 1 := by omega
  have ne2 : w.heap.size + 1 + 1 ≠ w.heap.size := by omega
  have ne3 : w.heap.size + 1 ≠ w.heap.size + 1 + 1 := by omega
  have ne4 : w.heap.size + 1 + 1 ≠ w.heap.size + 1 := by omega
  go_enter Tryz.func12, Tryz.ntmps12
  go_wp2_with fail
  refine (HK.out _).mono ?_
  rintro e w1 ⟨rfl, x1⟩
  have X1 : Ext w w1 := XB.trans x1
  have RB1 : Hid (HV w1 (w.heap.size + 1 + 1) [.int .i64 0, .int .i64 0, .int .i64 0, .int .i64 0]) := RB.out.ext x1
  have FB1 : Hid (HV w1 (w.heap.size) [.int .i64 a, .int .i64 b, .int .i64 c, .int .i64 d]) := FB.out.ext x1
  have VB1 : Hid (HV w1 (w.heap.size + 1) [.int .i64 x, .int .i64 y, .int .i64 z]) := VB.out.ext x1
  clear x1 XB RB FB VB
  obtain ⟨v0, v1, v2⟩ := VB1.out.k3
  have vl := VB1.out.1
  go_wp2_with fail
  refine (KV.out _).mono ?_
  rintro e w2 ⟨rfl, x2⟩
  have X2 : Ext w w2 := X1.trans x2
  have RB2 : Hid (HV w2 (w.heap.size + 1 + 1) [.int .i64 0, .int .i64 0, .int .i64 0, .int .i64 0]) := RB1.out.ext x2
  have FB2 : Hid (HV w2 (w.heap.size) [.int .i64 a, .int .i64 b, .int .i64 c, .int .i64 d]) := FB1.out.ext x2
  have VB2 : Hid (HV w2 (w.heap.size + 1) [.int .i64 x, .int .i64 y, .int .i64 z]) := VB1.out.ext x2
  clear x2 X1 RB1 FB1 VB1
  clear v0 v1 v2 vl
  go_wp2_with fail
  refine (HT.out _).mono ?_
  rintro e wx ⟨rfl, hwx⟩; have hwy := hwx.symm; clear hwx; subst hwy
  obtain ⟨v0, v1, v2⟩ := VB2.out.k3
  have vl := VB2.out.1
  go_wp2_with fail
  refine (HA.out _).mono ?_
  rintro e w3 ⟨rfl, x3⟩
  have X3 : Ext w w3 := X2.trans x3
  have RB3 : Hid (HV w3 (w.heap.size + 1 + 1) [.int .i64 0, .int .i64 0, .int .i64 0, .int .i64 0]) := RB2.out.ext x3
  have FB3 : Hid (HV w3 (w.heap.size) [.int .i64 a, .int .i64 b, .int .i64 c, .int .i64 d]) := FB2.out.ext x3
  have VB3 : Hid (HV w3 (w.heap.size + 1) [.int .i64 x, .int .i64 y, .int .i64 z]) := VB2.out.ext x3
  clear x3 X2 RB2 FB2 VB2
  clear v0 v1 v2 vl
  go_wp2_with fail
  refine (HS.out _).mono ?_
  rintro e w4 ⟨rfl, x4⟩
  have X4 : Ext w w4 := (X3.alloc _).trans x4
  have RB4 : Hid (HV w4 (w.heap.size + 1 + 1) [.int .i64 0, .int .i64 0, .int .i64 0, .int .i64 0]) := (RB3.out.alloc _).ext x4
  have FB4 : Hid (HV w4 w.heap.size [.int .i64 a, .int .i64 b, .int .i64 c, .int .i64 d]) := (FB3.out.alloc _).ext x4
  have AB4 : Hid (HV w4 w3.heap.size [.int .i64 A, .int .i64 B, .int .i64 C]) := (hv_at rfl).ext x4
  clear x4 X3 RB3 FB3 VB3
  obtain ⟨q0, q1, q2, q3⟩ := FB4.out.k4
  have ql := FB4.out.1
  obtain ⟨v0, v1, v2⟩ := AB4.out.k3
  have vl := AB4.out.1
  go_wp2_with fail
  refine (HG.out _).mono ?_
  rintro e w5 ⟨rfl, x5⟩
  have X5 : Ext w w5 := X4.trans x5
  obtain ⟨r0, r1, r2, r3⟩ := (RB4.out.ext x5).k4
  obtain ⟨z0, z1, z2, z3⟩ := (RB4.out.ext x5).z4
  have rl := (RB4.out.ext x5).1
  clear x5 X4 RB4 FB4 AB4 q0 q1 q2 q3 ql v0 v1 v2 vl
  go_wp2_with fail
  exact bodyPost_ret (v := .tuple #[.agg #[.int .i64 u0, .int .i64 u1, .int .i64 u2, .int .i64 u3], .int .i64 ue]) (by simp [results, Tryz.results12, go_sem, r0, r1, r2, r3]) rfl ⟨rfl, by repeat (first | with_reducible assumption | with_reducible exact Ext.refl _ | with_reducible refine Ext.drew ?_ | with_reducible refine Ext.drewN ?_ _ | with_reducible refine Ext.alloc ?_ _ | with_reducible refine Ext.set ?_ (by first | exact Nat.le_refl _ | (dsimp only; omega) | (simp; done)) _)⟩
end Go.Proofs.YtmbdcgijjpcppaaGreat

namespace Go.Proofs.YtmbdcgijjpcppaaGreat
open Go.RowKit Go.Shelf
set_option maxRecDepth 20000 in
set_option maxHeartbeats 8000000 in
theorem up_bad (a b c d x y z e0 e1 er : Int) (w : World) (HK : Hid (∀ w', Calls Tryz.prog 14 #[.agg #[.int .i64 a, .int .i64 b, .int .i64 c, .int .i64 d]] w' fun e w'' => e = .returned (.int .i64 e0) ∧ Ext w' w'')) (KV : Hid (∀ w', Calls Tryz.prog 45 #[.agg #[.int .i64 x, .int .i64 y, .int .i64 z]] w' fun e w'' => e = .returned (.int .i64 e1) ∧ Ext w' w'')) (HO : Hid (∀ g w', H2 w' g (.int .i64 e0) (.int .i64 e1) → Calls Tryz.prog 52 #[.slice (some ⟨g, 0, none⟩) 2 2] w' fun e w'' => e = .returned (.int .i64 er) ∧ Ext w' w'')) (her : ¬ er = 0) :
    Calls Tryz.prog 16 #[.agg #[.int .i64 a, .int .i64 b, .int .i64 c, .int .i64 d], .agg #[.int .i64 x, .int .i64 y, .int .i64 z]] w fun e w' => e = .returned (.tuple #[.agg #[.int .i64 0, .int .i64 0, .int .i64 0, .int .i64 0], .int .i64 er]) ∧ Ext w w' := by
  have RB : Hid (HV (((w.alloc (.cells #[.int .i64 a, .int .i64 b, .int .i64 c, .int .i64 d] 26)).alloc (.cells #[.int .i64 x, .int .i64 y, .int .i64 z] 28)).alloc (.cells #[.int .i64 0, .int .i64 0, .int .i64 0, .int .i64 0] 26)) (w.heap.size + 1 + 1) [.int .i64 0, .int .i64 0, .int .i64 0, .int .i64 0]) := hv_at (by simp)
  have FB : Hid (HV (((w.alloc (.cells #[.int .i64 a, .int .i64 b, .int .i64 c, .int .i64 d] 26)).alloc (.cells #[.int .i64 x, .int .i64 y, .int .i64 z] 28)).alloc (.cells #[.int .i64 0, .int .i64 0, .int .i64 0, .int .i64 0] 26)) w.heap.size [.int .i64 a, .int .i64 b, .int .i64 c, .int .i64 d]) := HV.alloc (HV.alloc (hv_at rfl) _) _
  have VB : Hid (HV (((w.alloc (.cells #[.int .i64 a, .int .i64 b, .int .i64 c, .int .i64 d] 26)).alloc (.cells #[.int .i64 x, .int .i64 y, .int .i64 z] 28)).alloc (.cells #[.int .i64 0, .int .i64 0, .int .i64 0, .int .i64 0] 26)) (w.heap.size + 1) [.int .i64 x, .int .i64 y, .int .i64 z]) := HV.alloc (hv_at (by simp)) _
  have XB : Ext w (((w.alloc (.cells #[.int .i64 a, .int .i64 b, .int .i64 c, .int .i64 d] 26)).alloc (.cells #[.int .i64 x, .int .i64 y, .int .i64 z] 28)).alloc (.cells #[.int .i64 0, .int .i64 0, .int .i64 0, .int .i64 0] 26)) := (((Ext.refl _).alloc _).alloc _).alloc _
  have ne1 : w.heap.size ≠ w.heap.size + 1 + 1 := by omega
  have ne2 : w.heap.size + 1 + 1 ≠ w.heap.size := by omega
  have ne3 : w.heap.size + 1 ≠ w.heap.size + 1 + 1 := by omega
  have ne4 : w.heap.size + 1 + 1 ≠ w.heap.size + 1 := by omega
  obtain ⟨q0, q1, q2, q3⟩ := FB.out.k4
  obtain ⟨v0, v1, v2⟩ := VB.out.k3
  have ql := FB.out.1
  have vl := VB.out.1
  go_enter Tryz.func16, Tryz.ntmps16
  go_upto_region 1 with fail
  generalize ((w.alloc (.cells #[.int .i64 a, .int .i64 b, .int .i64 c, .int .i64 d] 26)).alloc (.cells #[.int .i64 x, .int .i64 y, .int .i64 z] 28)).alloc (.cells #[.int .i64 0, .int .i64 0, .int .i64 0, .int .i64 0] 26) = wB at *
  go_region_held (fun w' => w'.cell? ⟨w.heap.size, 0, none⟩ = some (.int .i64 a) ∧ w'.cell? ⟨w.heap.size, 1, none⟩ = some (.int .i64 b) ∧ w'.cell? ⟨w.heap.size, 2, none⟩ = some (.int .i64 c) ∧ w'.cell? ⟨w.heap.size, 3, none⟩ = some (.int .i64 d) ∧ w'.cell? ⟨w.heap.size + 1, 0, none⟩ = some (.int .i64 x) ∧ w'.cell? ⟨w.heap.size + 1, 1, none⟩ = some (.int .i64 y) ∧ w'.cell? ⟨w.heap.size + 1, 2, none⟩ = some (.int .i64 z)) (first | (go_keep; done) | skip) (first | (go_at_call 14; refine (HK.out _).mono ?_; rintro e wk ⟨rfl, xwk⟩; have ywk : Ext wB wk := Ext.trans (by repeat (first | with_reducible assumption | with_reducible exact Ext.refl _ | with_reducible refine Ext.drew ?_ | with_reducible refine Ext.drewN ?_ _ | with_reducible refine Ext.alloc ?_ _ | with_reducible refine Ext.set ?_ (by first | exact Nat.le_refl _ | (dsimp only; omega) | (simp; done)) _)) xwk; obtain ⟨q0, q1, q2, q3⟩ := (FB.out.ext ywk).k4; obtain ⟨v0, v1, v2⟩ := (VB.out.ext ywk).k3; have ql := (FB.out.ext ywk).1; have vl := (VB.out.ext ywk).1) | (go_at_call 45; refine (KV.out _).mono ?_; rintro e wv ⟨rfl, xwv⟩; have ywv : Ext wB wv := Ext.trans (by repeat (first | with_reducible assumption | with_reducible exact Ext.refl _ | with_reducible refine Ext.drew ?_ | with_reducible refine Ext.drewN ?_ _ | with_reducible refine Ext.alloc ?_ _ | with_reducible refine Ext.set ?_ (by first | exact Nat.le_refl _ | (dsimp only; omega) | (simp; done)) _)) xwv; obtain ⟨q0, q1, q2, q3⟩ := (FB.out.ext ywv).k4; obtain ⟨v0, v1, v2⟩ := (VB.out.ext ywv).k3; have ql := (FB.out.ext ywv).1; have vl := (VB.out.ext ywv).1) | (go_at_call 52; refine (HO.out _ _ (by first | with_reducible exact h2_at rfl | with_reducible exact H2.drew (h2_at rfl) | exact h2_at (by simp) | exact H2.drew (h2_at (by simp)))).mono ?_; rintro e wo ⟨rfl, xwo⟩; have ywo : Ext wB wo := Ext.trans (by repeat (first | with_reducible assumption | with_reducible exact Ext.refl _ | with_reducible refine Ext.drew ?_ | with_reducible refine Ext.drewN ?_ _ | with_reducible refine Ext.alloc ?_ _ | with_reducible refine Ext.set ?_ (by first | exact Nat.le_refl _ | (dsimp only; omega) | (simp; done)) _)) xwo; obtain ⟨q0, q1, q2, q3⟩ := (FB.out.ext ywo).k4; obtain ⟨v0, v1, v2⟩ := (VB.out.ext ywo).k3; have ql := (FB.out.ext ywo).1; have vl := (VB.out.ext ywo).1))
  all_goals
    have X1 : Ext w wo := XB.trans ywo
    have RB1 : Hid (HV wo (w.heap.size + 1 + 1) [.int .i64 0, .int .i64 0, .int .i64 0, .int .i64 0]) := RB.out.ext ywo
    have FB1 : Hid (HV wo w.heap.size [.int .i64 a, .int .i64 b, .int .i64 c, .int .i64 d]) := FB.out.ext ywo
    have VB1 : Hid (HV wo (w.heap.size + 1) [.int .i64 x, .int .i64 y, .int .i64 z]) := VB.out.ext ywo
    obtain ⟨r0, r1, r2, r3⟩ := RB1.out.k4
    obtain ⟨z0, z1, z2, z3⟩ := RB1.out.z4
    have rl := RB1.out.1
    go_wp2_with fail
    exact bodyPost_ret (v := .tuple #[.agg #[.int .i64 0, .int .i64 0, .int .i64 0, .int .i64 0], .int .i64 er]) (by simp [results, Tryz.results16, go_sem, r0, r1, r2, r3]) rfl ⟨rfl, by repeat (first | with_reducible assumption | with_reducible exact Ext.refl _ | with_reducible refine Ext.drew ?_ | with_reducible refine Ext.drewN ?_ _ | with_reducible refine Ext.alloc ?_ _ | with_reducible refine Ext.set ?_ (by first | exact Nat.le_refl _ | (dsimp only; omega) | (simp; done)) _)⟩
set_option maxRecDepth 20000 in
set_option maxHeartbeats 8000000 in
theorem up_stays (a b c d x y z e0 e1 : Int) (w : World) (HK : Hid (∀ w', Calls Tryz.prog 14 #[.agg #[.int .i64 a, .int .i64 b, .int .i64 c, .int .i64 d]] w' fun e w'' => e = .returned (.int .i64 e0) ∧ Ext w' w'')) (KV : Hid (∀ w', Calls Tryz.prog 45 #[.agg #[.int .i64 x, .int .i64 y, .int .i64 z]] w' fun e w'' => e = .returned (.int .i64 e1) ∧ Ext w' w'')) (HO : Hid (∀ g w', H2 w' g (.int .i64 e0) (.int .i64 e1) → Calls Tryz.prog 52 #[.slice (some ⟨g, 0, none⟩) 2 2] w' fun e w'' => e = .returned (.int .i64 0) ∧ Ext w' w'')) (HG : Hid (∀ w', Calls Tryz.prog 53 #[.agg #[.int .i64 x, .int .i64 y, .int .i64 z]] w' fun e w'' => e = .returned (.bool false) ∧ Ext w' w'')) :
    Calls Tryz.prog 16 #[.agg #[.int .i64 a, .int .i64 b, .int .i64 c, .int .i64 d], .agg #[.int .i64 x, .int .i64 y, .int .i64 z]] w fun e w' => e = .returned (.tuple #[.agg #[.int .i64 a, .int .i64 b, .int .i64 c, .int .i64 d], .int .i64 0]) ∧ Ext w w' := by
  have RB : Hid (HV (((w.alloc (.cells #[.int .i64 a, .int .i64 b, .int .i64 c, .int .i64 d] 26)).alloc (.cells #[.int .i64 x, .int .i64 y, .int .i64 z] 28)).alloc (.cells #[.int .i64 0, .int .i64 0, .int .i64 0, .int .i64 0] 26)) (w.heap.size + 1 + 1) [.int .i64 0, .int .i64 0, .int .i64 0, .int .i64 0]) := hv_at (by simp)
  have FB : Hid (HV (((w.alloc (.cells #[.int .i64 a, .int .i64 b, .int .i64 c, .int .i64 d] 26)).alloc (.cells #[.int .i64 x, .int .i64 y, .int .i64 z] 28)).alloc (.cells #[.int .i64 0, .int .i64 0, .int .i64 0, .int .i64 0] 26)) w.heap.size [.int .i64 a, .int .i64 b, .int .i64 c, .int .i64 d]) := HV.alloc (HV.alloc (hv_at rfl) _) _
  have VB : Hid (HV (((w.alloc (.cells #[.int .i64 a, .int .i64 b, .int .i64 c, .int .i64 d] 26)).alloc (.cells #[.int .i64 x, .int .i64 y, .int .i64 z] 28)).alloc (.cells #[.int .i64 0, .int .i64 0, .int .i64 0, .int .i64 0] 26)) (w.heap.size + 1) [.int .i64 x, .int .i64 y, .int .i64 z]) := HV.alloc (hv_at (by simp)) _
  have XB : Ext w (((w.alloc (.cells #[.int .i64 a, .int .i64 b, .int .i64 c, .int .i64 d] 26)).alloc (.cells #[.int .i64 x, .int .i64 y, .int .i64 z] 28)).alloc (.cells #[.int .i64 0, .int .i64 0, .int .i64 0, .int .i64 0] 26)) := (((Ext.refl _).alloc _).alloc _).alloc _
  have ne1 : w.heap.size ≠ w.heap.size + 1 + 1 := by omega
  have ne2 : w.heap.size + 1 + 1 ≠ w.heap.size := by omega
  have ne3 : w.heap.size + 1 ≠ w.heap.size + 1 + 1 := by omega
  have ne4 : w.heap.size + 1 + 1 ≠ w.heap.size + 1 := by omega
  obtain ⟨q0, q1, q2, q3⟩ := FB.out.k4
  obtain ⟨v0, v1, v2⟩ := VB.out.k3
  have ql := FB.out.1
  have vl := VB.out.1
  go_enter Tryz.func16, Tryz.ntmps16
  go_upto_region 1 with fail
  generalize ((w.alloc (.cells #[.int .i64 a, .int .i64 b, .int .i64 c, .int .i64 d] 26)).alloc (.cells #[.int .i64 x, .int .i64 y, .int .i64 z] 28)).alloc (.cells #[.int .i64 0, .int .i64 0, .int .i64 0, .int .i64 0] 26) = wB at *
  go_region_held (fun w' => w'.cell? ⟨w.heap.size, 0, none⟩ = some (.int .i64 a) ∧ w'.cell? ⟨w.heap.size, 1, none⟩ = some (.int .i64 b) ∧ w'.cell? ⟨w.heap.size, 2, none⟩ = some (.int .i64 c) ∧ w'.cell? ⟨w.heap.size, 3, none⟩ = some (.int .i64 d) ∧ w'.cell? ⟨w.heap.size + 1, 0, none⟩ = some (.int .i64 x) ∧ w'.cell? ⟨w.heap.size + 1, 1, none⟩ = some (.int .i64 y) ∧ w'.cell? ⟨w.heap.size + 1, 2, none⟩ = some (.int .i64 z)) (first | (go_keep; done) | skip) (first | (go_at_call 14; refine (HK.out _).mono ?_; rintro e wk ⟨rfl, xwk⟩; have ywk : Ext wB wk := Ext.trans (by repeat (first | with_reducible assumption | with_reducible exact Ext.refl _ | with_reducible refine Ext.drew ?_ | with_reducible refine Ext.drewN ?_ _ | with_reducible refine Ext.alloc ?_ _ | with_reducible refine Ext.set ?_ (by first | exact Nat.le_refl _ | (dsimp only; omega) | (simp; done)) _)) xwk; obtain ⟨q0, q1, q2, q3⟩ := (FB.out.ext ywk).k4; obtain ⟨v0, v1, v2⟩ := (VB.out.ext ywk).k3; have ql := (FB.out.ext ywk).1; have vl := (VB.out.ext ywk).1) | (go_at_call 45; refine (KV.out _).mono ?_; rintro e wv ⟨rfl, xwv⟩; have ywv : Ext wB wv := Ext.trans (by repeat (first | with_reducible assumption | with_reducible exact Ext.refl _ | with_reducible refine Ext.drew ?_ | with_reducible refine Ext.drewN ?_ _ | with_reducible refine Ext.alloc ?_ _ | with_reducible refine Ext.set ?_ (by first | exact Nat.le_refl _ | (dsimp only; omega) | (simp; done)) _)) xwv; obtain ⟨q0, q1, q2, q3⟩ := (FB.out.ext ywv).k4; obtain ⟨v0, v1, v2⟩ := (VB.out.ext ywv).k3; have ql := (FB.out.ext ywv).1; have vl := (VB.out.ext ywv).1) | (go_at_call 52; refine (HO.out _ _ (by first | with_reducible exact h2_at rfl | with_reducible exact H2.drew (h2_at rfl) | exact h2_at (by simp) | exact H2.drew (h2_at (by simp)))).mono ?_; rintro e wo ⟨rfl, xwo⟩; have ywo : Ext wB wo := Ext.trans (by repeat (first | with_reducible assumption | with_reducible exact Ext.refl _ | with_reducible refine Ext.drew ?_ | with_reducible refine Ext.drewN ?_ _ | with_reducible refine Ext.alloc ?_ _ | with_reducible refine Ext.set ?_ (by first | exact Nat.le_refl _ | (dsimp only; omega) | (simp; done)) _)) xwo; obtain ⟨q0, q1, q2, q3⟩ := (FB.out.ext ywo).k4; obtain ⟨v0, v1, v2⟩ := (VB.out.ext ywo).k3; have ql := (FB.out.ext ywo).1; have vl := (VB.out.ext ywo).1))
  all_goals
    have X1 : Ext w wo := XB.trans ywo
    have RB1 : Hid (HV wo (w.heap.size + 1 + 1) [.int .i64 0, .int .i64 0, .int .i64 0, .int .i64 0]) := RB.out.ext ywo
    have FB1 : Hid (HV wo w.heap.size [.int .i64 a, .int .i64 b, .int .i64 c, .int .i64 d]) := FB.out.ext ywo
    have VB1 : Hid (HV wo (w.heap.size + 1) [.int .i64 x, .int .i64 y, .int .i64 z]) := VB.out.ext ywo
    go_wp2_with fail
    refine (HG.out _).mono ?_
    rintro e w2 ⟨rfl, x2⟩
    have X2 : Ext w w2 := X1.trans x2
    have RB2 : Hid (HV w2 (w.heap.size + 1 + 1) [.int .i64 0, .int .i64 0, .int .i64 0, .int .i64 0]) := RB1.out.ext x2
    have FB2 : Hid (HV w2 (w.heap.size) [.int .i64 a, .int .i64 b, .int .i64 c, .int .i64 d]) := FB1.out.ext x2
    have VB2 : Hid (HV w2 (w.heap.size + 1) [.int .i64 x, .int .i64 y, .int .i64 z]) := VB1.out.ext x2
    obtain ⟨q0, q1, q2, q3⟩ := FB2.out.k4
    have ql := FB2.out.1
    obtain ⟨r0, r1, r2, r3⟩ := RB2.out.k4
    obtain ⟨z0, z1, z2, z3⟩ := RB2.out.z4
    have rl := RB2.out.1
    go_wp2_with fail
    exact bodyPost_ret (v := .tuple #[.agg #[.int .i64 a, .int .i64 b, .int .i64 c, .int .i64 d], .int .i64 0]) (by simp [results, Tryz.results16, go_sem, r0, r1, r2, r3]) rfl ⟨rfl, by repeat (first | with_reducible assumption | with_reducible exact Ext.refl _ | with_reducible refine Ext.drew ?_ | with_reducible refine Ext.drewN ?_ _ | with_reducible refine Ext.alloc ?_ _ | with_reducible refine Ext.set ?_ (by first | exact Nat.le_refl _ | (dsimp only; omega) | (simp; done)) _)⟩
set_option maxRecDepth 20000 in
set_option maxHeartbeats 8000000 in
theorem up_good (a b c d x y z e0 e1 c0 c1 c2 u0 u1 u2 u3 ue : Int) (w : World) (HK : Hid (∀ w', Calls Tryz.prog 14 #[.agg #[.int .i64 a, .int .i64 b, .int .i64 c, .int .i64 d]] w' fun e w'' => e = .returned (.int .i64 e0) ∧ Ext w' w'')) (KV : Hid (∀ w', Calls Tryz.prog 45 #[.agg #[.int .i64 x, .int .i64 y, .int .i64 z]] w' fun e w'' => e = .returned (.int .i64 e1) ∧ Ext w' w'')) (HO : Hid (∀ g w', H2 w' g (.int .i64 e0) (.int .i64 e1) → Calls Tryz.prog 52 #[.slice (some ⟨g, 0, none⟩) 2 2] w' fun e w'' => e = .returned (.int .i64 0) ∧ Ext w' w'')) (HG : Hid (∀ w', Calls Tryz.prog 53 #[.agg #[.int .i64 x, .int .i64 y, .int .i64 z]] w' fun e w'' => e = .returned (.bool true) ∧ Ext w' w'')) (HC : Hid (∀ w', Calls Tryz.prog 54 #[.agg #[.int .i64 a, .int .i64 b, .int .i64 c, .int .i64 d], .agg #[.int .i64 x, .int .i64 y, .int .i64 z]] w' fun e w'' => e = .returned (.tuple #[.agg #[.int .i64 c0, .int .i64 c1, .int .i64 c2], .int .i64 0]) ∧ Ext w' w'')) (HS : Hid (∀ w', Calls Tryz.prog 49 #[.agg #[.int .i64 a, .int .i64 b, .int .i64 c, .int .i64 d], .agg #[.int .i64 c0, .int .i64 c1, .int .i64 c2], .func (.func 55) #[] #[]] w' fun e w'' => e = .returned (.tuple #[.agg #[.int .i64 u0, .int .i64 u1, .int .i64 u2, .int .i64 u3], .int .i64 ue]) ∧ Ext w' w'')) :
    Calls Tryz.prog 16 #[.agg #[.int .i64 a, .int .i64 b, .int .i64 c, .int .i64 d], .agg #[.int .i64 x, .int .i64 y, .int .i64 z]] w fun e w' => e = .returned (.tuple #[.agg #[.int .i64 u0, .int .i64 u1, .int .i64 u2, .int .i64 u3], .int .i64 ue]) ∧ Ext w w' := by
  have RB : Hid (HV (((w.alloc (.cells #[.int .i64 a, .int .i64 b, .int .i64 c, .int .i64 d] 26)).alloc (.cells #[.int .i64 x, .int .i64 y, .int .i64 z] 28)).alloc (.cells #[.int .i64 0, .int .i64 0, .int .i64 0, .int .i64 0] 26)) (w.heap.size + 1 + 1) [.int .i64 0, .int .i64 0, .int .i64 0, .int .i64 0]) := hv_at (by simp)
  have FB : Hid (HV (((w.alloc (.cells #[.int .i64 a, .int .i64 b, .int .i64 c, .int .i64 d] 26)).alloc (.cells #[.int .i64 x, .int .i64 y, .int .i64 z] 28)).alloc (.cells #[.int .i64 0, .int .i64 0, .int .i64 0, .int .i64 0] 26)) w.heap.size [.int .i64 a, .int .i64 b, .int .i64 c, .int .i64 d]) := HV.alloc (HV.alloc (hv_at rfl) _) _
  have VB : Hid (HV (((w.alloc (.cells #[.int .i64 a, .int .i64 b, .int .i64 c, .int .i64 d] 26)).alloc (.cells #[.int .i64 x, .int .i64 y, .int .i64 z] 28)).alloc (.cells #[.int .i64 0, .int .i64 0, .int .i64 0, .int .i64 0] 26)) (w.heap.size + 1) [.int .i64 x, .int .i64 y, .int .i64 z]) := HV.alloc (hv_at (by simp)) _
  have XB : Ext w (((w.alloc (.cells #[.int .i64 a, .int .i64 b, .int .i64 c, .int .i64 d] 26)).alloc (.cells #[.int .i64 x, .int .i64 y, .int .i64 z] 28)).alloc (.cells #[.int .i64 0, .int .i64 0, .int .i64 0, .int .i64 0] 26)) := (((Ext.refl _).alloc _).alloc _).alloc _
  have ne1 : w.heap.size ≠ w.heap.size + 1 + 1 := by omega
  have ne2 : w.heap.size + 1 + 1 ≠ w.heap.size := by omega
  have ne3 : w.heap.size + 1 ≠ w.heap.size + 1 + 1 := by omega
  have ne4 : w.heap.size + 1 + 1 ≠ w.heap.size + 1 := by omega
  obtain ⟨q0, q1, q2, q3⟩ := FB.out.k4
  obtain ⟨v0, v1, v2⟩ := VB.out.k3
  have ql := FB.out.1
  have vl := VB.out.1
  go_enter Tryz.func16, Tryz.ntmps16
  go_upto_region 1 with fail
  generalize ((w.alloc (.cells #[.int .i64 a, .int .i64 b, .int .i64 c, .int .i64 d] 26)).alloc (.cells #[.int .i64 x, .int .i64 y, .int .i64 z] 28)).alloc (.cells #[.int .i64 0, .int .i64 0, .int .i64 0, .int .i64 0] 26) = wB at *
  go_region_held (fun w' => w'.cell? ⟨w.heap.size, 0, none⟩ = some (.int .i64 a) ∧ w'.cell? ⟨w.heap.size, 1, none⟩ = some (.int .i64 b) ∧ w'.cell? ⟨w.heap.size, 2, none⟩ = some (.int .i64 c) ∧ w'.cell? ⟨w.heap.size, 3, none⟩ = some (.int .i64 d) ∧ w'.cell? ⟨w.heap.size + 1, 0, none⟩ = some (.int .i64 x) ∧ w'.cell? ⟨w.heap.size + 1, 1, none⟩ = some (.int .i64 y) ∧ w'.cell? ⟨w.heap.size + 1, 2, none⟩ = some (.int .i64 z)) (first | (go_keep; done) | skip) (first | (go_at_call 14; refine (HK.out _).mono ?_; rintro e wk ⟨rfl, xwk⟩; have ywk : Ext wB wk := Ext.trans (by repeat (first | with_reducible assumption | with_reducible exact Ext.refl _ | with_reducible refine Ext.drew ?_ | with_reducible refine Ext.drewN ?_ _ | with_reducible refine Ext.alloc ?_ _ | with_reducible refine Ext.set ?_ (by first | exact Nat.le_refl _ | (dsimp only; omega) | (simp; done)) _)) xwk; obtain ⟨q0, q1, q2, q3⟩ := (FB.out.ext ywk).k4; obtain ⟨v0, v1, v2⟩ := (VB.out.ext ywk).k3; have ql := (FB.out.ext ywk).1; have vl := (VB.out.ext ywk).1) | (go_at_call 45; refine (KV.out _).mono ?_; rintro e wv ⟨rfl, xwv⟩; have ywv : Ext wB wv := Ext.trans (by repeat (first | with_reducible assumption | with_reducible exact Ext.refl _ | with_reducible refine Ext.drew ?_ | with_reducible refine Ext.drewN ?_ _ | with_reducible refine Ext.alloc ?_ _ | with_reducible refine Ext.set ?_ (by first | exact Nat.le_refl _ | (dsimp only; omega) | (simp; done)) _)) xwv; obtain ⟨q0, q1, q2, q3⟩ := (FB.out.ext ywv).k4; obtain ⟨v0, v1, v2⟩ := (VB.out.ext ywv).k3; have ql := (FB.out.ext ywv).1; have vl := (VB.out.ext ywv).1) | (go_at_call 52; refine (HO.out _ _ (by first | with_reducible exact h2_at rfl | with_reducible exact H2.drew (h2_at rfl) | exact h2_at (by simp) | exact H2.drew (h2_at (by simp)))).mono ?_; rintro e wo ⟨rfl, xwo⟩; have ywo : Ext wB wo := Ext.trans (by repeat (first | with_reducible assumption | with_reducible exact Ext.refl _ | with_reducible refine Ext.drew ?_ | with_reducible refine Ext.drewN ?_ _ | with_reducible refine Ext.alloc ?_ _ | with_reducible refine Ext.set ?_ (by first | exact Nat.le_refl _ | (dsimp only; omega) | (simp; done)) _)) xwo; obtain ⟨q0, q1, q2, q3⟩ := (FB.out.ext ywo).k4; obtain ⟨v0, v1, v2⟩ := (VB.out.ext ywo).k3; have ql := (FB.out.ext ywo).1; have vl := (VB.out.ext ywo).1))
  all_goals
    have X1 : Ext w wo := XB.trans ywo
    have RB1 : Hid (HV wo (w.heap.size + 1 + 1) [.int .i64 0, .int .i64 0, .int .i64 0, .int .i64 0]) := RB.out.ext ywo
    have FB1 : Hid (HV wo w.heap.size [.int .i64 a, .int .i64 b, .int .i64 c, .int .i64 d]) := FB.out.ext ywo
    have VB1 : Hid (HV wo (w.heap.size + 1) [.int .i64 x, .int .i64 y, .int .i64 z]) := VB.out.ext ywo
    go_wp2_with fail
    refine (HG.out _).mono ?_
    rintro e w2 ⟨rfl, x2⟩
    have X2 : Ext w w2 := X1.trans x2
    have RB2 : Hid (HV w2 (w.heap.size + 1 + 1) [.int .i64 0, .int .i64 0, .int .i64 0, .int .i64 0]) := RB1.out.ext x2
    have FB2 : Hid (HV w2 (w.heap.size) [.int .i64 a, .int .i64 b, .int .i64 c, .int .i64 d]) := FB1.out.ext x2
    have VB2 : Hid (HV w2 (w.heap.size + 1) [.int .i64 x, .int .i64 y, .int .i64 z]) := VB1.out.ext x2
    clear q0 q1 q2 q3 ql v0 v1 v2 vl
    obtain ⟨q0, q1, q2, q3⟩ := FB2.out.k4
    have ql := FB2.out.1
    obtain ⟨v0, v1, v2⟩ := VB2.out.k3
    have vl := VB2.out.1
    go_wp2_with fail
    refine (HC.out _).mono ?_
    rintro e w3 ⟨rfl, x3⟩
    have X3 : Ext w w3 := X2.trans x3
    have RB3 : Hid (HV w3 (w.heap.size + 1 + 1) [.int .i64 0, .int .i64 0, .int .i64 0, .int .i64 0]) := RB2.out.ext x3
    have FB3 : Hid (HV w3 (w.heap.size) [.int .i64 a, .int .i64 b, .int .i64 c, .int .i64 d]) := FB2.out.ext x3
    have VB3 : Hid (HV w3 (w.heap.size + 1) [.int .i64 x, .int .i64 y, .int .i64 z]) := VB2.out.ext x3
    clear q0 q1 q2 q3 ql v0 v1 v2 vl
    obtain ⟨q0, q1, q2, q3⟩ := FB3.out.k4
    have ql := FB3.out.1
    go_wp2_with fail
    refine (HS.out _).mono ?_
    rintro e w4 ⟨rfl, x4⟩
    have X4 : Ext w w4 := (X3.alloc _).trans x4
    have RB4 : Hid (HV w4 (w.heap.size + 1 + 1) [.int .i64 0, .int .i64 0, .int .i64 0, .int .i64 0]) := (RB3.out.alloc _).ext x4
    have FB4 : Hid (HV w4 (w.heap.size) [.int .i64 a, .int .i64 b, .int .i64 c, .int .i64 d]) := (FB3.out.alloc _).ext x4
    obtain ⟨r0, r1, r2, r3⟩ := RB4.out.k4
    obtain ⟨z0, z1, z2, z3⟩ := RB4.out.z4
    have rl := RB4.out.1
    go_wp2_with fail
    exact bodyPost_ret (v := .tuple #[.agg #[.int .i64 u0, .int .i64 u1, .int .i64 u2, .int .i64 u3], .int .i64 ue]) (by simp [results, Tryz.results16, go_sem, r0, r1, r2, r3]) rfl ⟨rfl, by repeat (first | with_reducible assumption | with_reducible exact Ext.refl _ | with_reducible refine Ext.drew ?_ | with_reducible refine Ext.drewN ?_ _ | with_reducible refine Ext.alloc ?_ _ | with_reducible refine Ext.set ?_ (by first | exact Nat.le_refl _ | (dsimp only; omega) | (simp; done)) _)⟩
end Go.Proofs.YtmbdcgijjpcppaaGreat
