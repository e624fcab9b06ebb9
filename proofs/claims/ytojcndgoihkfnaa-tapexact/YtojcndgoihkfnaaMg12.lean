/- vec: sums of three products. Plain numbers: the nearest whole number, halves to even, of numbers with signs. vec: the words of sums of products. -/
import Derived.Test.YtojcndgoihkfnaaMg7
import Derived.Test.YtojcndgoihkfnaaWSm
import Derived.Test.YtojcndgoihkfnaaMg0
namespace Go.Proofs.Ytojcndgoihkfnaa
open Go.RowKit Go.Shelf

theorem word64 {a : Int} (h : okW a = true) : -9223372036854775808 ≤ a ∧ a ≤ 9223372036854775807 := by
  have := okW_bounds h; omega
theorem sum3_any (A B : Nat) (x0 x1 x2 y0 y1 y2 : Int) (w : World) (hA : H3 w A (.int .i64 x0) (.int .i64 x1) (.int .i64 x2)) (hB : H3 w B (.int .i64 y0) (.int .i64 y1) (.int .i64 y2))
    (hx0 : -9223372036854775808 ≤ x0 ∧ x0 ≤ 9223372036854775807) (hx1 : -9223372036854775808 ≤ x1 ∧ x1 ≤ 9223372036854775807) (hx2 : -9223372036854775808 ≤ x2 ∧ x2 ≤ 9223372036854775807) (hy0 : -9223372036854775808 ≤ y0 ∧ y0 ≤ 9223372036854775807) (hy1 : -9223372036854775808 ≤ y1 ∧ y1 ≤ 9223372036854775807) (hy2 : -9223372036854775808 ≤ y2 ∧ y2 ≤ 9223372036854775807) :
    Calls Try.prog 84 #[.slice (some ⟨A, 0, none⟩) 3 3, .slice (some ⟨B, 0, none⟩) 3 3, .func (.func 85) #[] #[]] w fun e w' => (∃ r, e = .returned r ∧ IsW r (x0 * y0 + x1 * y1 + x2 * y2)) ∧ Ext w w' := by
  obtain ⟨c0, c1, c2, f0, f1, f2, hb⟩ := hA
  obtain ⟨d0, d1, d2, g0, g1, g2, hc⟩ := hB
  have h := sum64_raw 3 A B (fun i => if i = 0 then x0 else if i = 1 then x1 else x2) (fun i => if i = 0 then y0 else if i = 1 then y1 else y2) (fun i => if i = 0 then x0 * y0 else if i = 1 then x1 * y1 else x2 * y2) w (by omega) (fun i hi => by
    obtain rfl | rfl | rfl : i = 0 ∨ i = 1 ∨ i = 2 := by omega
    · exact ⟨c0, hb⟩
    · exact ⟨c1, hb⟩
    · exact ⟨c2, hb⟩) (fun i hi => by
    obtain rfl | rfl | rfl : i = 0 ∨ i = 1 ∨ i = 2 := by omega
    · exact ⟨d0, hc⟩
    · exact ⟨d1, hc⟩
    · exact ⟨d2, hc⟩) (fun i w' hi => by
    obtain rfl | rfl | rfl : i = 0 ∨ i = 1 ∨ i = 2 := by omega
    · exact productw_any x0 y0 w' hx0.1 hx0.2 hy0.1 hy0.2
    · exact productw_any x1 y1 w' hx1.1 hx1.2 hy1.1 hy1.2
    · exact productw_any x2 y2 w' hx2.1 hx2.2 hy2.1 hy2.2) (fun u v p q w' hu hv => plus_any p q u v w' hu hv)
  have e : sumTo (fun i => if i = 0 then x0 * y0 else if i = 1 then x1 * y1 else x2 * y2) 3 = x0 * y0 + x1 * y1 + x2 * y2 := by
    simp [sumTo]
  rw [e] at h
  exact h
set_option maxRecDepth 20000 in
set_option maxHeartbeats 4000000 in
theorem sum_raw (a0 a1 a2 b0 b1 b2 z : Int) (w : World)
    (HS : Hid (∀ A B w', H3 w' A (.int .i64 a0) (.int .i64 a1) (.int .i64 a2) → H3 w' B (.int .i64 b0) (.int .i64 b1) (.int .i64 b2) → Calls Try.prog 84 #[.slice (some ⟨A, 0, none⟩) 3 3, .slice (some ⟨B, 0, none⟩) 3 3, .func (.func 85) #[] #[]] w' fun e w'' => (∃ r, e = .returned r ∧ IsW r z) ∧ Ext w' w'')) :
    Calls Try.prog 57 #[.agg #[.int .i64 a0, .int .i64 a1, .int .i64 a2], .agg #[.int .i64 b0, .int .i64 b1, .int .i64 b2]] w fun e w' => (∃ r, e = .returned r ∧ IsW r z) ∧ Ext w w' := by
  go_enter Try.func57, Try.ntmps57
  go_wp2_with fail
  go_region_with (go_at_call 84; refine (HS.out _ _ _ (H3.drew (H3.alloc (H3.alloc (h3_at rfl) _) _)) (H3.drew (H3.alloc (h3_at (by simp)) _))).mono ?_; rintro e w1 ⟨⟨u, rfl, m0, m1, m2, rfl, hr⟩, x1⟩; have HRr : Hid _ := hr; clear hr; obtain ⟨c0, c1, c2, c3, c4, c5, c6⟩ : H3 w1 (w.heap.size + 1 + 1) (.int .u64 0) (.int .u64 0) (.int .u64 0) := (H3.drew (h3_at (by simp))).ext x1; have X1 : Ext w w1 := Ext.trans (by repeat (first | with_reducible assumption | with_reducible exact Ext.refl _ | with_reducible refine Ext.drew ?_ | with_reducible refine Ext.drewN ?_ _ | with_reducible refine Ext.alloc ?_ _ | with_reducible refine Ext.set ?_ (by first | exact Nat.le_refl _ | (dsimp only; omega) | (simp; done)) _)) x1; clear x1)
  all_goals
    go_wp2_with fail
    exact bodyPost_ret (v := .agg #[.int .u64 m0, .int .u64 m1, .int .u64 m2]) (by simp [results, Try.results57, go_sem, c0, c1, c2]) rfl ⟨⟨_, rfl, _, _, _, rfl, HRr.out⟩, by repeat (first | with_reducible assumption | with_reducible exact Ext.refl _ | with_reducible refine Ext.drew ?_ | with_reducible refine Ext.drewN ?_ _ | with_reducible refine Ext.alloc ?_ _ | with_reducible refine Ext.set ?_ (by first | exact Nat.le_refl _ | (dsimp only; omega) | (simp; done)) _)⟩
theorem sum_any (a0 a1 a2 b0 b1 b2 : Int) (w : World) (h0 : okW a0 = true) (h1 : okW a1 = true) (h2 : okW a2 = true) (k0 : okW b0 = true) (k1 : okW b1 = true) (k2 : okW b2 = true) :
    Calls Try.prog 57 #[.agg #[.int .i64 a0, .int .i64 a1, .int .i64 a2], .agg #[.int .i64 b0, .int .i64 b1, .int .i64 b2]] w fun e w' => (∃ r, e = .returned r ∧ IsW r (a0 * b0 + a1 * b1 + a2 * b2)) ∧ Ext w w' :=
  sum_raw a0 a1 a2 b0 b1 b2 _ w (fun A B w' hA hB => sum3_any A B a0 a1 a2 b0 b1 b2 w' hA hB (word64 h0) (word64 h1) (word64 h2) (word64 k0) (word64 k1) (word64 k2))
end Go.Proofs.Ytojcndgoihkfnaa

namespace Go.Proofs.Ytojcndgoihkfnaa
open Go.RowKit

/-- z is the nearest whole number to n / d, halves to even -/
def IsNear (n d z : Int) : Prop := -d ≤ 2 * (n - z * d) ∧ 2 * (n - z * d) ≤ d ∧ ((2 * (n - z * d) = d ∨ 2 * (n - z * d) = -d) → z % 2 = 0)
theorem IsNear.unique {n d z z' : Int} (hd : 0 < d) (h : IsNear n d z) (h' : IsNear n d z') : z = z' := by
  obtain ⟨a1, a2, a3⟩ := h
  obtain ⟨b1, b2, b3⟩ := h'
  rcases Int.lt_trichotomy z z' with hl | he | hl
  · exfalso
    have h1 : (z + 1) * d ≤ z' * d := Int.mul_le_mul_of_nonneg_right (by omega) (by omega)
    rw [Int.add_mul, Int.one_mul] at h1
    have e : z' * d = z * d + d := by omega
    have c1 := a3 (by omega)
    have c2 := b3 (by omega)
    have e2 : (z' - (z + 1)) * d = 0 := by rw [Int.sub_mul, Int.add_mul]; omega
    rcases Int.mul_eq_zero.1 e2 with h | h <;> omega
  · exact he
  · exfalso
    have h1 : (z' + 1) * d ≤ z * d := Int.mul_le_mul_of_nonneg_right (by omega) (by omega)
    rw [Int.add_mul, Int.one_mul] at h1
    have e : z * d = z' * d + d := by omega
    have c1 := a3 (by omega)
    have c2 := b3 (by omega)
    have e2 : (z - (z' + 1)) * d = 0 := by rw [Int.sub_mul, Int.add_mul]; omega
    rcases Int.mul_eq_zero.1 e2 with h | h <;> omega
theorem IsNear.neg {n d z : Int} (h : IsNear n d z) : IsNear (-n) d (-z) := by
  obtain ⟨a1, a2, a3⟩ := h
  have e : 2 * (-n - -z * d) = -(2 * (n - z * d)) := by rw [Int.neg_mul]; omega
  unfold IsNear
  rw [e]
  exact ⟨by omega, by omega, fun h => by have := a3 (by omega); omega⟩
theorem IsNear.scale {n d z g : Int} (hg : 0 < g) (h : IsNear n d z) : IsNear (g * n) (g * d) z := by
  obtain ⟨a1, a2, a3⟩ := h
  have e : 2 * (g * n - z * (g * d)) = g * (2 * (n - z * d)) := by rw [Int.mul_left_comm z, ← Int.mul_sub, Int.mul_left_comm]
  unfold IsNear
  rw [e]
  refine ⟨?_, Int.mul_le_mul_of_nonneg_left a2 (by omega), fun h => a3 ?_⟩
  · rw [← Int.mul_neg]; exact Int.mul_le_mul_of_nonneg_left a1 (by omega)
  · rw [← Int.mul_neg] at h
    rcases h with h | h
    · exact .inl (Int.eq_of_mul_eq_mul_left (by omega) h)
    · exact .inr (Int.eq_of_mul_eq_mul_left (by omega) h)
/-- the way that the reference goes -/
def nearI (n d : Int) : Int :=
  if 2 * (n * 2 / d / 2) = n * 2 / d then n * 2 / d / 2
  else if n * 2 % d = 0 ∧ 2 * (n * 2 / d / 2 / 2) = n * 2 / d / 2 then n * 2 / d / 2
  else n * 2 / d / 2 + 1
theorem nearI_spec (n d : Int) (hd : 0 < d) : IsNear n d (nearI n d) := by
  have h := Int.emod_add_mul_ediv (n * 2) d
  have h1 := Int.emod_nonneg (n * 2) (show d ≠ 0 by omega)
  have h2 := Int.emod_lt_of_pos (n * 2) hd
  unfold nearI
  generalize n * 2 % d = r at *
  generalize n * 2 / d = q at *
  have hq : q = 2 * (q / 2) ∨ q = 2 * (q / 2) + 1 := by omega
  generalize q / 2 = k at *
  split
  · rename_i e
    unfold IsNear
    have e2 : d * q = 2 * (k * d) := by rw [← e, Int.mul_left_comm, Int.mul_comm d k]
    exact ⟨by omega, by omega, fun hh => by omega⟩
  · have e : q = 2 * k + 1 := by omega
    have e2 : d * q = 2 * (k * d) + d := by rw [e, Int.mul_add, Int.mul_left_comm, Int.mul_comm d k, Int.mul_one]
    split
    · rename_i hh
      unfold IsNear
      exact ⟨by omega, by omega, fun _ => by omega⟩
    · rename_i hh
      have e3 : (k + 1) * d = k * d + d := by rw [Int.add_mul, Int.one_mul]
      unfold IsNear
      rw [e3]
      refine ⟨by omega, by omega, fun h5 => ?_⟩
      have hr : r = 0 := by omega
      have : ¬ 2 * (k / 2) = k := fun h6 => hh ⟨hr, h6⟩
      omega
theorem near_isNear (n d : Nat) (hd : 0 < d) : IsNear (n : Int) (d : Int) (Num.near n d : Int) := by
  have h := Nat.mod_add_div n d
  have h2 := Nat.mod_lt n hd
  unfold Num.near
  generalize n % d = r at *
  generalize n / d = q at *
  have h' : (n : Int) = (r : Int) + (q : Int) * (d : Int) := by rw [← h, Int.natCast_add, Int.natCast_mul, Int.mul_comm (d : Int)]
  have e3 : ((q : Int) + 1) * (d : Int) = (q : Int) * (d : Int) + (d : Int) := by rw [Int.add_mul, Int.one_mul]
  unfold IsNear
  split
  · rw [Int.natCast_add, Int.natCast_one, e3]
    exact ⟨by omega, by omega, fun hh => by omega⟩
  · split
    · split
      · rw [Int.natCast_add, Int.natCast_one, e3]
        exact ⟨by omega, by omega, fun hh => by omega⟩
      · exact ⟨by omega, by omega, fun hh => by omega⟩
    · exact ⟨by omega, by omega, fun hh => by omega⟩
theorem near_ge (n d : Nat) : n / d ≤ Num.near n d := by
  unfold Num.near
  split
  · omega
  · split
    · split <;> omega
    · omega
def over (x d : Int) : Int := if d < 0 then -x else x
theorem signed_over (a b d : Int) : over (a * b) d = signed (neg3 a b d) ((a.natAbs * b.natAbs : Nat) : Int) := by
  have ha : a = signed (decide (a < 0)) (a.natAbs : Int) := by unfold signed; split <;> rename_i h <;> simp at h <;> omega
  have hb : b = signed (decide (b < 0)) (b.natAbs : Int) := by unfold signed; split <;> rename_i h <;> simp at h <;> omega
  have e : a * b = signed (decide (a < 0) != decide (b < 0)) ((a.natAbs * b.natAbs : Nat) : Int) := by
    rw [Int.natCast_mul]
    conv => lhs; rw [ha, hb]
    unfold signed
    cases decide (a < 0) <;> cases decide (b < 0) <;> simp [Int.mul_neg, Int.neg_mul]
  unfold over neg3
  rw [e]
  by_cases h : d < 0
  · rw [if_pos h, decide_eq_true h]
    cases (decide (a < 0) != decide (b < 0)) <;> simp [signed]
  · rw [if_neg h, decide_eq_false h]
    cases (decide (a < 0) != decide (b < 0)) <;> simp [signed]
theorem share_word (a b d z : Int) (hd : d ≠ 0) (hz : IsNear (over (a * b) d) (d.natAbs : Int) z) : shareR a b d = if okW z then (z, 0) else (0, 2) := by
  have hD : 0 < d.natAbs := by omega
  have hn := near_isNear (a.natAbs * b.natAbs) d.natAbs hD
  have hs : IsNear (over (a * b) d) (d.natAbs : Int) (signed (neg3 a b d) (Num.near (a.natAbs * b.natAbs) d.natAbs : Int)) := by
    rw [signed_over]
    cases neg3 a b d
    · exact hn
    · exact hn.neg
  have e := hz.unique (by omega) hs
  have h0 : (d == 0) = false := beq_eq_false_iff_ne.2 hd
  unfold shareR
  rw [h0, if_neg (by simp)]
  have hge := near_ge (a.natAbs * b.natAbs) d.natAbs
  unfold mag nearW
  split
  · rename_i hbig
    have k1 : okW ((35184372088832 : Nat) : Int) = false := by decide
    have k2 : okW z = false := by
      rw [e]
      unfold okW signed
      split <;> simp <;> omega
    rw [k1, k2]
    simp
  · have k : okW z = okW ((Num.near (a.natAbs * b.natAbs) d.natAbs : Nat) : Int) := by
      rw [e, Bool.eq_iff_iff]
      unfold okW signed
      split <;> simp <;> omega
    rw [k, ← e]
theorem over_pos (x d : Int) (h : 0 < d) : over x d = x := by unfold over; rw [if_neg (by omega)]
end Go.Proofs.Ytojcndgoihkfnaa

namespace Go.Proofs.Ytojcndgoihkfnaa
open Go.RowKit Go.Shelf

theorem prod_abs {a b : Int} (h : okW a = true) (k : okW b = true) : -1237940039285380274899124224 < a * b ∧ a * b < 1237940039285380274899124224 := by
  have := okW_bounds h
  have := okW_bounds k
  have e := Int.natAbs_mul a b
  have h1 : a.natAbs * b.natAbs ≤ 35184372088831 * 35184372088831 := Nat.mul_le_mul (by omega) (by omega)
  omega
/-- the sum of products -/
def dot3 (a0 a1 a2 b0 b1 b2 : Int) : Int := a0 * b0 + a1 * b1 + a2 * b2
theorem nearQ_spec (z : Int) : IsNear z 1073741824 (nearQ z) := by
  unfold IsNear nearQ oddQ
  omega
theorem nearQ_I (z : Int) : nearQ z = nearI z 1073741824 := (nearQ_spec z).unique (by omega) (nearI_spec z _ (by omega))

end Go.Proofs.Ytojcndgoihkfnaa
