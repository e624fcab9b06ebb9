/- Plain numbers: signs, words, shifts and roots of numbers of three limbs. The library's contracts of math/bits.LeadingZeros64 and Mul64, at this program. wide: Of, Plus, Minus, Neg, Times, Product: limb by limb. -/
import Derived.Test.YtojcndgoihkfnaaMg0
import Derived.Shelf.Small.Bits
import Derived.Shelf.Bits.Mul64
import Derived.Test.YtojcndgoihkfnaaProg
import Derived.Shelf.Spec.BitsCarry
import Derived.BigRegion
namespace Go.Proofs.Ytojcndgoihkfnaa

/-- it fits into 192 bits -/
def InW (z : Int) : Prop := -3138550867693340381917894711603833208051177722232017256448 ≤ z ∧ z < 3138550867693340381917894711603833208051177722232017256448
theorem limbs_eq (z : Int) : z = l0 z + 18446744073709551616 * (l1 z + 18446744073709551616 * (l2 z + 18446744073709551616 * (z / 18446744073709551616 / 18446744073709551616 / 18446744073709551616))) := by
  rw [l0_cast, l1_cast, l2_cast]
  omega
theorem inW_top {z : Int} (h : InW z) : z / 18446744073709551616 / 18446744073709551616 / 18446744073709551616 = if 9223372036854775808 ≤ l2 z then -1 else 0 := by
  obtain ⟨h1, h2⟩ := h
  have e := limbs_eq z
  have b0 := l0_lt z
  have b1 := l1_lt z
  have b2 := l2_lt z
  generalize l0 z = x at *
  generalize l1 z = y at *
  generalize l2 z = v at *
  generalize z / 18446744073709551616 / 18446744073709551616 / 18446744073709551616 = q at *
  split <;> omega
theorem limbs_inj {a b : Int} (ha : InW a) (hb : InW b) (h0 : l0 a = l0 b) (h1 : l1 a = l1 b) (h2 : l2 a = l2 b) : a = b := by
  rw [limbs_eq a, limbs_eq b, inW_top ha, inW_top hb, h0, h1, h2]
theorem sign_neg {z : Int} (h : InW z) : 9223372036854775808 ≤ l2 z ↔ z < 0 := by
  have t := inW_top h
  have b := l2_lt z
  have e := limbs_eq z
  have b0 := l0_lt z
  have b1 := l1_lt z
  constructor
  · intro hh
    rw [if_pos hh] at t
    rw [t] at e
    generalize l0 z = x at *
    generalize l1 z = y at *
    generalize l2 z = v at *
    omega
  · intro hz
    apply Decidable.byContradiction
    intro hh
    rw [if_neg hh] at t
    rw [t] at e
    generalize l0 z = x at *
    generalize l1 z = y at *
    generalize l2 z = v at *
    omega
theorem zero_limbs : l0 0 = 0 ∧ l1 0 = 0 ∧ l2 0 = 0 := by decide
theorem inW_small {z : Int} (h1 : -9223372036854775808 ≤ z) (h2 : z ≤ 9223372036854775807) : InW z := by unfold InW; omega
theorem zero_iff {z : Int} (h : InW z) : (l0 z = 0 ∧ l1 z = 0 ∧ l2 z = 0) ↔ z = 0 := by
  constructor
  · rintro ⟨a, b, c⟩
    exact limbs_inj h (inW_small (by omega) (by omega)) (a.trans zero_limbs.1.symm) (b.trans zero_limbs.2.1.symm) (c.trans zero_limbs.2.2.symm)
  · rintro rfl; exact zero_limbs
theorem of_neg {v : Int} (h1 : -9223372036854775808 ≤ v) (h : v < 0) : l1 v = 18446744073709551615 ∧ l2 v = 18446744073709551615 := by
  unfold l1 l2; omega
theorem of_pos {v : Int} (h1 : v ≤ 9223372036854775807) (h : 0 ≤ v) : l1 v = 0 ∧ l2 v = 0 := by
  unfold l1 l2; omega
/-- the lowest limb as a number with a sign -/
def low (z : Int) : Int := if (l0 z : Int) < 9223372036854775808 then (l0 z : Int) else (l0 z : Int) - 18446744073709551616
theorem low_bounds (z : Int) : -9223372036854775808 ≤ low z ∧ low z ≤ 9223372036854775807 := by
  have := l0_lt z; unfold low; split <;> omega
theorem low_self {z : Int} (h1 : -9223372036854775808 ≤ z) (h2 : z ≤ 9223372036854775807) : low z = z := by
  have e := l0_cast z; unfold low; split <;> omega
theorem low_limbs {z : Int} (hz : InW z) (h0 : l0 (low z) = l0 z) (h1 : l1 (low z) = l1 z) (h2 : l2 (low z) = l2 z) : low z = z :=
  limbs_inj (inW_small (low_bounds z).1 (low_bounds z).2) hz h0 h1 h2
theorem low_l0 (z : Int) : l0 (low z) = l0 z := by
  have := l0_lt z
  have e : (l0 (low z) : Int) = l0 z := by rw [l0_cast]; unfold low; split <;> omega
  omega

/-- a / 2^30, limb by limb -/
theorem down0 (z : Int) : l0 z / 1073741824 + l1 z * 17179869184 % 18446744073709551616 = l0 (z / 1073741824) := by
  apply Int.ofNat.inj; show ((_ : Nat) : Int) = ((_ : Nat) : Int)
  have a := l0_cast z
  have b := l1_cast z
  have c := l0_cast (z / 1073741824)
  omega
theorem div_swap (z : Int) : z / 1073741824 / 18446744073709551616 = z / 18446744073709551616 / 1073741824 := by omega
theorem down1 (z : Int) : l1 z / 1073741824 + l2 z * 17179869184 % 18446744073709551616 = l1 (z / 1073741824) := by
  have h := down0 (z / 18446744073709551616)
  have e0 : l0 (z / 18446744073709551616) = l1 z := rfl
  have e1 : l1 (z / 18446744073709551616) = l2 z := rfl
  have e2 : l0 (z / 18446744073709551616 / 1073741824) = l1 (z / 1073741824) := by unfold l0 l1; rw [div_swap]
  rw [e0, e1, e2] at h
  exact h
/-- the highest limb as a number with a sign, shifted -/
def high (z : Int) : Int := if (l2 z : Int) < 9223372036854775808 then (l2 z : Int) else (l2 z : Int) - 18446744073709551616
theorem high_bounds (z : Int) : -9223372036854775808 ≤ high z ∧ high z ≤ 9223372036854775807 := by
  have := l2_lt z; unfold high; split <;> omega
theorem high_eq {z : Int} (h : InW z) : high z = z / 18446744073709551616 / 18446744073709551616 := by
  have t := inW_top h
  have e := l2_cast z
  unfold high
  split at t <;> split <;> omega
theorem down2 {z : Int} (h : InW z) : (high z / 1073741824) % 18446744073709551616 = (l2 (z / 1073741824) : Int) := by
  rw [high_eq h, l2_cast, div_swap, div_swap]
end Go.Proofs.Ytojcndgoihkfnaa

namespace Go.Proofs.Ytojcndgoihkfnaa
open Go.Shelf
def lays264_ren : Go.Shelf.Ren := ⟨fun | 264 => 102 | n => n, fun | 53 => 59 | 46 => 43 | n => n, fun | n => n⟩
theorem lays264 : Go.Proofs.Lays.n264 Try.prog lays264_ren := {
  mixed := by kernel_rfl
  f264 := Try.func102.trans (congrArg some (by kernel_rfl))
  t46 := Try.underlying43
  a46 := Try.isAgg43
  z46 := Try.sizeOf43
  v46 := Try.zeroValue43
  t53 := Try.underlying59
  a53 := Try.isAgg59
  z53 := Try.sizeOf59
  v53 := Try.zeroValue59 }
theorem mul64_any (x y : Nat) (hx : x < 18446744073709551616) (hy : y < 18446744073709551616) (w : World) :
    Calls Try.prog 102 #[.int .u64 x, .int .u64 y] w fun e w' => e = .returned (.tuple #[.int .u64 ((x * y / 18446744073709551616 : Nat) : Int), .int .u64 ((x * y % 18446744073709551616 : Nat) : Int)]) ∧ w' = w := Any.bits_Mul64 lays264 x y hx hy w
end Go.Proofs.Ytojcndgoihkfnaa

namespace Go.Proofs.Ytojcndgoihkfnaa
open Go.RowKit Go.Shelf

def lays25_ren : Go.Shelf.Ren := ⟨fun | 25 => 103 | n => n, fun | 22 => 59 | n => n, fun | n => n⟩
theorem lays25 : Go.Proofs.Lays7.n25 Try.prog lays25_ren := {
  mixed := by kernel_rfl
  f25 := Try.func103.trans (congrArg some (by kernel_rfl))
  t22 := Try.underlying59
  a22 := Try.isAgg59
  z22 := Try.sizeOf59
  v22 := Try.zeroValue59
  i22 := by kernel_rfl }
theorem add64_run (x y c : Nat) (hc : c ≤ 1) (w : World) : (callFunc 103 #[.int .u64 x, .int .u64 y, .int .u64 c]).run Try.prog w = .ok (.value (.tuple #[.int .u64 (((x + y + c) % 18446744073709551616 : Nat) : Int), .int .u64 (((x + y + c) / 18446744073709551616 : Nat) : Int)])) w := Any7.bits_Add64 lays25 x y c hc w
def lays26_ren : Go.Shelf.Ren := ⟨fun | 26 => 101 | n => n, fun | 22 => 59 | n => n, fun | n => n⟩
theorem lays26 : Go.Proofs.Lays7.n26 Try.prog lays26_ren := {
  mixed := by kernel_rfl
  f26 := Try.func101.trans (congrArg some (by kernel_rfl))
  t22 := Try.underlying59
  a22 := Try.isAgg59
  z22 := Try.sizeOf59
  v22 := Try.zeroValue59
  i22 := by kernel_rfl }
theorem sub64_run (x y c : Nat) (hc : c ≤ 1) (w : World) : (callFunc 101 #[.int .u64 x, .int .u64 y, .int .u64 c]).run Try.prog w = .ok (.value (.tuple #[.int .u64 (((x + 18446744073709551616 - y - c) % 18446744073709551616 : Nat) : Int), .int .u64 ((borw x y c : Nat) : Int)])) w := Any7.bits_Sub64 lays26 x y c hc w


/-- v is the number z, modulo 2^192 -/
def IsW (v : Value) (z : Int) : Prop := ∃ x y t : Int, v = .agg #[.int .u64 x, .int .u64 y, .int .u64 t] ∧ x = l0 z ∧ y = l1 z ∧ t = l2 z
theorem IsW.mk (z : Int) : IsW (.agg #[.int .u64 (l0 z : Int), .int .u64 (l1 z : Int), .int .u64 (l2 z : Int)]) z := ⟨_, _, _, rfl, rfl, rfl, rfl⟩
theorem isW_of {x y t z : Int} (h0 : x = l0 z) (h1 : y = l1 z) (h2 : t = l2 z) : IsW (.agg #[.int .u64 x, .int .u64 y, .int .u64 t]) z := ⟨_, _, _, rfl, h0, h1, h2⟩

set_option maxHeartbeats 2000000 in
theorem plus_raw (a0 a1 a2 b0 b1 b2 s0 s1 s2 c0 c1 c2 : Int) (w : World)
    (h0 : ∀ w, (callFunc 103 #[.int .u64 a0, .int .u64 b0, .int .u64 0]).run Try.prog w = .ok (.value (.tuple #[.int .u64 s0, .int .u64 c0])) w)
    (h1 : ∀ w, (callFunc 103 #[.int .u64 a1, .int .u64 b1, .int .u64 c0]).run Try.prog w = .ok (.value (.tuple #[.int .u64 s1, .int .u64 c1])) w)
    (h2 : ∀ w, (callFunc 103 #[.int .u64 a2, .int .u64 b2, .int .u64 c1]).run Try.prog w = .ok (.value (.tuple #[.int .u64 s2, .int .u64 c2])) w) :
    Calls Try.prog 104 #[.agg #[.int .u64 a0, .int .u64 a1, .int .u64 a2], .agg #[.int .u64 b0, .int .u64 b1, .int .u64 b2]] w fun e w' => e = .returned (.agg #[.int .u64 s0, .int .u64 s1, .int .u64 s2]) ∧ Ext w w' := by
  go_enter Try.func104, Try.ntmps104
  go_wp2_with fail
  refine wp_loop_rounds 4 ?_
  rw [rounds_succ]
  go_wp2_with fail
  go_region
  go_wp2_with fail
  rw [rounds_succ]
  go_wp2_with fail
  go_region
  go_wp2_with fail
  rw [rounds_succ]
  go_wp2_with fail
  go_region
  go_wp2_with fail
  rw [rounds_succ]
  go_wp2_with fail
  exact bodyPost_ret (v := .agg #[.int .u64 s0, .int .u64 s1, .int .u64 s2]) (by simp [results, Try.results104, go_sem]) rfl ⟨rfl, by repeat (first | with_reducible assumption | with_reducible exact Ext.refl _ | with_reducible refine Ext.drew ?_ | with_reducible refine Ext.drewN ?_ _ | with_reducible refine Ext.alloc ?_ _ | with_reducible refine Ext.set ?_ (by first | exact Nat.le_refl _ | simp | (simp; omega)) _)⟩

theorem plus_any (a b : Int) (u v : Value) (w : World) (hu : IsW u a) (hv : IsW v b) :
    Calls Try.prog 104 #[u, v] w fun e w' => (∃ r, e = .returned r ∧ IsW r (a + b)) ∧ Ext w w' := by
  obtain ⟨x0, x1, x2, rfl, rfl, rfl, rfl⟩ := hu
  obtain ⟨y0, y1, y2, rfl, rfl, rfl, rfl⟩ := hv
  have e := plus_limbs a b
  have k0 : (l0 a + l0 b + 0) / 18446744073709551616 ≤ 1 := by have := l0_lt a; have := l0_lt b; omega
  have k1 : (l1 a + l1 b + (l0 a + l0 b + 0) / 18446744073709551616) / 18446744073709551616 ≤ 1 := by have := l1_lt a; have := l1_lt b; omega
  refine (plus_raw _ _ _ _ _ _ _ _ _ _ _ _ w (fun w => add64_run (l0 a) (l0 b) 0 (by omega) w) (fun w => add64_run (l1 a) (l1 b) _ k0 w) (fun w => add64_run (l2 a) (l2 b) _ k1 w)).mono ?_
  rintro r w1 ⟨rfl, x1⟩
  exact ⟨⟨_, rfl, isW_of (congrArg Int.ofNat e.1) (congrArg Int.ofNat e.2.1) (congrArg Int.ofNat e.2.2)⟩, x1⟩

set_option maxHeartbeats 2000000 in
theorem minus_raw (a0 a1 a2 b0 b1 b2 s0 s1 s2 c0 c1 c2 : Int) (w : World)
    (h0 : ∀ w, (callFunc 101 #[.int .u64 a0, .int .u64 b0, .int .u64 0]).run Try.prog w = .ok (.value (.tuple #[.int .u64 s0, .int .u64 c0])) w)
    (h1 : ∀ w, (callFunc 101 #[.int .u64 a1, .int .u64 b1, .int .u64 c0]).run Try.prog w = .ok (.value (.tuple #[.int .u64 s1, .int .u64 c1])) w)
    (h2 : ∀ w, (callFunc 101 #[.int .u64 a2, .int .u64 b2, .int .u64 c1]).run Try.prog w = .ok (.value (.tuple #[.int .u64 s2, .int .u64 c2])) w) :
    Calls Try.prog 80 #[.agg #[.int .u64 a0, .int .u64 a1, .int .u64 a2], .agg #[.int .u64 b0, .int .u64 b1, .int .u64 b2]] w fun e w' => e = .returned (.agg #[.int .u64 s0, .int .u64 s1, .int .u64 s2]) ∧ Ext w w' := by
  go_enter Try.func80, Try.ntmps80
  go_wp2_with fail
  refine wp_loop_rounds 4 ?_
  rw [rounds_succ]
  go_wp2_with fail
  go_region
  go_wp2_with fail
  rw [rounds_succ]
  go_wp2_with fail
  go_region
  go_wp2_with fail
  rw [rounds_succ]
  go_wp2_with fail
  go_region
  go_wp2_with fail
  rw [rounds_succ]
  go_wp2_with fail
  exact bodyPost_ret (v := .agg #[.int .u64 s0, .int .u64 s1, .int .u64 s2]) (by simp [results, Try.results80, go_sem]) rfl ⟨rfl, by repeat (first | with_reducible assumption | with_reducible exact Ext.refl _ | with_reducible refine Ext.drew ?_ | with_reducible refine Ext.drewN ?_ _ | with_reducible refine Ext.alloc ?_ _ | with_reducible refine Ext.set ?_ (by first | exact Nat.le_refl _ | simp | (simp; omega)) _)⟩

theorem borw_le (x y c : Nat) : borw x y c ≤ 1 := by unfold borw; split <;> omega
theorem minus_any (a b : Int) (u v : Value) (w : World) (hu : IsW u a) (hv : IsW v b) :
    Calls Try.prog 80 #[u, v] w fun e w' => (∃ r, e = .returned r ∧ IsW r (a - b)) ∧ Ext w w' := by
  obtain ⟨x0, x1, x2, rfl, rfl, rfl, rfl⟩ := hu
  obtain ⟨y0, y1, y2, rfl, rfl, rfl, rfl⟩ := hv
  have e := minus_limbs a b
  refine (minus_raw _ _ _ _ _ _ _ _ _ _ _ _ w (fun w => sub64_run (l0 a) (l0 b) 0 (by omega) w) (fun w => sub64_run (l1 a) (l1 b) _ (borw_le _ _ _) w) (fun w => sub64_run (l2 a) (l2 b) _ (borw_le _ _ _) w)).mono ?_
  rintro r w1 ⟨rfl, x1⟩
  exact ⟨⟨_, rfl, isW_of (congrArg Int.ofNat e.1) (congrArg Int.ofNat e.2.1) (congrArg Int.ofNat e.2.2)⟩, x1⟩

set_option maxHeartbeats 2000000 in
theorem negw_any (a : Int) (u : Value) (w : World) (hu : IsW u a) :
    Calls Try.prog 106 #[u] w fun e w' => (∃ r, e = .returned r ∧ IsW r (-a)) ∧ Ext w w' := by
  have HM : Hid (∀ v w', v = u → Calls Try.prog 80 #[.agg #[.int .u64 0, .int .u64 0, .int .u64 0], v] w' fun e w'' => (∃ r, e = .returned r ∧ IsW r (-a)) ∧ Ext w' w'') := by
    rintro v w' rfl
    have h := minus_any 0 a _ _ w' (isW_of rfl rfl rfl) hu
    rw [Int.zero_sub] at h
    exact h
  obtain ⟨x0, x1, x2, rfl, h⟩ := hu
  clear h
  go_enter Try.func106, Try.ntmps106
  go_wp2_with fail
  refine (HM.out _ _ rfl).mono ?_
  rintro e w1 ⟨⟨r, rfl, y0, y1, y2, rfl, hr⟩, k1⟩
  have HR : Hid _ := hr
  clear hr
  have X1 : Ext w w1 := Ext.trans (((Ext.refl _).alloc _).alloc _) k1
  obtain ⟨c0, c1, c2, f0, f1, f2, hz⟩ : H3 w1 (w.heap.size + 1) _ _ _ := (h3_at (by simp)).ext k1
  clear k1
  go_wp2_with fail
  exact bodyPost_ret (v := .agg #[.int .u64 y0, .int .u64 y1, .int .u64 y2]) (by simp [results, Try.results106, go_sem, c0, c1, c2]) rfl ⟨⟨_, rfl, _, _, _, rfl, HR.out⟩, by repeat (first | with_reducible assumption | with_reducible exact Ext.refl _ | with_reducible refine Ext.drew ?_ | with_reducible refine Ext.drewN ?_ _ | with_reducible refine Ext.alloc ?_ _ | with_reducible refine Ext.set ?_ (by first | exact Nat.le_refl _ | simp | (simp; omega)) _)⟩
end Go.Proofs.Ytojcndgoihkfnaa
