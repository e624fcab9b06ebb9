/- Plain numbers: signs, words, shifts and roots of numbers of three limbs. The library's contracts of math/bits.LeadingZeros64 and Mul64, at this program. wide: Of, Plus, Minus, Neg, Times, Product: limb by limb. wide: Of, Times, By, Product. -/
import Derived.Test.YtoeecldhbabmbaaGreatMg0
import Derived.Shelf.Small.Bits
import Derived.Shelf.Bits.Mul64
import Derived.Test.YtoeecldhbabmbaaGreatProg
import Derived.Shelf.Spec.BitsCarry
import Derived.BigRegion
open Go.Value renaming int → J, agg → zG
open Go.IntKind renaming i64 → zq, u64 → zu
open Go.Ending renaming returned → zR
open Go.Proofs.Tryz renaming prog → zP
namespace Go.Proofs.YtoeecldhbabmbaaGreat
def InW (z : Int) : Prop := -3138550867693340381917894711603833208051177722232017256448 ≤ z ∧ z < 3138550867693340381917894711603833208051177722232017256448
theorem limbs_eq (z : Int) : z = l0 z + 18446744073709551616 * (l1 z + 18446744073709551616 * (l2 z + 18446744073709551616 * (z / 18446744073709551616 / 18446744073709551616 / 18446744073709551616))) := by
  rw [l0_cast, l1_cast, l2_cast]
  omega
theorem inW_top {z : Int} (h : InW z) : z / 18446744073709551616 / 18446744073709551616 / 18446744073709551616 = if 9223372036854775808 ≤ l2 z then -1 else 0 := by
  obtain ⟨h1, h2⟩ := h
  have e := limbs_eq z
  have b0 := l0_lt z
  have b1 := l1_lt z
  have b2 := l2_lt z
  generalize l0 z = x at *
  generalize l1 z = y at *
  generalize l2 z = v at *
  generalize z / 18446744073709551616 / 18446744073709551616 / 18446744073709551616 = q at *
  split <;> omega
theorem limbs_inj {a b : Int} (ha : InW a) (hb : InW b) (h0 : l0 a = l0 b) (h1 : l1 a = l1 b) (h2 : l2 a = l2 b) : a = b := by
  rw [limbs_eq a, limbs_eq b, inW_top ha, inW_top hb, h0, h1, h2]
theorem sign_neg {z : Int} (h : InW z) : 9223372036854775808 ≤ l2 z ↔ z < 0 := by
  have t := inW_top h
  have b := l2_lt z
  have e := limbs_eq z
  have b0 := l0_lt z
  have b1 := l1_lt z
  constructor
  · intro hh
    rw [if_pos hh] at t
    rw [t] at e
    generalize l0 z = x at *
    generalize l1 z = y at *
    generalize l2 z = v at *
    omega
  · intro hz
    apply Decidable.byContradiction
    intro hh
    rw [if_neg hh] at t
    rw [t] at e
    generalize l0 z = x at *
    generalize l1 z = y at *
    generalize l2 z = v at *
    omega
theorem zero_limbs : l0 0 = 0 ∧ l1 0 = 0 ∧ l2 0 = 0 := by decide
theorem inW_small {z : Int} (h1 : -9223372036854775808 ≤ z) (h2 : z ≤ 9223372036854775807) : InW z := by unfold InW; omega
theorem zero_iff {z : Int} (h : InW z) : (l0 z = 0 ∧ l1 z = 0 ∧ l2 z = 0) ↔ z = 0 := by
  constructor
  · rintro ⟨a, b, c⟩
    exact limbs_inj h (inW_small (by omega) (by omega)) (a.trans zero_limbs.1.symm) (b.trans zero_limbs.2.1.symm) (c.trans zero_limbs.2.2.symm)
  · rintro rfl; exact zero_limbs
def low (z : Int) : Int := if (l0 z : Int) < 9223372036854775808 then (l0 z : Int) else (l0 z : Int) - 18446744073709551616
theorem low_bounds (z : Int) : -9223372036854775808 ≤ low z ∧ low z ≤ 9223372036854775807 := by
  have := l0_lt z; unfold low; split <;> omega
theorem low_self {z : Int} (h1 : -9223372036854775808 ≤ z) (h2 : z ≤ 9223372036854775807) : low z = z := by
  have e := l0_cast z; unfold low; split <;> omega
theorem low_limbs {z : Int} (hz : InW z) (h0 : l0 (low z) = l0 z) (h1 : l1 (low z) = l1 z) (h2 : l2 (low z) = l2 z) : low z = z :=
  limbs_inj (inW_small (low_bounds z).1 (low_bounds z).2) hz h0 h1 h2
theorem down0 (z : Int) : l0 z / 1073741824 + l1 z * 17179869184 % 18446744073709551616 = l0 (z / 1073741824) := by
  apply Int.ofNat.inj; show ((_ : Nat) : Int) = ((_ : Nat) : Int)
  have a := l0_cast z
  have b := l1_cast z
  have c := l0_cast (z / 1073741824)
  omega
theorem div_swap (z : Int) : z / 1073741824 / 18446744073709551616 = z / 18446744073709551616 / 1073741824 := by omega
theorem down1 (z : Int) : l1 z / 1073741824 + l2 z * 17179869184 % 18446744073709551616 = l1 (z / 1073741824) := by
  have h := down0 (z / 18446744073709551616)
  have e0 : l0 (z / 18446744073709551616) = l1 z := rfl
  have e1 : l1 (z / 18446744073709551616) = l2 z := rfl
  have e2 : l0 (z / 18446744073709551616 / 1073741824) = l1 (z / 1073741824) := by unfold l0 l1; rw [div_swap]
  rw [e0, e1, e2] at h
  exact h
def high (z : Int) : Int := if (l2 z : Int) < 9223372036854775808 then (l2 z : Int) else (l2 z : Int) - 18446744073709551616
theorem high_eq {z : Int} (h : InW z) : high z = z / 18446744073709551616 / 18446744073709551616 := by
  have t := inW_top h
  have e := l2_cast z
  unfold high
  split at t <;> split <;> omega
theorem down2 {z : Int} (h : InW z) : (high z / 1073741824) % 18446744073709551616 = (l2 (z / 1073741824) : Int) := by
  rw [high_eq h, l2_cast, div_swap, div_swap]
open Go.Shelf
def lays134_ren : Go.Shelf.Ren := ⟨fun | 134 => 182 | 129 => 184 | n => n, fun | 53 => 90 | 3 => 3 | 4 => 4 | 46 => 165 | 5 => 5 | 9 => 9 | n => n, fun | n => n⟩
theorem lays134 : Go.Proofs.Lays.n134 zP lays134_ren := {
  mixed := by kernel_rfl
  f129 := Tryz.func184.trans (congrArg some (by kernel_rfl))
  f134 := Tryz.func182.trans (congrArg some (by kernel_rfl))
  t3 := Tryz.underlying3
  a3 := Tryz.isAgg3
  z3 := Tryz.sizeOf3
  v3 := Tryz.zeroValue3
  t4 := Tryz.underlying4
  a4 := Tryz.isAgg4
  z4 := Tryz.sizeOf4
  v4 := Tryz.zeroValue4
  t5 := Tryz.underlying5
  a5 := Tryz.isAgg5
  z5 := Tryz.sizeOf5
  v5 := Tryz.zeroValue5
  t9 := Tryz.underlying9
  a9 := Tryz.isAgg9
  z9 := Tryz.sizeOf9
  v9 := Tryz.zeroValue9
  t46 := Tryz.underlying165
  a46 := Tryz.isAgg165
  z46 := Tryz.sizeOf165
  v46 := Tryz.zeroValue165
  t53 := Tryz.underlying90
  a53 := Tryz.isAgg90
  z53 := Tryz.sizeOf90
  v53 := Tryz.zeroValue90 }
theorem lz64_any (x : Int) (w : World) (h0 : 0 ≤ x) (h1 : x ≤ 18446744073709551615) :
    Calls zP 182 #[J zu x] w fun e w' => e = zR (J zq (64 - (Lib.bitLen x.toNat : Int))) ∧ w' = w := Any.bits_LeadingZeros64 lays134 x w h0 h1
def lays264_ren : Go.Shelf.Ren := ⟨fun | 264 => 170 | n => n, fun | 53 => 90 | 46 => 165 | n => n, fun | n => n⟩
theorem lays264 : Go.Proofs.Lays.n264 zP lays264_ren := {
  mixed := by kernel_rfl
  f264 := Tryz.func170.trans (congrArg some (by kernel_rfl))
  t46 := Tryz.underlying165
  a46 := Tryz.isAgg165
  z46 := Tryz.sizeOf165
  v46 := Tryz.zeroValue165
  t53 := Tryz.underlying90
  a53 := Tryz.isAgg90
  z53 := Tryz.sizeOf90
  v53 := Tryz.zeroValue90 }
theorem mul64_any (x y : Nat) (hx : x < 18446744073709551616) (hy : y < 18446744073709551616) (w : World) :
    Calls zP 170 #[J zu x, J zu y] w fun e w' => e = zR (.tuple #[J zu ((x * y / 18446744073709551616 : Nat) : Int), J zu ((x * y % 18446744073709551616 : Nat) : Int)]) ∧ w' = w := Any.bits_Mul64 lays264 x y hx hy w
open Go.RowKit
def lays25_ren : Go.Shelf.Ren := ⟨fun | 25 => 181 | n => n, fun | 22 => 90 | n => n, fun | n => n⟩
theorem lays25 : Go.Proofs.Lays7.n25 zP lays25_ren := {
  mixed := by kernel_rfl
  f25 := Tryz.func181.trans (congrArg some (by kernel_rfl))
  t22 := Tryz.underlying90
  a22 := Tryz.isAgg90
  z22 := Tryz.sizeOf90
  v22 := Tryz.zeroValue90
  i22 := by kernel_rfl }
theorem add64_run (x y c : Nat) (hc : c ≤ 1) (w : World) : (callFunc 181 #[J zu x, J zu y, J zu c]).run zP w = .ok (.value (.tuple #[J zu (((x + y + c) % 18446744073709551616 : Nat) : Int), J zu (((x + y + c) / 18446744073709551616 : Nat) : Int)])) w := Any7.bits_Add64 lays25 x y c hc w
def lays26_ren : Go.Shelf.Ren := ⟨fun | 26 => 183 | n => n, fun | 22 => 90 | n => n, fun | n => n⟩
theorem lays26 : Go.Proofs.Lays7.n26 zP lays26_ren := {
  mixed := by kernel_rfl
  f26 := Tryz.func183.trans (congrArg some (by kernel_rfl))
  t22 := Tryz.underlying90
  a22 := Tryz.isAgg90
  z22 := Tryz.sizeOf90
  v22 := Tryz.zeroValue90
  i22 := by kernel_rfl }
theorem sub64_run (x y c : Nat) (hc : c ≤ 1) (w : World) : (callFunc 183 #[J zu x, J zu y, J zu c]).run zP w = .ok (.value (.tuple #[J zu (((x + 18446744073709551616 - y - c) % 18446744073709551616 : Nat) : Int), J zu ((borw x y c : Nat) : Int)])) w := Any7.bits_Sub64 lays26 x y c hc w
def IsW (v : Value) (z : Int) : Prop := ∃ x y t : Int, v = zG #[J zu x, J zu y, J zu t] ∧ x = l0 z ∧ y = l1 z ∧ t = l2 z
theorem IsW.mk (z : Int) : IsW (zG #[J zu (l0 z : Int), J zu (l1 z : Int), J zu (l2 z : Int)]) z := ⟨_, _, _, rfl, rfl, rfl, rfl⟩
theorem isW_of {x y t z : Int} (h0 : x = l0 z) (h1 : y = l1 z) (h2 : t = l2 z) : IsW (zG #[J zu x, J zu y, J zu t]) z := ⟨_, _, _, rfl, h0, h1, h2⟩
set_option maxHeartbeats 2000000 in
theorem plus_raw (a0 a1 a2 b0 b1 b2 s0 s1 s2 c0 c1 c2 : Int) (w : World)
    (h0 : ∀ w, (callFunc 181 #[J zu a0, J zu b0, J zu 0]).run zP w = .ok (.value (.tuple #[J zu s0, J zu c0])) w)
    (h1 : ∀ w, (callFunc 181 #[J zu a1, J zu b1, J zu c0]).run zP w = .ok (.value (.tuple #[J zu s1, J zu c1])) w)
    (h2 : ∀ w, (callFunc 181 #[J zu a2, J zu b2, J zu c1]).run zP w = .ok (.value (.tuple #[J zu s2, J zu c2])) w) :
    Calls zP 176 #[zG #[J zu a0, J zu a1, J zu a2], zG #[J zu b0, J zu b1, J zu b2]] w fun e w' => e = zR (zG #[J zu s0, J zu s1, J zu s2]) ∧ Ext w w' := by
  go_enter Tryz.func176, Tryz.ntmps176
  go_wp2_with fail
  refine wp_loop_rounds 4 ?_
  rw [rounds_succ]
  go_wp2_with fail
  go_region
  go_wp2_with fail
  rw [rounds_succ]
  go_wp2_with fail
  go_region
  go_wp2_with fail
  rw [rounds_succ]
  go_wp2_with fail
  go_region
  go_wp2_with fail
  rw [rounds_succ]
  go_wp2_with fail
  exact bodyPost_ret (v := zG #[J zu s0, J zu s1, J zu s2]) (by simp [results, Tryz.results176, go_sem]) rfl ⟨rfl, by repeat (first | with_reducible assumption | with_reducible exact Ext.refl _ | with_reducible refine Ext.drew ?_ | with_reducible refine Ext.drewN ?_ _ | with_reducible refine Ext.alloc ?_ _ | with_reducible refine Ext.set ?_ (by first | exact Nat.le_refl _ | simp | (simp; omega)) _)⟩
theorem plus_any (a b : Int) (u v : Value) (w : World) (hu : IsW u a) (hv : IsW v b) :
    Calls zP 176 #[u, v] w fun e w' => (∃ r, e = zR r ∧ IsW r (a + b)) ∧ Ext w w' := by
  obtain ⟨x0, x1, x2, rfl, rfl, rfl, rfl⟩ := hu
  obtain ⟨y0, y1, y2, rfl, rfl, rfl, rfl⟩ := hv
  have e := plus_limbs a b
  have k0 : (l0 a + l0 b + 0) / 18446744073709551616 ≤ 1 := by have := l0_lt a; have := l0_lt b; omega
  have k1 : (l1 a + l1 b + (l0 a + l0 b + 0) / 18446744073709551616) / 18446744073709551616 ≤ 1 := by have := l1_lt a; have := l1_lt b; omega
  refine (plus_raw _ _ _ _ _ _ _ _ _ _ _ _ w (fun w => add64_run (l0 a) (l0 b) 0 (by omega) w) (fun w => add64_run (l1 a) (l1 b) _ k0 w) (fun w => add64_run (l2 a) (l2 b) _ k1 w)).mono ?_
  rintro r w1 ⟨rfl, x1⟩
  exact ⟨⟨_, rfl, isW_of (congrArg Int.ofNat e.1) (congrArg Int.ofNat e.2.1) (congrArg Int.ofNat e.2.2)⟩, x1⟩
set_option maxHeartbeats 2000000 in
theorem minus_raw (a0 a1 a2 b0 b1 b2 s0 s1 s2 c0 c1 c2 : Int) (w : World)
    (h0 : ∀ w, (callFunc 183 #[J zu a0, J zu b0, J zu 0]).run zP w = .ok (.value (.tuple #[J zu s0, J zu c0])) w)
    (h1 : ∀ w, (callFunc 183 #[J zu a1, J zu b1, J zu c0]).run zP w = .ok (.value (.tuple #[J zu s1, J zu c1])) w)
    (h2 : ∀ w, (callFunc 183 #[J zu a2, J zu b2, J zu c1]).run zP w = .ok (.value (.tuple #[J zu s2, J zu c2])) w) :
    Calls zP 173 #[zG #[J zu a0, J zu a1, J zu a2], zG #[J zu b0, J zu b1, J zu b2]] w fun e w' => e = zR (zG #[J zu s0, J zu s1, J zu s2]) ∧ Ext w w' := by
  go_enter Tryz.func173, Tryz.ntmps173
  go_wp2_with fail
  refine wp_loop_rounds 4 ?_
  rw [rounds_succ]
  go_wp2_with fail
  go_region
  go_wp2_with fail
  rw [rounds_succ]
  go_wp2_with fail
  go_region
  go_wp2_with fail
  rw [rounds_succ]
  go_wp2_with fail
  go_region
  go_wp2_with fail
  rw [rounds_succ]
  go_wp2_with fail
  exact bodyPost_ret (v := zG #[J zu s0, J zu s1, J zu s2]) (by simp [results, Tryz.results173, go_sem]) rfl ⟨rfl, by repeat (first | with_reducible assumption | with_reducible exact Ext.refl _ | with_reducible refine Ext.drew ?_ | with_reducible refine Ext.drewN ?_ _ | with_reducible refine Ext.alloc ?_ _ | with_reducible refine Ext.set ?_ (by first | exact Nat.le_refl _ | simp | (simp; omega)) _)⟩
theorem borw_le (x y c : Nat) : borw x y c ≤ 1 := by unfold borw; split <;> omega
theorem minus_any (a b : Int) (u v : Value) (w : World) (hu : IsW u a) (hv : IsW v b) :
    Calls zP 173 #[u, v] w fun e w' => (∃ r, e = zR r ∧ IsW r (a - b)) ∧ Ext w w' := by
  obtain ⟨x0, x1, x2, rfl, rfl, rfl, rfl⟩ := hu
  obtain ⟨y0, y1, y2, rfl, rfl, rfl, rfl⟩ := hv
  have e := minus_limbs a b
  refine (minus_raw _ _ _ _ _ _ _ _ _ _ _ _ w (fun w => sub64_run (l0 a) (l0 b) 0 (by omega) w) (fun w => sub64_run (l1 a) (l1 b) _ (borw_le _ _ _) w) (fun w => sub64_run (l2 a) (l2 b) _ (borw_le _ _ _) w)).mono ?_
  rintro r w1 ⟨rfl, x1⟩
  exact ⟨⟨_, rfl, isW_of (congrArg Int.ofNat e.1) (congrArg Int.ofNat e.2.1) (congrArg Int.ofNat e.2.2)⟩, x1⟩
set_option maxHeartbeats 2000000 in
theorem negw_any (a : Int) (u : Value) (w : World) (hu : IsW u a) :
    Calls zP 168 #[u] w fun e w' => (∃ r, e = zR r ∧ IsW r (-a)) ∧ Ext w w' := by
  have HM : Hid (∀ v w', v = u → Calls zP 173 #[zG #[J zu 0, J zu 0, J zu 0], v] w' fun e w'' => (∃ r, e = zR r ∧ IsW r (-a)) ∧ Ext w' w'') := by
    rintro v w' rfl
    have h := minus_any 0 a _ _ w' (isW_of rfl rfl rfl) hu
    rw [Int.zero_sub] at h
    exact h
  obtain ⟨x0, x1, x2, rfl, h⟩ := hu
  clear h
  go_enter Tryz.func168, Tryz.ntmps168
  go_wp2_with fail
  refine (HM.out _ _ rfl).mono ?_
  rintro e w1 ⟨⟨r, rfl, y0, y1, y2, rfl, hr⟩, k1⟩
  have HR : Hid _ := hr
  clear hr
  have X1 : Ext w w1 := Ext.trans (((Ext.refl _).alloc _).alloc _) k1
  obtain ⟨c0, c1, c2, f0, f1, f2, hz⟩ : H3 w1 (w.heap.size + 1) _ _ _ := (h3_at (by simp)).ext k1
  clear k1
  go_wp2_with fail
  exact bodyPost_ret (v := zG #[J zu y0, J zu y1, J zu y2]) (by simp [results, Tryz.results168, go_sem, c0, c1, c2]) rfl ⟨⟨_, rfl, _, _, _, rfl, HR.out⟩, by repeat (first | with_reducible assumption | with_reducible exact Ext.refl _ | with_reducible refine Ext.drew ?_ | with_reducible refine Ext.drewN ?_ _ | with_reducible refine Ext.alloc ?_ _ | with_reducible refine Ext.set ?_ (by first | exact Nat.le_refl _ | simp | (simp; omega)) _)⟩
theorem of_l0 (v : Int) : IntKind.u64.wrap v = (l0 v : Int) := by rw [IntKind.wrap_u64, l0_cast]
theorem of_hi (v : Int) (h1 : -9223372036854775808 ≤ v) (h2 : v ≤ 9223372036854775807) : IntKind.u64.wrap (v / 9223372036854775808) = (l1 v : Int) ∧ IntKind.u64.wrap (v / 9223372036854775808) = (l2 v : Int) := by
  rw [IntKind.wrap_u64, l1_cast, l2_cast]
  by_cases h : v < 0 <;> omega
set_option maxHeartbeats 2000000 in
theorem ofw_any (v : Int) (w : World) (h1 : -9223372036854775808 ≤ v) (h2 : v ≤ 9223372036854775807) :
    Calls zP 144 #[J zq v] w fun e w' => (∃ r, e = zR r ∧ IsW r v) ∧ Ext w w' := by
  go_enter Tryz.func144, Tryz.ntmps144
  go_wp2_with fail
  exact bodyPost_ret (v := zG #[J zu (IntKind.u64.wrap v), J zu (IntKind.u64.wrap (v / 9223372036854775808)), J zu (IntKind.u64.wrap (v / 9223372036854775808))]) (by simp [results, Tryz.results144, go_sem]) rfl ⟨⟨_, rfl, isW_of (of_l0 v) (of_hi v h1 h2).1 (of_hi v h1 h2).2⟩, by repeat (first | with_reducible assumption | with_reducible exact Ext.refl _ | with_reducible refine Ext.drew ?_ | with_reducible refine Ext.drewN ?_ _ | with_reducible refine Ext.alloc ?_ _ | with_reducible refine Ext.set ?_ (by first | exact Nat.le_refl _ | simp | (simp; omega)) _)⟩
set_option maxHeartbeats 2000000 in
theorem times_raw (a0 a1 a2 k p0 q0 p1 q1 p2 q2 s0 s1 s2 o0 o1 o2 : Int) (w : World)
    (M0 : Hid (∀ w, Calls zP 170 #[J zu a0, J zu k] w fun e w' => e = zR (.tuple #[J zu p0, J zu q0]) ∧ w' = w))
    (M1 : Hid (∀ w, Calls zP 170 #[J zu a1, J zu k] w fun e w' => e = zR (.tuple #[J zu p1, J zu q1]) ∧ w' = w))
    (M2 : Hid (∀ w, Calls zP 170 #[J zu a2, J zu k] w fun e w' => e = zR (.tuple #[J zu p2, J zu q2]) ∧ w' = w))
    (h0 : ∀ w, (callFunc 181 #[J zu q0, J zu 0, J zu 0]).run zP w = .ok (.value (.tuple #[J zu s0, J zu o0])) w)
    (h1 : ∀ w, (callFunc 181 #[J zu q1, J zu (IntKind.u64.wrap (p0 + o0)), J zu 0]).run zP w = .ok (.value (.tuple #[J zu s1, J zu o1])) w)
    (h2 : ∀ w, (callFunc 181 #[J zu q2, J zu (IntKind.u64.wrap (p1 + o1)), J zu 0]).run zP w = .ok (.value (.tuple #[J zu s2, J zu o2])) w) :
    Calls zP 167 #[zG #[J zu a0, J zu a1, J zu a2], J zu k] w fun e w' => e = zR (zG #[J zu s0, J zu s1, J zu s2]) ∧ Ext w w' := by
  go_enter Tryz.func167, Tryz.ntmps167
  go_wp2_with fail
  refine wp_loop_rounds 4 ?_
  rw [rounds_succ]
  go_wp2_with fail
  refine (M0.out _).mono ?_
  rintro e wx ⟨rfl, hwx⟩
  have hwy := hwx.symm
  clear hwx
  subst hwy
  go_wp2_with fail
  rw [rounds_succ]
  go_wp2_with fail
  refine (M1.out _).mono ?_
  rintro e wx ⟨rfl, hwx⟩
  have hwy := hwx.symm
  clear hwx
  subst hwy
  go_wp2_with fail
  rw [rounds_succ]
  go_wp2_with fail
  refine (M2.out _).mono ?_
  rintro e wx ⟨rfl, hwx⟩
  have hwy := hwx.symm
  clear hwx
  subst hwy
  go_wp2_with fail
  rw [rounds_succ]
  go_wp2_with fail
  exact bodyPost_ret (v := zG #[J zu s0, J zu s1, J zu s2]) (by simp [results, Tryz.results167, go_sem]) rfl ⟨rfl, by repeat (first | with_reducible assumption | with_reducible exact Ext.refl _ | with_reducible refine Ext.drew ?_ | with_reducible refine Ext.drewN ?_ _ | with_reducible refine Ext.alloc ?_ _ | with_reducible refine Ext.set ?_ (by first | exact Nat.le_refl _ | simp | (simp; omega)) _)⟩
theorem wrap_mc (x k c : Nat) (hx : x < 18446744073709551616) (hk : k < 18446744073709551616) (hc : c < 18446744073709551616) :
    IntKind.u64.wrap (((x * k / 18446744073709551616 : Nat) : Int) + (((x * k % 18446744073709551616 + c + 0) / 18446744073709551616 : Nat) : Int)) = ((mc x k c : Nat) : Int) := by
  have h := (mc_parts x k c).2
  have hl := mc_lt x k c hx hk hc
  rw [← Int.natCast_add, h, IntKind.wrap_u64]
  omega
theorem timesw_any (a : Int) (k : Nat) (u : Value) (w : World) (hu : IsW u a) (hk : k < 18446744073709551616) :
    Calls zP 167 #[u, J zu (k : Int)] w fun e w' => (∃ r, e = zR r ∧ IsW r (a * k)) ∧ Ext w w' := by
  obtain ⟨x0, x1, x2, rfl, rfl, rfl, rfl⟩ := hu
  have b0 := l0_lt a
  have b1 := l1_lt a
  have b2 := l2_lt a
  have e := times_limbs a k
  have m0 := mc_lt (l0 a) k 0 b0 hk (by omega)
  have m1 := mc_lt (l1 a) k _ b1 hk m0
  have w0 := wrap_mc (l0 a) k 0 b0 hk (by omega)
  have w1 := wrap_mc (l1 a) k _ b1 hk m0
  have A0 := fun w => add64_run (l0 a * k % 18446744073709551616) 0 0 (by omega) w
  have A1 := fun w => add64_run (l1 a * k % 18446744073709551616) (mc (l0 a) k 0) 0 (by omega) w
  have A2 := fun w => add64_run (l2 a * k % 18446744073709551616) (mc (l1 a) k (mc (l0 a) k 0)) 0 (by omega) w
  rw [← w0] at A1
  rw [← w1] at A2
  refine (times_raw _ _ _ _ _ _ _ _ _ _ _ _ _ _ _ _ w (fun w => mul64_any (l0 a) k b0 hk w) (fun w => mul64_any (l1 a) k b1 hk w) (fun w => mul64_any (l2 a) k b2 hk w) A0 A1 A2).mono ?_
  rintro r w1 ⟨rfl, x1⟩
  refine ⟨⟨_, rfl, isW_of (congrArg Int.ofNat ?_) (congrArg Int.ofNat ?_) (congrArg Int.ofNat ?_)⟩, x1⟩
  · exact (mc_parts _ _ _).1.trans e.1
  · exact (mc_parts _ _ _).1.trans e.2.1
  · exact (mc_parts _ _ _).1.trans e.2.2
theorem neg_size (b : Int) (h1 : -9223372036854775808 ≤ b) (h : b < 0) : IntKind.u64.wrap (wrap64 (-b)) = ((b.natAbs : Nat) : Int) := by
  rw [IntKind.wrap_u64]; unfold wrap64; omega
set_option maxHeartbeats 2000000 in
theorem byw_any (a b : Int) (u : Value) (w : World) (hu : IsW u a) (k1 : -9223372036854775808 ≤ b) (k2 : b ≤ 9223372036854775807) :
    Calls zP 155 #[u, J zq b] w fun e w' => (∃ r, e = zR r ∧ IsW r (a * b)) ∧ Ext w w' := by
  have HT : ∀ w, Calls zP 167 #[u, J zu ((b.natAbs : Nat) : Int)] w fun e w' => (∃ r, e = zR r ∧ IsW r (a * (b.natAbs : Nat))) ∧ Ext w w' := fun w => timesw_any a b.natAbs u w hu (by omega)
  by_cases hb : b < 0
  · have HN : Hid (∀ u w, IsW u (a * (b.natAbs : Nat)) → Calls zP 168 #[u] w fun e w' => (∃ r, e = zR r ∧ IsW r (a * b)) ∧ Ext w w') := by
      intro u w hu
      have h := negw_any _ u w hu
      have e : -(a * (b.natAbs : Nat)) = a * b := by
        rw [← Int.mul_neg]; congr 1; omega
      rw [e] at h
      exact h
    have HT2 : Hid (∀ w, Calls zP 167 #[u, J zu (IntKind.u64.wrap (wrap64 (-b)))] w fun e w' => (∃ r, e = zR r ∧ IsW r (a * (b.natAbs : Nat))) ∧ Ext w w') := by
      intro w
      rw [neg_size b k1 hb]
      exact HT w
    obtain ⟨a0, a1, a2, rfl, ha⟩ := hu
    clear ha k1 k2 HT
    go_enter Tryz.func155, Tryz.ntmps155
    go_wp2_with fail
    refine (HT2.out _).mono ?_
    rintro e w2 ⟨⟨u2, rfl, hu2⟩, x2⟩
    go_wp2_with fail
    refine (HN.out _ _ hu2).mono ?_
    rintro e w3 ⟨⟨u3, rfl, y0, y1, y2, rfl, hr⟩, x3⟩
    have X3 := x2.trans x3
    have HR : Hid _ := hr
    clear hr
    have X4 : Ext w w3 := Ext.trans xa X3
    obtain ⟨c0, c1, c2, f0, f1, f2, hz⟩ : H3 w3 (w.heap.size + 1) _ _ _ := (h3_at (by simp)).ext X3
    clear x2 x3 X3 hu2
    go_wp2_with fail
    exact bodyPost_ret (v := zG #[J zu y0, J zu y1, J zu y2]) (by simp [results, Tryz.results155, go_sem, c0, c1, c2]) rfl ⟨⟨_, rfl, _, _, _, rfl, HR.out⟩, xa⟩
  · have HT2 : Hid (∀ w, Calls zP 167 #[u, J zu b] w fun e w' => (∃ r, e = zR r ∧ IsW r (a * b)) ∧ Ext w w') := by
      intro w
      have h := HT w
      have e : ((b.natAbs : Nat) : Int) = b := by omega
      rw [e] at h
      exact h
    have hb' : 0 ≤ b := by omega
    obtain ⟨a0, a1, a2, rfl, ha⟩ := hu
    clear ha k1 HT
    go_enter Tryz.func155, Tryz.ntmps155
    go_wp2_with fail
    refine (HT2.out _).mono ?_
    rintro e w3 ⟨⟨u3, rfl, y0, y1, y2, rfl, hr⟩, X3⟩
    have HR : Hid _ := hr
    clear hr
    have X4 : Ext w w3 := Ext.trans xa X3
    obtain ⟨c0, c1, c2, f0, f1, f2, hz⟩ : H3 w3 (w.heap.size + 1) _ _ _ := (h3_at (by simp)).ext X3
    clear X3
    go_wp2_with fail
    exact bodyPost_ret (v := zG #[J zu y0, J zu y1, J zu y2]) (by simp [results, Tryz.results155, go_sem, c0, c1, c2]) rfl ⟨⟨_, rfl, _, _, _, rfl, HR.out⟩, xa⟩
set_option maxHeartbeats 2000000 in
theorem productw_any (a b : Int) (w : World) (h1 : -9223372036854775808 ≤ a) (h2 : a ≤ 9223372036854775807) (k1 : -9223372036854775808 ≤ b) (k2 : b ≤ 9223372036854775807) :
    Calls zP 116 #[J zq a, J zq b] w fun e w' => (∃ r, e = zR r ∧ IsW r (a * b)) ∧ Ext w w' := by
  have HO : Hid (∀ w, Calls zP 144 #[J zq a] w fun e w' => (∃ r, e = zR r ∧ IsW r a) ∧ Ext w w') := fun w => ofw_any a w h1 h2
  have HB : Hid (∀ u w, IsW u a → Calls zP 155 #[u, J zq b] w fun e w' => (∃ r, e = zR r ∧ IsW r (a * b)) ∧ Ext w w') := fun u w hu => byw_any a b u w hu k1 k2
  clear h1 h2 k1 k2
  go_enter Tryz.func116, Tryz.ntmps116
  go_wp2_with fail
  refine (HO.out _).mono ?_
  rintro e w1 ⟨⟨u1, rfl, hu1⟩, x1⟩
  go_wp2_with fail
  refine (HB.out _ _ hu1).mono ?_
  rintro e w3 ⟨⟨u3, rfl, y0, y1, y2, rfl, hr⟩, x3⟩
  have HR : Hid _ := hr
  clear hr
  have X3 := x1.trans x3
  have X4 : Ext w w3 := Ext.trans xa X3
  obtain ⟨c0, c1, c2, f0, f1, f2, hz⟩ : H3 w3 w.heap.size _ _ _ := (h3_at rfl).ext X3
  clear x1 x3 X3 hu1
  go_wp2_with fail
  exact bodyPost_ret (v := zG #[J zu y0, J zu y1, J zu y2]) (by simp [results, Tryz.results116, go_sem, c0, c1, c2]) rfl ⟨⟨_, rfl, _, _, _, rfl, HR.out⟩, xa⟩
end Go.Proofs.YtoeecldhbabmbaaGreat
