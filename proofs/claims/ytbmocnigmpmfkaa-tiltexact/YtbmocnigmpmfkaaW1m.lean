/- wide: Of, Plus, Minus, Neg, Times, Product: limb by limb. -/
import Derived.Test.YtbmocnigmpmfkaaMg3
import Derived.Test.YtbmocnigmpmfkaaMg7
import Derived.Shelf.Spec.BitsCarry
import Derived.BigRegion
namespace Go.Proofs.Ytbmocnigmpmfkaa
open Go.RowKit Go.Shelf

def lays25_ren : Go.Shelf.Ren := ⟨fun | 25 => 57 | n => n, fun | 22 => 49 | n => n, fun | n => n⟩
theorem lays25 : Go.Proofs.Lays7.n25 Try.prog lays25_ren := {
  mixed := by kernel_rfl
  f25 := Try.func57.trans (congrArg some (by kernel_rfl))
  t22 := Try.underlying49
  a22 := Try.isAgg49
  z22 := Try.sizeOf49
  v22 := Try.zeroValue49
  i22 := by kernel_rfl }
theorem add64_run (x y c : Nat) (hc : c ≤ 1) (w : World) : (callFunc 57 #[.int .u64 x, .int .u64 y, .int .u64 c]).run Try.prog w = .ok (.value (.tuple #[.int .u64 (((x + y + c) % 18446744073709551616 : Nat) : Int), .int .u64 (((x + y + c) / 18446744073709551616 : Nat) : Int)])) w := Any7.bits_Add64 lays25 x y c hc w
def lays26_ren : Go.Shelf.Ren := ⟨fun | 26 => 80 | n => n, fun | 22 => 49 | n => n, fun | n => n⟩
theorem lays26 : Go.Proofs.Lays7.n26 Try.prog lays26_ren := {
  mixed := by kernel_rfl
  f26 := Try.func80.trans (congrArg some (by kernel_rfl))
  t22 := Try.underlying49
  a22 := Try.isAgg49
  z22 := Try.sizeOf49
  v22 := Try.zeroValue49
  i22 := by kernel_rfl }
theorem sub64_run (x y c : Nat) (hc : c ≤ 1) (w : World) : (callFunc 80 #[.int .u64 x, .int .u64 y, .int .u64 c]).run Try.prog w = .ok (.value (.tuple #[.int .u64 (((x + 18446744073709551616 - y - c) % 18446744073709551616 : Nat) : Int), .int .u64 ((borw x y c : Nat) : Int)])) w := Any7.bits_Sub64 lays26 x y c hc w


/-- v is the number z, modulo 2^192 -/
def IsW (v : Value) (z : Int) : Prop := ∃ x y t : Int, v = .agg #[.int .u64 x, .int .u64 y, .int .u64 t] ∧ x = l0 z ∧ y = l1 z ∧ t = l2 z
theorem IsW.mk (z : Int) : IsW (.agg #[.int .u64 (l0 z : Int), .int .u64 (l1 z : Int), .int .u64 (l2 z : Int)]) z := ⟨_, _, _, rfl, rfl, rfl, rfl⟩
theorem isW_of {x y t z : Int} (h0 : x = l0 z) (h1 : y = l1 z) (h2 : t = l2 z) : IsW (.agg #[.int .u64 x, .int .u64 y, .int .u64 t]) z := ⟨_, _, _, rfl, h0, h1, h2⟩

set_option maxHeartbeats 2000000 in
theorem plus_raw (a0 a1 a2 b0 b1 b2 s0 s1 s2 c0 c1 c2 : Int) (w : World)
    (h0 : ∀ w, (callFunc 57 #[.int .u64 a0, .int .u64 b0, .int .u64 0]).run Try.prog w = .ok (.value (.tuple #[.int .u64 s0, .int .u64 c0])) w)
    (h1 : ∀ w, (callFunc 57 #[.int .u64 a1, .int .u64 b1, .int .u64 c0]).run Try.prog w = .ok (.value (.tuple #[.int .u64 s1, .int .u64 c1])) w)
    (h2 : ∀ w, (callFunc 57 #[.int .u64 a2, .int .u64 b2, .int .u64 c1]).run Try.prog w = .ok (.value (.tuple #[.int .u64 s2, .int .u64 c2])) w) :
    Calls Try.prog 42 #[.agg #[.int .u64 a0, .int .u64 a1, .int .u64 a2], .agg #[.int .u64 b0, .int .u64 b1, .int .u64 b2]] w fun e w' => e = .returned (.agg #[.int .u64 s0, .int .u64 s1, .int .u64 s2]) ∧ Ext w w' := by
  go_enter Try.func42, Try.ntmps42
  go_wp2_with fail
  refine wp_loop_rounds 4 ?_
  rw [rounds_succ]
  go_wp2_with fail
  go_region
  go_wp2_with fail
  rw [rounds_succ]
  go_wp2_with fail
  go_region
  go_wp2_with fail
  rw [rounds_succ]
  go_wp2_with fail
  go_region
  go_wp2_with fail
  rw [rounds_succ]
  go_wp2_with fail
  exact bodyPost_ret (v := .agg #[.int .u64 s0, .int .u64 s1, .int .u64 s2]) (by simp [results, Try.results42, go_sem]) rfl ⟨rfl, by repeat (first | with_reducible assumption | with_reducible exact Ext.refl _ | with_reducible refine Ext.drew ?_ | with_reducible refine Ext.drewN ?_ _ | with_reducible refine Ext.alloc ?_ _ | with_reducible refine Ext.set ?_ (by first | exact Nat.le_refl _ | simp | (simp; omega)) _)⟩

theorem plus_any (a b : Int) (u v : Value) (w : World) (hu : IsW u a) (hv : IsW v b) :
    Calls Try.prog 42 #[u, v] w fun e w' => (∃ r, e = .returned r ∧ IsW r (a + b)) ∧ Ext w w' := by
  obtain ⟨x0, x1, x2, rfl, rfl, rfl, rfl⟩ := hu
  obtain ⟨y0, y1, y2, rfl, rfl, rfl, rfl⟩ := hv
  have e := plus_limbs a b
  have k0 : (l0 a + l0 b + 0) / 18446744073709551616 ≤ 1 := by have := l0_lt a; have := l0_lt b; omega
  have k1 : (l1 a + l1 b + (l0 a + l0 b + 0) / 18446744073709551616) / 18446744073709551616 ≤ 1 := by have := l1_lt a; have := l1_lt b; omega
  refine (plus_raw _ _ _ _ _ _ _ _ _ _ _ _ w (fun w => add64_run (l0 a) (l0 b) 0 (by omega) w) (fun w => add64_run (l1 a) (l1 b) _ k0 w) (fun w => add64_run (l2 a) (l2 b) _ k1 w)).mono ?_
  rintro r w1 ⟨rfl, x1⟩
  exact ⟨⟨_, rfl, isW_of (congrArg Int.ofNat e.1) (congrArg Int.ofNat e.2.1) (congrArg Int.ofNat e.2.2)⟩, x1⟩

set_option maxHeartbeats 2000000 in
theorem minus_raw (a0 a1 a2 b0 b1 b2 s0 s1 s2 c0 c1 c2 : Int) (w : World)
    (h0 : ∀ w, (callFunc 80 #[.int .u64 a0, .int .u64 b0, .int .u64 0]).run Try.prog w = .ok (.value (.tuple #[.int .u64 s0, .int .u64 c0])) w)
    (h1 : ∀ w, (callFunc 80 #[.int .u64 a1, .int .u64 b1, .int .u64 c0]).run Try.prog w = .ok (.value (.tuple #[.int .u64 s1, .int .u64 c1])) w)
    (h2 : ∀ w, (callFunc 80 #[.int .u64 a2, .int .u64 b2, .int .u64 c1]).run Try.prog w = .ok (.value (.tuple #[.int .u64 s2, .int .u64 c2])) w) :
    Calls Try.prog 78 #[.agg #[.int .u64 a0, .int .u64 a1, .int .u64 a2], .agg #[.int .u64 b0, .int .u64 b1, .int .u64 b2]] w fun e w' => e = .returned (.agg #[.int .u64 s0, .int .u64 s1, .int .u64 s2]) ∧ Ext w w' := by
  go_enter Try.func78, Try.ntmps78
  go_wp2_with fail
  refine wp_loop_rounds 4 ?_
  rw [rounds_succ]
  go_wp2_with fail
  go_region
  go_wp2_with fail
  rw [rounds_succ]
  go_wp2_with fail
  go_region
  go_wp2_with fail
  rw [rounds_succ]
  go_wp2_with fail
  go_region
  go_wp2_with fail
  rw [rounds_succ]
  go_wp2_with fail
  exact bodyPost_ret (v := .agg #[.int .u64 s0, .int .u64 s1, .int .u64 s2]) (by simp [results, Try.results78, go_sem]) rfl ⟨rfl, by repeat (first | with_reducible assumption | with_reducible exact Ext.refl _ | with_reducible refine Ext.drew ?_ | with_reducible refine Ext.drewN ?_ _ | with_reducible refine Ext.alloc ?_ _ | with_reducible refine Ext.set ?_ (by first | exact Nat.le_refl _ | simp | (simp; omega)) _)⟩

theorem borw_le (x y c : Nat) : borw x y c ≤ 1 := by unfold borw; split <;> omega
theorem minus_any (a b : Int) (u v : Value) (w : World) (hu : IsW u a) (hv : IsW v b) :
    Calls Try.prog 78 #[u, v] w fun e w' => (∃ r, e = .returned r ∧ IsW r (a - b)) ∧ Ext w w' := by
  obtain ⟨x0, x1, x2, rfl, rfl, rfl, rfl⟩ := hu
  obtain ⟨y0, y1, y2, rfl, rfl, rfl, rfl⟩ := hv
  have e := minus_limbs a b
  refine (minus_raw _ _ _ _ _ _ _ _ _ _ _ _ w (fun w => sub64_run (l0 a) (l0 b) 0 (by omega) w) (fun w => sub64_run (l1 a) (l1 b) _ (borw_le _ _ _) w) (fun w => sub64_run (l2 a) (l2 b) _ (borw_le _ _ _) w)).mono ?_
  rintro r w1 ⟨rfl, x1⟩
  exact ⟨⟨_, rfl, isW_of (congrArg Int.ofNat e.1) (congrArg Int.ofNat e.2.1) (congrArg Int.ofNat e.2.2)⟩, x1⟩

set_option maxHeartbeats 2000000 in
theorem negw_any (a : Int) (u : Value) (w : World) (hu : IsW u a) :
    Calls Try.prog 74 #[u] w fun e w' => (∃ r, e = .returned r ∧ IsW r (-a)) ∧ Ext w w' := by
  have HM : Hid (∀ v w', v = u → Calls Try.prog 78 #[.agg #[.int .u64 0, .int .u64 0, .int .u64 0], v] w' fun e w'' => (∃ r, e = .returned r ∧ IsW r (-a)) ∧ Ext w' w'') := by
    rintro v w' rfl
    have h := minus_any 0 a _ _ w' (isW_of rfl rfl rfl) hu
    rw [Int.zero_sub] at h
    exact h
  obtain ⟨x0, x1, x2, rfl, h⟩ := hu
  clear h
  go_enter Try.func74, Try.ntmps74
  go_wp2_with fail
  refine (HM.out _ _ rfl).mono ?_
  rintro e w1 ⟨⟨r, rfl, y0, y1, y2, rfl, hr⟩, k1⟩
  have HR : Hid _ := hr
  clear hr
  have X1 : Ext w w1 := Ext.trans (((Ext.refl _).alloc _).alloc _) k1
  obtain ⟨c0, c1, c2, f0, f1, f2, hz⟩ : H3 w1 (w.heap.size + 1) _ _ _ := (h3_at (by simp)).ext k1
  clear k1
  go_wp2_with fail
  exact bodyPost_ret (v := .agg #[.int .u64 y0, .int .u64 y1, .int .u64 y2]) (by simp [results, Try.results74, go_sem, c0, c1, c2]) rfl ⟨⟨_, rfl, _, _, _, rfl, HR.out⟩, by repeat (first | with_reducible assumption | with_reducible exact Ext.refl _ | with_reducible refine Ext.drew ?_ | with_reducible refine Ext.drewN ?_ _ | with_reducible refine Ext.alloc ?_ _ | with_reducible refine Ext.set ?_ (by first | exact Nat.le_refl _ | simp | (simp; omega)) _)⟩
end Go.Proofs.Ytbmocnigmpmfkaa
