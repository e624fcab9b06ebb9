/- Contracts of the leaves of package fx: Check, num, fit, size. wide: Sign, Word, down, Nearest. -/
import Derived.Test.YtbmocnigmpmfkaaCorem
import Derived.WalkKit
import Derived.WalkSpells
import Derived.WalkLawsBesides
import Derived.Deep.RegionWith
import Derived.Test.YtbmocnigmpmfkaaW2m
namespace Go.Proofs.Ytbmocnigmpmfkaa
open Go.RowKit

set_option maxHeartbeats 400000 in
theorem check_any (v : Int) (w : World) :
    Calls Try.prog 30 #[.int .i64 v] w fun e w' => e = .returned (.int .i64 (chk v)) ∧ w' = w := by
  by_cases h1 : v ≤ -35184372088832
  · have e1 : chk v = 1 := by unfold chk okW; rw [if_neg]; simp; omega
    rw [e1]
    go_enter Try.func30, Try.ntmps30
    go_wp2
    go_ret
    exact ⟨rfl, rfl⟩
  · by_cases h2 : 35184372088832 ≤ v
    · have e1 : chk v = 1 := by unfold chk okW; rw [if_neg]; simp; omega
      rw [e1]
      go_enter Try.func30, Try.ntmps30
      go_wp2
      go_ret
      exact ⟨rfl, rfl⟩
    · have e1 : chk v = 0 := by unfold chk okW; rw [if_pos]; simp; omega
      rw [e1]
      go_enter Try.func30, Try.ntmps30
      go_wp2
      go_ret
      exact ⟨rfl, rfl⟩

end Go.Proofs.Ytbmocnigmpmfkaa

namespace Go.Proofs.Ytbmocnigmpmfkaa
open Go.RowKit Go.Shelf
theorem eqarr3 {P : Program} (t e : TypeId) (k k' : IntKind) (h : P.underlying t = some (.array 3 e)) (he : P.underlying e = some (.int k')) (hs : ∀ w, (Go.sizeOf e).run P w = .ok 1 w) (ha : ∀ w, (isAgg e).run P w = .ok false w) (x y z a b c : Int) (w : World) :
    (Op.equalIn 10000 t (.agg #[.int k x, .int k y, .int k z]) (.agg #[.int k a, .int k b, .int k c])).run P w = .ok (x == a && (y == b && z == c)) w := by
  have hi : ∀ (u v : Int) (w : World), (Op.equalIn 9999 e (.int k u) (.int k v)).run P w = .ok (u == v) w := fun u v w => run_equalIn_int (P := P) w 9998 e k k' u v he
  show (Op.equalIn (9999 + 1) t _ _).run P w = _
  rw [Op.equalIn]
  by_cases hx : x = a <;> by_cases hy : y = b <;> by_cases hz : z = c <;> simp [run_underlying h, hs, List.range', go_sem, ha, hi, hx, hy, hz]
theorem eqw (x y z a b c : Int) (w : World) : (Op.equalIn 10000 68 (.agg #[.int .u64 x, .int .u64 y, .int .u64 z]) (.agg #[.int .u64 a, .int .u64 b, .int .u64 c])).run Try.prog w = .ok (x == a && (y == b && z == c)) w :=
  eqarr3 68 49 .u64 .u64 (by kernel_rfl) Try.underlying49 Try.sizeOf49 Try.isAgg49 x y z a b c w

/-- the sign of a number -/
def sgnw (z : Int) : Int := if z = 0 then 0 else if z < 0 then -1 else 1
set_option maxHeartbeats 1000000 in
theorem down_raw (x y t : Int) (w : World) :
    Calls Try.prog 43 #[.agg #[.int .u64 x, .int .u64 y, .int .u64 t], .int .i64 30] w fun e w' => e = .returned (.agg #[.int .u64 (bits BinOp.or IntKind.u64 (x / 1073741824) (IntKind.u64.wrap (y * 17179869184))), .int .u64 (bits BinOp.or IntKind.u64 (y / 1073741824) (IntKind.u64.wrap (t * 17179869184))), .int .u64 (IntKind.u64.wrap (wrap64 t / 1073741824))]) ∧ Ext w w' := by
  go_enter Try.func43, Try.ntmps43
  go_wp2_with fail
  refine wp_loop_rounds 3 ?_
  rw [rounds_succ]
  go_wp2_with fail
  go_region
  go_wp2_with fail
  rw [rounds_succ]
  go_wp2_with fail
  go_region
  go_wp2_with fail
  rw [rounds_succ]
  go_wp2_with fail
  exact bodyPost_ret (v := .agg #[.int .u64 (bits BinOp.or IntKind.u64 (x / 1073741824) (IntKind.u64.wrap (y * 17179869184))), .int .u64 (bits BinOp.or IntKind.u64 (y / 1073741824) (IntKind.u64.wrap (t * 17179869184))), .int .u64 (IntKind.u64.wrap (wrap64 t / 1073741824))]) (by simp [results, Try.results43, go_sem]) rfl ⟨rfl, by repeat (first | with_reducible assumption | with_reducible exact Ext.refl _ | with_reducible refine Ext.drew ?_ | with_reducible refine Ext.drewN ?_ _ | with_reducible refine Ext.alloc ?_ _ | with_reducible refine Ext.set ?_ (by first | exact Nat.le_refl _ | simp | (simp; omega)) _)⟩
theorem bits_or_comm (a b : Int) : bits BinOp.or IntKind.u64 a b = bits BinOp.or IntKind.u64 b a := by
  simp [bits, Nat.or_comm]
theorem or_limbs (x y : Nat) (hx : x < 18446744073709551616) :
    bits BinOp.or IntKind.u64 ((x : Int) / 1073741824) (IntKind.u64.wrap ((y : Int) * 17179869184)) = ((x / 1073741824 + y * 17179869184 % 18446744073709551616 : Nat) : Int) := by
  have e1 : IntKind.u64.wrap ((y : Int) * 17179869184) = ((y % 1073741824 * 2 ^ 34 : Nat) : Int) := by
    rw [IntKind.wrap_u64, show (2 : Nat) ^ 34 = 17179869184 by decide]; omega
  have e2 : (x : Int) / 1073741824 = ((x / 1073741824 : Nat) : Int) := by omega
  have h34 : (2 : Nat) ^ 34 = 17179869184 := by decide
  rw [bits_or_comm, e1, e2, Num.or_shift (y % 1073741824) (x / 1073741824) 34 (by omega) (by rw [h34]; omega) (by rw [h34]; omega), h34]
  omega
theorem down_any (z : Int) (u : Value) (w : World) (hu : IsW u z) (hz : InW z) :
    Calls Try.prog 43 #[u, .int .i64 30] w fun e w' => (∃ r, e = .returned r ∧ IsW r (z / 1073741824)) ∧ Ext w w' := by
  obtain ⟨x0, x1, x2, rfl, rfl, rfl, rfl⟩ := hu
  refine (down_raw _ _ _ w).mono ?_
  rintro e w1 ⟨rfl, k⟩
  refine ⟨⟨_, rfl, isW_of ?_ ?_ ?_⟩, k⟩
  · rw [or_limbs _ _ (l0_lt z)]; exact congrArg Int.ofNat (down0 z)
  · rw [or_limbs _ _ (l1_lt z)]; exact congrArg Int.ofNat (down1 z)
  · rw [← down2 hz, IntKind.wrap_u64]
    have e : wrap64 (l2 z : Int) = high z := by
      have := l2_lt z
      unfold wrap64 high; split <;> omega
    rw [e]

/-- what is added ahead of rounding down -/
def oddQ (z : Int) : Int := z / 1073741824 % 2
theorem odd_limb (z : Int) : bits BinOp.and IntKind.u64 ((l0 z : Int) / 1073741824) 1 = oddQ z := by
  have h := l0_lt z
  have e : (l0 z : Int) / 1073741824 = ((l0 z / 1073741824 : Nat) : Int) := by omega
  have c := l0_cast z
  rw [e, show (1 : Int) = ((1 : Nat) : Int) by rfl, bits_and_u64_nat _ _ (by omega) (by omega), Nat.and_one_is_mod]
  unfold oddQ
  omega
set_option maxHeartbeats 2000000 in
theorem nearest_raw (z O A : Int) (x0 x1 x2 : Int) (w : World) (hA : A = 536870911 ∧ O = 0 ∨ A = 536870912 ∧ O = 1) (hod : bits BinOp.and IntKind.u64 (x0 / 1073741824) 1 = O)
    (HP : Hid (∀ w', Calls Try.prog 42 #[.agg #[.int .u64 x0, .int .u64 x1, .int .u64 x2], .agg #[.int .u64 A, .int .u64 0, .int .u64 0]] w' fun e w'' => (∃ r, e = .returned r ∧ IsW r (z + A)) ∧ Ext w' w''))
    (HD : Hid (∀ v w', IsW v (z + A) → Calls Try.prog 43 #[v, .int .i64 30] w' fun e w'' => (∃ r, e = .returned r ∧ IsW r ((z + A) / 1073741824)) ∧ Ext w' w'')) :
    Calls Try.prog 32 #[.agg #[.int .u64 x0, .int .u64 x1, .int .u64 x2], .int .i64 30] w fun e w' => (∃ r, e = .returned r ∧ IsW r ((z + A) / 1073741824)) ∧ Ext w w' := by
  have k1 : IntKind.i64.wrap 29 = 29 := by decide
  have k2 : IntKind.u64.wrap 536870912 = 536870912 := by decide
  have k3 : IntKind.u64.wrap 536870911 = 536870911 := by decide
  rcases hA with ⟨rfl, rfl⟩ | ⟨rfl, rfl⟩
  all_goals
    go_enter Try.func32, Try.ntmps32
    go_wp2_with fail
    clear hod
    go_region_with (first | (go_at_call 42; refine (HP.out _).mono ?_; rintro e w1 ⟨⟨u1, rfl, hu1⟩, x1⟩) | (go_at_call 43; refine (HD.out _ _ hu1).mono ?_; rintro e w2 ⟨⟨u2, rfl, y0, y1, y2, rfl, hr⟩, x2⟩; have HR : Hid _ := hr; clear hr hu1; have X2 := x1.trans x2; have X4 : Ext w w2 := Ext.trans (by repeat (first | with_reducible exact Ext.refl _ | with_reducible refine Ext.drew ?_ | with_reducible refine Ext.alloc ?_ _)) X2; obtain ⟨c0, c1, c2, f0, f1, f2, hz⟩ : H3 w2 (w.heap.size + 1) _ _ _ := (H3.drew (h3_at (by simp))).ext X2; clear x1 x2 X2))
    all_goals
      go_wp2_with fail
      exact bodyPost_ret (v := .agg #[.int .u64 y0, .int .u64 y1, .int .u64 y2]) (by simp [results, Try.results32, go_sem, c0, c1, c2]) rfl ⟨⟨_, rfl, _, _, _, rfl, HR.out⟩, by repeat (first | with_reducible assumption | with_reducible exact Ext.refl _ | with_reducible refine Ext.drew ?_ | with_reducible refine Ext.drewN ?_ _ | with_reducible refine Ext.alloc ?_ _ | with_reducible refine Ext.set ?_ (by first | exact Nat.le_refl _ | simp | (simp; omega)) _)⟩
/-- z / 2^30, rounded to the nearest, halves to even -/
def nearQ (z : Int) : Int := (z + (536870911 + oddQ z)) / 1073741824
theorem nearestw_any (z : Int) (u : Value) (w : World) (hu : IsW u z) (hz : InW (z + 536870912)) (hz' : InW z) :
    Calls Try.prog 32 #[u, .int .i64 30] w fun e w' => (∃ r, e = .returned r ∧ IsW r (nearQ z)) ∧ Ext w w' := by
  have ho : oddQ z = 0 ∨ oddQ z = 1 := by unfold oddQ; omega
  have hod := odd_limb z
  obtain ⟨x0, x1, x2, rfl, rfl, rfl, rfl⟩ := hu
  exact nearest_raw z (oddQ z) (536870911 + oddQ z) _ _ _ w (by omega) hod (fun w' => plus_any z (536870911 + oddQ z) _ _ w' (IsW.mk z) (isW_of (by rw [l0_cast]; omega) (by rw [l1_cast]; omega) (by rw [l2_cast]; omega))) (fun v w' hv => down_any _ v w' hv (by unfold InW at *; omega))
end Go.Proofs.Ytbmocnigmpmfkaa
