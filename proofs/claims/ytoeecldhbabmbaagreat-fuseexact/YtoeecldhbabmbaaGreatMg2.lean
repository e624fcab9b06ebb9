/- Contracts of the leaves of package fx: Check, num, fit, size. wide: Sign, Word, down, Nearest. wide: Sum. wide: Sum of wide numbers. Contract of the reference's May. -/
import Derived.Test.YtoeecldhbabmbaaGreatMg0
import Derived.WalkKit
import Derived.WalkSpells
import Derived.WalkLawsBesides
import Derived.Deep.RegionWith
import Derived.Test.YtoeecldhbabmbaaGreatMg1
import Derived.Deep.QuietTactic
import Derived.BigQuiet
open Go.Value renaming int → J, agg → zG
open Go.IntKind renaming i64 → zq, u64 → zu
open Go.Ending renaming returned → zR
open Go.Proofs.Tryz renaming prog → zP
namespace Go.Proofs.YtoeecldhbabmbaaGreat
open Go.RowKit
set_option maxHeartbeats 400000 in
theorem check_any (v : Int) (w : World) :
    Calls zP 103 #[J zq v] w fun e w' => e = zR (J zq (chk v)) ∧ w' = w := by
  by_cases h1 : v ≤ -35184372088832
  · have e1 : chk v = 1 := by unfold chk okW; rw [if_neg]; simp; omega
    rw [e1]
    go_enter Tryz.func103, Tryz.ntmps103
    go_wp2
    go_ret
    exact ⟨rfl, rfl⟩
  · by_cases h2 : 35184372088832 ≤ v
    · have e1 : chk v = 1 := by unfold chk okW; rw [if_neg]; simp; omega
      rw [e1]
      go_enter Tryz.func103, Tryz.ntmps103
      go_wp2
      go_ret
      exact ⟨rfl, rfl⟩
    · have e1 : chk v = 0 := by unfold chk okW; rw [if_pos]; simp; omega
      rw [e1]
      go_enter Tryz.func103, Tryz.ntmps103
      go_wp2
      go_ret
      exact ⟨rfl, rfl⟩
set_option maxHeartbeats 400000 in
theorem fit_yes (v : Int) (w : World) (h : okW v = true) :
    Calls zP 141 #[J zq v] w fun e w' => e = zR (.tuple #[J zq v, J zq 0]) ∧ w' = w := by
  have hc : chk v = 0 := by unfold chk; rw [if_pos h]
  go_enter Tryz.func141, Tryz.ntmps141
  go_wp2_with (go_at_call 103; refine (check_any _ _).mono ?_; rintro e w' ⟨rfl, rfl⟩)
  go_ret2
  exact ⟨rfl, rfl⟩
set_option maxHeartbeats 400000 in
theorem fit_no (v : Int) (w : World) (h : okW v = false) :
    Calls zP 141 #[J zq v] w fun e w' => e = zR (.tuple #[J zq 0, J zq 2]) ∧ w' = w := by
  have hc : chk v = 1 := by unfold chk; rw [h]; rfl
  go_enter Tryz.func141, Tryz.ntmps141
  go_wp2_with (go_at_call 103; refine (check_any _ _).mono ?_; rintro e w' ⟨rfl, rfl⟩)
  go_ret2
  exact ⟨rfl, rfl⟩
set_option maxHeartbeats 400000 in
theorem size_any (v : Int) (w : World) (h1 : -9223372036854775808 ≤ v) (h2 : v ≤ 9223372036854775807) :
    Calls zP 140 #[J zq v] w fun e w' => e = zR (J zu (v.natAbs : Int)) ∧ w' = w := by
  by_cases h : v < 0
  · go_enter Tryz.func140, Tryz.ntmps140
    go_wp2
    go_ret
    exact ⟨ret_int (size_neg v h1 h), rfl⟩
  · go_enter Tryz.func140, Tryz.ntmps140
    go_wp2
    go_ret
    exact ⟨ret_int (by omega), rfl⟩
set_option maxHeartbeats 400000 in
theorem eachErr_any (a b : Int) (w : World) :
    Calls zP 180 #[zG #[J zq a, J zq b], .func (.func 103) #[] #[]] w fun e w' => e = zR (zG #[J zq (chk a), J zq (chk b)]) ∧ Ext w w' := by
  go_enter Tryz.func180, Tryz.ntmps180
  go_wp2
  go_region_with (go_at_call 103; refine (check_any _ _).mono ?_; rintro e w' ⟨rfl, rfl⟩)
  all_goals
    go_wp2
    exact bodyPost_ret (v := zG #[J zq (chk a), J zq (chk b)]) (by simp [results, Tryz.results180, go_sem]) rfl ⟨rfl, (((Ext.refl _).alloc _).alloc _).drew⟩
set_option maxHeartbeats 400000 in
theorem words_any (a b : Int) (w : World) :
    Calls zP 160 #[zG #[J zq a, J zq b]] w fun e w' => e = zR (.bool (okW a && okW b)) ∧ Ext w w' := by
  go_enter Tryz.func160, Tryz.ntmps160
  go_wp2_with (go_at_call 180; refine (eachErr_any _ _ _).mono ?_; rintro e w' ⟨rfl, hx⟩)
  all_goals
    go_ret
    exact ⟨ret_bool (by first | exact words1 ‹_› ‹_› | exact words2 ‹_› ‹_› | exact words3 ‹_›), ((Ext.refl _).alloc _).trans hx⟩
set_option maxHeartbeats 400000 in
theorem eachSize_any (a b : Int) (w : World) (h1 : -9223372036854775808 ≤ a) (h2 : a ≤ 9223372036854775807) (k1 : -9223372036854775808 ≤ b) (k2 : b ≤ 9223372036854775807) :
    Calls zP 139 #[zG #[J zq a, J zq b], .func (.func 140) #[] #[]] w fun e w' => e = zR (zG #[J zu (a.natAbs : Int), J zu (b.natAbs : Int)]) ∧ Ext w w' := by
  go_enter Tryz.func139, Tryz.ntmps139
  go_wp2
  go_region_with (go_at_call 140; refine (size_any _ _ (by omega) (by omega)).mono ?_; rintro e w' ⟨rfl, rfl⟩)
  all_goals
    go_wp2
    exact bodyPost_ret (v := zG #[J zu (a.natAbs : Int), J zu (b.natAbs : Int)]) (by simp [results, Tryz.results139, go_sem]) rfl ⟨rfl, (((Ext.refl _).alloc _).alloc _).drew⟩
open Go.Shelf
theorem eqarr3 {P : Program} (t e : TypeId) (k k' : IntKind) (h : P.underlying t = some (.array 3 e)) (he : P.underlying e = some (.int k')) (hs : ∀ w, (Go.sizeOf e).run P w = .ok 1 w) (ha : ∀ w, (isAgg e).run P w = .ok false w) (x y z a b c : Int) (w : World) :
    (Op.equalIn 10000 t (zG #[.int k x, .int k y, .int k z]) (zG #[.int k a, .int k b, .int k c])).run P w = .ok (x == a && (y == b && z == c)) w := by
  have hi : ∀ (u v : Int) (w : World), (Op.equalIn 9999 e (.int k u) (.int k v)).run P w = .ok (u == v) w := fun u v w => run_equalIn_int (P := P) w 9998 e k k' u v he
  show (Op.equalIn (9999 + 1) t _ _).run P w = _
  rw [Op.equalIn]
  by_cases hx : x = a <;> by_cases hy : y = b <;> by_cases hz : z = c <;> simp [run_underlying h, hs, List.range', go_sem, ha, hi, hx, hy, hz]
theorem eqw (x y z a b c : Int) (w : World) : (Op.equalIn 10000 152 (zG #[J zu x, J zu y, J zu z]) (zG #[J zu a, J zu b, J zu c])).run zP w = .ok (x == a && (y == b && z == c)) w :=
  eqarr3 152 90 .u64 .u64 (by kernel_rfl) Tryz.underlying90 Tryz.sizeOf90 Tryz.isAgg90 x y z a b c w
set_option maxHeartbeats 1000000 in
theorem sign_zero (w : World) :
    Calls zP 174 #[zG #[J zu 0, J zu 0, J zu 0]] w fun e w' => e = zR (J zq 0) ∧ Ext w w' := by
  have he := eqw 0 0 0 0 0 0
  go_enter Tryz.func174, Tryz.ntmps174
  go_wp2_with fail
  go_ret
  exact ⟨rfl, by repeat (first | with_reducible assumption | with_reducible exact Ext.refl _ | with_reducible refine Ext.alloc ?_ _)⟩
set_option maxHeartbeats 1000000 in
theorem sign_neg_raw (x y t : Int) (w : World) (hn : (x == 0 && (y == 0 && t == 0)) = false) (ht : (t / 9223372036854775808 == 1) = true) :
    Calls zP 174 #[zG #[J zu x, J zu y, J zu t]] w fun e w' => e = zR (J zq (-1)) ∧ Ext w w' := by
  have he := eqw x y t 0 0 0
  rw [hn] at he
  clear hn
  go_enter Tryz.func174, Tryz.ntmps174
  go_wp2_with fail
  go_ret
  exact ⟨rfl, by repeat (first | with_reducible assumption | with_reducible exact Ext.refl _ | with_reducible refine Ext.alloc ?_ _)⟩
set_option maxHeartbeats 1000000 in
theorem sign_pos_raw (x y t : Int) (w : World) (hn : (x == 0 && (y == 0 && t == 0)) = false) (ht : (t / 9223372036854775808 == 1) = false) :
    Calls zP 174 #[zG #[J zu x, J zu y, J zu t]] w fun e w' => e = zR (J zq 1) ∧ Ext w w' := by
  have he := eqw x y t 0 0 0
  rw [hn] at he
  clear hn
  go_enter Tryz.func174, Tryz.ntmps174
  go_wp2_with fail
  go_ret
  exact ⟨rfl, by repeat (first | with_reducible assumption | with_reducible exact Ext.refl _ | with_reducible refine Ext.alloc ?_ _)⟩
def sgnw (z : Int) : Int := if z = 0 then 0 else if z < 0 then -1 else 1
theorem signw_any (z : Int) (u : Value) (w : World) (hu : IsW u z) (hz : InW z) :
    Calls zP 174 #[u] w fun e w' => e = zR (J zq (sgnw z)) ∧ Ext w w' := by
  obtain ⟨x0, x1, x2, rfl, e0, e1, e2⟩ := hu
  have hi := zero_iff hz
  have hn := sign_neg hz
  have hb := l2_lt z
  by_cases h : z = 0
  · subst h
    have := zero_limbs
    have h0 : x0 = 0 := by omega
    have h1 : x1 = 0 := by omega
    have h2 : x2 = 0 := by omega
    subst h0 h1 h2
    exact sign_zero w
  · have hne : (x0 == 0 && (x1 == 0 && x2 == 0)) = false := by
      rw [Bool.eq_false_iff]
      intro hh
      simp only [Bool.and_eq_true, beq_iff_eq] at hh
      exact h (hi.1 ⟨by omega, by omega, by omega⟩)
    by_cases hneg : z < 0
    · have e : sgnw z = -1 := by unfold sgnw; rw [if_neg h, if_pos hneg]
      rw [e]
      have := hn.2 hneg
      exact sign_neg_raw x0 x1 x2 w hne (by rw [beq_iff_eq]; omega)
    · have e : sgnw z = 1 := by unfold sgnw; rw [if_neg h, if_neg hneg]
      rw [e]
      have : ¬ 9223372036854775808 ≤ l2 z := fun hh => hneg (hn.1 hh)
      exact sign_pos_raw x0 x1 x2 w hne (by rw [beq_eq_false_iff_ne]; omega)
set_option maxHeartbeats 1000000 in
theorem down_raw (x y t : Int) (w : World) :
    Calls zP 177 #[zG #[J zu x, J zu y, J zu t], J zq 30] w fun e w' => e = zR (zG #[J zu (bits BinOp.or IntKind.u64 (x / 1073741824) (IntKind.u64.wrap (y * 17179869184))), J zu (bits BinOp.or IntKind.u64 (y / 1073741824) (IntKind.u64.wrap (t * 17179869184))), J zu (IntKind.u64.wrap (wrap64 t / 1073741824))]) ∧ Ext w w' := by
  go_enter Tryz.func177, Tryz.ntmps177
  go_wp2_with fail
  refine wp_loop_rounds 3 ?_
  rw [rounds_succ]
  go_wp2_with fail
  go_region
  go_wp2_with fail
  rw [rounds_succ]
  go_wp2_with fail
  go_region
  go_wp2_with fail
  rw [rounds_succ]
  go_wp2_with fail
  exact bodyPost_ret (v := zG #[J zu (bits BinOp.or IntKind.u64 (x / 1073741824) (IntKind.u64.wrap (y * 17179869184))), J zu (bits BinOp.or IntKind.u64 (y / 1073741824) (IntKind.u64.wrap (t * 17179869184))), J zu (IntKind.u64.wrap (wrap64 t / 1073741824))]) (by simp [results, Tryz.results177, go_sem]) rfl ⟨rfl, by repeat (first | with_reducible assumption | with_reducible exact Ext.refl _ | with_reducible refine Ext.drew ?_ | with_reducible refine Ext.drewN ?_ _ | with_reducible refine Ext.alloc ?_ _ | with_reducible refine Ext.set ?_ (by first | exact Nat.le_refl _ | simp | (simp; omega)) _)⟩
theorem bits_or_comm (a b : Int) : bits BinOp.or IntKind.u64 a b = bits BinOp.or IntKind.u64 b a := by
  simp [bits, Nat.or_comm]
theorem or_limbs (x y : Nat) (hx : x < 18446744073709551616) :
    bits BinOp.or IntKind.u64 ((x : Int) / 1073741824) (IntKind.u64.wrap ((y : Int) * 17179869184)) = ((x / 1073741824 + y * 17179869184 % 18446744073709551616 : Nat) : Int) := by
  have e1 : IntKind.u64.wrap ((y : Int) * 17179869184) = ((y % 1073741824 * 2 ^ 34 : Nat) : Int) := by
    rw [IntKind.wrap_u64, show (2 : Nat) ^ 34 = 17179869184 by decide]; omega
  have e2 : (x : Int) / 1073741824 = ((x / 1073741824 : Nat) : Int) := by omega
  have h34 : (2 : Nat) ^ 34 = 17179869184 := by decide
  rw [bits_or_comm, e1, e2, Num.or_shift (y % 1073741824) (x / 1073741824) 34 (by omega) (by rw [h34]; omega) (by rw [h34]; omega), h34]
  omega
theorem down_any (z : Int) (u : Value) (w : World) (hu : IsW u z) (hz : InW z) :
    Calls zP 177 #[u, J zq 30] w fun e w' => (∃ r, e = zR r ∧ IsW r (z / 1073741824)) ∧ Ext w w' := by
  obtain ⟨x0, x1, x2, rfl, rfl, rfl, rfl⟩ := hu
  refine (down_raw _ _ _ w).mono ?_
  rintro e w1 ⟨rfl, k⟩
  refine ⟨⟨_, rfl, isW_of ?_ ?_ ?_⟩, k⟩
  · rw [or_limbs _ _ (l0_lt z)]; exact congrArg Int.ofNat (down0 z)
  · rw [or_limbs _ _ (l1_lt z)]; exact congrArg Int.ofNat (down1 z)
  · rw [← down2 hz, IntKind.wrap_u64]
    have e : wrap64 (l2 z : Int) = high z := by
      have := l2_lt z
      unfold wrap64 high; split <;> omega
    rw [e]
def oddQ (z : Int) : Int := z / 1073741824 % 2
theorem odd_limb (z : Int) : bits BinOp.and IntKind.u64 ((l0 z : Int) / 1073741824) 1 = oddQ z := by
  have h := l0_lt z
  have e : (l0 z : Int) / 1073741824 = ((l0 z / 1073741824 : Nat) : Int) := by omega
  have c := l0_cast z
  rw [e, show (1 : Int) = ((1 : Nat) : Int) by rfl, bits_and_u64_nat _ _ (by omega) (by omega), Nat.and_one_is_mod]
  unfold oddQ
  omega
set_option maxHeartbeats 2000000 in
theorem nearest_raw (z O A : Int) (x0 x1 x2 : Int) (w : World) (hA : A = 536870911 ∧ O = 0 ∨ A = 536870912 ∧ O = 1) (hod : bits BinOp.and IntKind.u64 (x0 / 1073741824) 1 = O)
    (HP : Hid (∀ w', Calls zP 176 #[zG #[J zu x0, J zu x1, J zu x2], zG #[J zu A, J zu 0, J zu 0]] w' fun e w'' => (∃ r, e = zR r ∧ IsW r (z + A)) ∧ Ext w' w''))
    (HD : Hid (∀ v w', IsW v (z + A) → Calls zP 177 #[v, J zq 30] w' fun e w'' => (∃ r, e = zR r ∧ IsW r ((z + A) / 1073741824)) ∧ Ext w' w'')) :
    Calls zP 156 #[zG #[J zu x0, J zu x1, J zu x2], J zq 30] w fun e w' => (∃ r, e = zR r ∧ IsW r ((z + A) / 1073741824)) ∧ Ext w w' := by
  have k1 : IntKind.i64.wrap 29 = 29 := by decide
  have k2 : IntKind.u64.wrap 536870912 = 536870912 := by decide
  have k3 : IntKind.u64.wrap 536870911 = 536870911 := by decide
  rcases hA with ⟨rfl, rfl⟩ | ⟨rfl, rfl⟩
  all_goals
    go_enter Tryz.func156, Tryz.ntmps156
    go_wp2_with fail
    clear hod
    go_region_with (first | (go_at_call 176; refine (HP.out _).mono ?_; rintro e w1 ⟨⟨u1, rfl, hu1⟩, x1⟩) | (go_at_call 177; refine (HD.out _ _ hu1).mono ?_; rintro e w2 ⟨⟨u2, rfl, y0, y1, y2, rfl, hr⟩, x2⟩; have HR : Hid _ := hr; clear hr hu1; have X2 := x1.trans x2; have X4 : Ext w w2 := Ext.trans (by repeat (first | with_reducible exact Ext.refl _ | with_reducible refine Ext.drew ?_ | with_reducible refine Ext.alloc ?_ _)) X2; obtain ⟨c0, c1, c2, f0, f1, f2, hz⟩ : H3 w2 (w.heap.size + 1) _ _ _ := (H3.drew (h3_at (by simp))).ext X2; clear x1 x2 X2))
    all_goals
      go_wp2_with fail
      exact bodyPost_ret (v := zG #[J zu y0, J zu y1, J zu y2]) (by simp [results, Tryz.results156, go_sem, c0, c1, c2]) rfl ⟨⟨_, rfl, _, _, _, rfl, HR.out⟩, by repeat (first | with_reducible assumption | with_reducible exact Ext.refl _ | with_reducible refine Ext.drew ?_ | with_reducible refine Ext.drewN ?_ _ | with_reducible refine Ext.alloc ?_ _ | with_reducible refine Ext.set ?_ (by first | exact Nat.le_refl _ | simp | (simp; omega)) _)⟩
def nearQ (z : Int) : Int := (z + (536870911 + oddQ z)) / 1073741824
theorem nearestw_any (z : Int) (u : Value) (w : World) (hu : IsW u z) (hz : InW (z + 536870912)) (hz' : InW z) :
    Calls zP 156 #[u, J zq 30] w fun e w' => (∃ r, e = zR r ∧ IsW r (nearQ z)) ∧ Ext w w' := by
  have ho : oddQ z = 0 ∨ oddQ z = 1 := by unfold oddQ; omega
  have hod := odd_limb z
  obtain ⟨x0, x1, x2, rfl, rfl, rfl, rfl⟩ := hu
  exact nearest_raw z (oddQ z) (536870911 + oddQ z) _ _ _ w (by omega) hod (fun w' => plus_any z (536870911 + oddQ z) _ _ w' (IsW.mk z) (isW_of (by rw [l0_cast]; omega) (by rw [l1_cast]; omega) (by rw [l2_cast]; omega))) (fun v w' hv => down_any _ v w' hv (by unfold InW at *; omega))
def sumTo (Z : Nat → Int) : Nat → Int
  | 0 => 0
  | k + 1 => sumTo Z k + Z k
theorem H3.set3 {w : World} {b : Nat} {u v x : Value} (h : H3 w b u v x) (u' v' x' : Value) : H3 (((w.setCell ⟨b, 0, none⟩ u').setCell ⟨b, 1, none⟩ v').setCell ⟨b, 2, none⟩ x') b u' v' x' := by
  obtain ⟨h0, h1, h2, f0, f1, f2, hb⟩ := h
  refine ⟨?_, ?_, ?_, ?_, ?_, ?_, ?_⟩ <;> simp [go_sem, h0, h1, h2, f0, f1, f2, hb]
theorem H3.far {w : World} {b g o : Nat} {u v x y : Value} (h : H3 w b u v x) (hb : b ≠ g) : H3 (w.setCell ⟨g, o, none⟩ y) b u v x := by
  obtain ⟨h0, h1, h2, f0, f1, f2, hz⟩ := h
  have k : ∀ i, (w.setCell ⟨g, o, none⟩ y).cell? ⟨b, i, none⟩ = w.cell? ⟨b, i, none⟩ := fun i => World.cell?_setCell_other _ _ _ _ (by intro e; have := congrArg Addr.block e; dsimp only at this; omega)
  refine ⟨by rw [k]; exact h0, by rw [k]; exact h1, by rw [k]; exact h2, ?_, ?_, ?_, ?_⟩ <;> simp [go_sem, f0, f1, f2, hz]
theorem H3.far3 {w : World} {b g : Nat} {u v x p q r : Value} (h : H3 w b u v x) (hb : b ≠ g) : H3 (((w.setCell ⟨g, 0, none⟩ p).setCell ⟨g, 1, none⟩ q).setCell ⟨g, 2, none⟩ r) b u v x := ((h.far hb).far hb).far hb
set_option maxRecDepth 20000 in
set_option maxHeartbeats 8000000 in
theorem sum64_raw (n A B : Nat) (X Y Z : Nat → Int) (w : World) (hn : n ≤ 4)
    (HA : Hid (∀ i, i < n → w.cell? ⟨A, i, none⟩ = some (J zq (X i)) ∧ A < w.heap.size))
    (HB : Hid (∀ i, i < n → w.cell? ⟨B, i, none⟩ = some (J zq (Y i)) ∧ B < w.heap.size))
    (HT : Hid (∀ i w', i < n → Calls zP 116 #[J zq (X i), J zq (Y i)] w' fun e w'' => (∃ r, e = zR r ∧ IsW r (Z i)) ∧ Ext w' w''))
    (HP : Hid (∀ u v p q w', IsW u p → IsW v q → Calls zP 176 #[u, v] w' fun e w'' => (∃ r, e = zR r ∧ IsW r (p + q)) ∧ Ext w' w'')) :
    Calls zP 154 #[.slice (some ⟨A, 0, none⟩) n n, .slice (some ⟨B, 0, none⟩) n n, .func (.func 116) #[] #[]] w fun e w' => (∃ r, e = zR r ∧ IsW r (sumTo Z n)) ∧ Ext w w' := by
  go_enter Tryz.func154, Tryz.ntmps154
  go_wp2_with fail
  go_loopw [13] (fun i wr => ∃ k : Nat, k ≤ n ∧ i = J zq (k : Int) ∧ ∃ t0 t1 t2 : Int, H3 wr (w.heap.size + 1) (J zu t0) (J zu t1) (J zu t2) ∧ IsW (zG #[J zu t0, J zu t1, J zu t2]) (sumTo Z k) ∧ H3 wr w.heap.size (J zu 0) (J zu 0) (J zu 0) ∧ Ext w wr) (fun i _ => n - (intOf i).toNat)
  case atStart => exact ⟨0, by omega, rfl, 0, 0, 0, h3_at (by simp), isW_of rfl rfl rfl, H3.alloc (h3_at rfl) _, xa⟩
  case round =>
    obtain ⟨k, hk, rfl, t0, t1, t2, TB, hT0, RB, hx⟩ := hrel
    have hT : Hid (IsW (zG #[J zu t0, J zu t1, J zu t2]) (sumTo Z k)) := hT0
    clear hT0
    by_cases hlt : k < n
    · have kx : (k : Int) < (n : Int) := by omega
      have TT : Hid (H3 wr (w.heap.size + 1) (J zu t0) (J zu t1) (J zu t2)) := TB
      have RR : Hid (H3 wr w.heap.size (J zu 0) (J zu 0) (J zu 0)) := RB
      obtain ⟨hcx, hax⟩ := HA.out k hlt
      have hcx := ((hx.lay).1 A k hax).trans hcx
      obtain ⟨hcy, hay⟩ := HB.out k hlt
      have hcy := ((hx.lay).1 B k hay).trans hcy
      have PT : Hid _ := fun w' => HT.out k w' hlt
      obtain ⟨c0, c1, c2, c3, c4, c5, c6⟩ := TB
      clear HA HB HT
      go_wp2_with fail
      go_region_with (first | (go_at_call 116; refine (PT.out _).mono ?_; rintro e w1 ⟨⟨u1, rfl, hu1⟩, x1⟩; have y1 : Ext wr.drew w1 := Ext.trans xa x1; obtain ⟨c0, c1, c2, c3, c4, c5, c6⟩ := TT.out.drew.ext y1) | (go_at_call 176; refine (HP.out _ _ _ _ _ hT.out hu1).mono ?_; rintro e w2 ⟨⟨u2, rfl, s0, s1, s2, rfl, hs⟩, x2⟩; have HSs : Hid _ := hs; clear hs; have y2 : Ext wr.drew w2 := y1.trans x2; obtain ⟨c0, c1, c2, c3, c4, c5, c6⟩ := TT.out.drew.ext y2))
      all_goals
        have T2 := TT.out.drew.ext y2
        have R2 := RR.out.drew.ext y2
        have X2 : Ext w w2 := Ext.trans hx.drew y2
        clear y2 x1 x2 y1 hx
        go_wp2_with fail
        go_roundw
        case rel => exact ⟨k + 1, by omega, by go_num, _, _, _, T2.set3 _ _ _, isW_of HSs.out.1 HSs.out.2.1 HSs.out.2.2, R2.far3 (by omega), by clear T2 R2; repeat (first | with_reducible assumption | with_reducible exact Ext.refl _ | with_reducible refine Ext.drew ?_ | with_reducible refine Ext.drewN ?_ _ | with_reducible refine Ext.alloc ?_ _ | with_reducible refine Ext.set ?_ (by first | exact Nat.le_refl _ | (dsimp only; omega) | (simp; done)) _)⟩
        case measure => simp [intOf]; omega
    · have hkn : k = n := by omega
      subst hkn
      obtain ⟨c0, c1, c2, c3, c4, c5, c6⟩ := TB
      obtain ⟨r0, r1, r2, r3, r4, r5, r6⟩ := RB
      go_wp2_with fail
      exact bodyPost_ret (v := zG #[J zu t0, J zu t1, J zu t2]) (by simp [results, Tryz.results154, go_sem, r0, r1, r2]) rfl ⟨⟨_, rfl, hT.out⟩, xa⟩
set_option maxRecDepth 20000 in
set_option maxHeartbeats 8000000 in
theorem sumw_raw (n A B : Nat) (X0 X1 X2 Y Z : Nat → Int) (w : World) (hn : n ≤ 4)
    (HA : Hid (∀ i, i < n → w.cell? ⟨A, i * 3, none⟩ = some (J zu (X0 i)) ∧ w.cell? ⟨A, i * 3 + 1, none⟩ = some (J zu (X1 i)) ∧ w.cell? ⟨A, i * 3 + 2, none⟩ = some (J zu (X2 i)) ∧ A < w.heap.size))
    (HB : Hid (∀ i, i < n → w.cell? ⟨B, i, none⟩ = some (J zq (Y i)) ∧ B < w.heap.size))
    (HT : Hid (∀ i w', i < n → Calls zP 155 #[zG #[J zu (X0 i), J zu (X1 i), J zu (X2 i)], J zq (Y i)] w' fun e w'' => (∃ r, e = zR r ∧ IsW r (Z i)) ∧ Ext w' w''))
    (HP : Hid (∀ u v p q w', IsW u p → IsW v q → Calls zP 176 #[u, v] w' fun e w'' => (∃ r, e = zR r ∧ IsW r (p + q)) ∧ Ext w' w'')) :
    Calls zP 178 #[.slice (some ⟨A, 0, none⟩) n n, .slice (some ⟨B, 0, none⟩) n n, .func (.func 155) #[] #[]] w fun e w' => (∃ r, e = zR r ∧ IsW r (sumTo Z n)) ∧ Ext w w' := by
  go_enter Tryz.func178, Tryz.ntmps178
  go_wp2_with fail
  go_loopw [13] (fun i wr => ∃ k : Nat, k ≤ n ∧ i = J zq (k : Int) ∧ ∃ t0 t1 t2 : Int, H3 wr (w.heap.size + 1) (J zu t0) (J zu t1) (J zu t2) ∧ IsW (zG #[J zu t0, J zu t1, J zu t2]) (sumTo Z k) ∧ H3 wr w.heap.size (J zu 0) (J zu 0) (J zu 0) ∧ Ext w wr) (fun i _ => n - (intOf i).toNat)
  case atStart => exact ⟨0, by omega, rfl, 0, 0, 0, h3_at (by simp), isW_of rfl rfl rfl, H3.alloc (h3_at rfl) _, xa⟩
  case round =>
    obtain ⟨k, hk, rfl, t0, t1, t2, TB, hT0, RB, hx⟩ := hrel
    have hT : Hid (IsW (zG #[J zu t0, J zu t1, J zu t2]) (sumTo Z k)) := hT0
    clear hT0
    by_cases hlt : k < n
    · have kx : (k : Int) < (n : Int) := by omega
      have TT : Hid (H3 wr (w.heap.size + 1) (J zu t0) (J zu t1) (J zu t2)) := TB
      have RR : Hid (H3 wr w.heap.size (J zu 0) (J zu 0) (J zu 0)) := RB
      obtain ⟨hcx0, hcx1, hcx2, hax⟩ := HA.out k hlt
      have hcx0 := ((hx.lay).1 A _ hax).trans hcx0
      have hcx1 := ((hx.lay).1 A _ hax).trans hcx1
      have hcx2 := ((hx.lay).1 A _ hax).trans hcx2
      obtain ⟨hcy, hay⟩ := HB.out k hlt
      have hcy := ((hx.lay).1 B k hay).trans hcy
      have PT : Hid _ := fun w' => HT.out k w' hlt
      have hy0 := (HB.out k hlt).1
      have dy := fun o => (((hx.alloc o).lay).1 B k hay).trans hy0
      have dc0 := fun o => (TT.out.alloc o).1
      have dc1 := fun o => (TT.out.alloc o).2.1
      have dc2 := fun o => (TT.out.alloc o).2.2.1
      have VQ : Hid (H3 (wr.alloc (.cells #[J zu (X0 k), J zu (X1 k), J zu (X2 k)] 152)) wr.heap.size (J zu (X0 k)) (J zu (X1 k)) (J zu (X2 k))) := h3_at rfl
      obtain ⟨v0, v1, v2, v3, v4, v5, v6⟩ := VQ.out
      clear hy0
      obtain ⟨c0, c1, c2, c3, c4, c5, c6⟩ := TB
      clear HA HB HT
      go_wp2_with fail
      go_region_with (first | (go_at_call 155; refine (PT.out _).mono ?_; rintro e w1 ⟨⟨u1, rfl, hu1⟩, x1⟩; have y1 : Ext (wr.alloc (.cells #[J zu (X0 k), J zu (X1 k), J zu (X2 k)] 152)).drew w1 := Ext.trans xa x1; obtain ⟨c0, c1, c2, c3, c4, c5, c6⟩ := (TT.out.alloc _).drew.ext y1; obtain ⟨v0, v1, v2, v3, v4, v5, v6⟩ := VQ.out.drew.ext y1) | (go_at_call 176; refine (HP.out _ _ _ _ _ hT.out hu1).mono ?_; rintro e w2 ⟨⟨u2, rfl, s0, s1, s2, rfl, hs⟩, x2⟩; have HSs : Hid _ := hs; clear hs; have y2 : Ext (wr.alloc (.cells #[J zu (X0 k), J zu (X1 k), J zu (X2 k)] 152)).drew w2 := y1.trans x2; obtain ⟨c0, c1, c2, c3, c4, c5, c6⟩ := (TT.out.alloc _).drew.ext y2))
      all_goals
        have T2 := (TT.out.alloc _).drew.ext y2
        have R2 := (RR.out.alloc _).drew.ext y2
        have X2 : Ext w w2 := Ext.trans (hx.alloc _).drew y2
        clear y2 x1 x2 y1 hx
        go_wp2_with fail
        go_roundw
        case rel => exact ⟨k + 1, by omega, by go_num, _, _, _, T2.set3 _ _ _, isW_of HSs.out.1 HSs.out.2.1 HSs.out.2.2, R2.far3 (by omega), by clear T2 R2; repeat (first | with_reducible assumption | with_reducible exact Ext.refl _ | with_reducible refine Ext.drew ?_ | with_reducible refine Ext.drewN ?_ _ | with_reducible refine Ext.alloc ?_ _ | with_reducible refine Ext.set ?_ (by first | exact Nat.le_refl _ | (dsimp only; omega) | (simp; done)) _)⟩
        case measure => simp [intOf]; omega
    · have hkn : k = n := by omega
      subst hkn
      obtain ⟨c0, c1, c2, c3, c4, c5, c6⟩ := TB
      obtain ⟨r0, r1, r2, r3, r4, r5, r6⟩ := RB
      go_wp2_with fail
      exact bodyPost_ret (v := zG #[J zu t0, J zu t1, J zu t2]) (by simp [results, Tryz.results178, go_sem, r0, r1, r2]) rfl ⟨⟨_, rfl, hT.out⟩, xa⟩
set_option maxHeartbeats 400000 in
theorem may_any (v : Int) (w : World) :
    Calls zP 22 #[J zq v] w fun e w' => e = zR (.bool (okW v)) ∧ w' = w := by
  by_cases h1 : -35184372088832 < v
  · by_cases h2 : v < 35184372088832
    · have e1 : Hid (true = okW v) := by show true = okW v; unfold okW; simp; omega
      go_enter Tryz.func22, Tryz.ntmps22
      go_wp2
      go_ret
      exact ⟨ret_bool (by rw [← e1.out]), rfl⟩
    · have e1 : Hid (false = okW v) := by show false = okW v; unfold okW; simp; omega
      go_enter Tryz.func22, Tryz.ntmps22
      go_wp2
      go_ret
      exact ⟨ret_bool (by rw [← e1.out]), rfl⟩
  · have e1 : Hid (false = okW v) := by show false = okW v; unfold okW; simp; omega
    go_enter Tryz.func22, Tryz.ntmps22
    go_wp2
    go_ret
    exact ⟨ret_bool (by rw [← e1.out]), rfl⟩
end Go.Proofs.YtoeecldhbabmbaaGreat
