/- What the statements of layer 14 share. -/
import Derived.Test.YtkcfgkedgjpeoaaThAM
import Derived.Test.YtkcfgkedgjpeoaaMay
import Derived.Deep.RegionHeld
namespace Go.Proofs.Ytkcfgkedgjpeoaa
open Go.RowKit Go.Shelf
set_option maxHeartbeats 400000 in
theorem num14_any (v : Int) (w : World) :
    Calls Try.prog 10 #[.int .i64 v] w fun e w' => e = .returned (.int .i64 v) ∧ w' = w := by
  go_enter Try.func10, Try.ntmps10
  go_wp2
  go_ret
  exact ⟨rfl, rfl⟩
set_option maxHeartbeats 2000000 in
theorem mayv_any (x y z : Int) (w : World) :
    Calls Try.prog 7 #[.agg #[.int .i64 x, .int .i64 y, .int .i64 z]] w fun e w' => e = .returned (.bool (ok3 x y z)) ∧ Ext w w' := by
  have HM : Hid (∀ v w', Calls Try.prog 15 #[.int .i64 v] w' fun e w'' => e = .returned (.bool (okW v)) ∧ w'' = w') := may_any
  unfold ok3
  cases h0 : okW x
  · go_enter Try.func7, Try.ntmps7
    go_wp2_with (go_at_call 15; refine (HM.out _ _).mono ?_; rintro e wx ⟨rfl, hwx⟩; have hwy := hwx.symm; clear hwx; subst hwy)
    go_ret
    exact ⟨rfl, (Ext.refl _).alloc _⟩
  · cases h1 : okW y
    · go_enter Try.func7, Try.ntmps7
      go_wp2_with (go_at_call 15; refine (HM.out _ _).mono ?_; rintro e wx ⟨rfl, hwx⟩; have hwy := hwx.symm; clear hwx; subst hwy)
      go_ret
      exact ⟨rfl, (Ext.refl _).alloc _⟩
    · go_enter Try.func7, Try.ntmps7
      go_wp2_with (go_at_call 15; refine (HM.out _ _).mono ?_; rintro e wx ⟨rfl, hwx⟩; have hwy := hwx.symm; clear hwx; subst hwy)
      go_ret
      exact ⟨rfl, (Ext.refl _).alloc _⟩


/-- a number brought to from -m to m -/
def brt (m v : Int) : Int := v % 18446744073709551616 % (2 * m + 1) - m
theorem brt_bounds (m v : Int) (h : 0 ≤ m) : -m ≤ brt m v ∧ brt m v ≤ m := by
  have h1 := Int.emod_nonneg (v % 18446744073709551616) (show 2 * m + 1 ≠ 0 by omega)
  have h2 := Int.emod_lt_of_pos (v % 18446744073709551616) (show 0 < 2 * m + 1 by omega)
  unfold brt
  omega


set_option maxHeartbeats 1000000 in
theorem brought_17592186044416 (v : Int) (w : World) :
    Calls Try.prog 23 #[.int .i64 v, .int .i64 17592186044416] w fun e w' => e = .returned (.int .i64 (brt 17592186044416 v)) ∧ w' = w := by
  have hb := brt_bounds 17592186044416 v (by omega)
  have hd : Hid (brt 17592186044416 v = v % 18446744073709551616 % 35184372088833 - 17592186044416) := rfl
  obtain ⟨X, hX, hX0, hX1⟩ : ∃ X : Int, IntKind.u64.wrap v = X ∧ 0 ≤ X ∧ X ≤ 18446744073709551615 := ⟨_, rfl, by rw [IntKind.wrap_u64]; omega, by rw [IntKind.wrap_u64]; omega⟩
  have hE : Hid (X % 35184372088833 - 17592186044416 = brt 17592186044416 v) := by
    show _ = _
    rw [hd.out, ← hX, IntKind.wrap_u64]
  have h1 : 0 ≤ X % 35184372088833 := by omega
  have h2 : X % 35184372088833 ≤ 35184372088832 := by omega
  clear hd hb
  go_enter Try.func23, Try.ntmps23
  go_wp2_with fail
  go_ret
  exact ⟨ret_int hE.out, rfl⟩

set_option maxHeartbeats 4000000 in
theorem brvec_17592186044416 (a0 a1 a2 : Int) (w : World) :
    Calls Try.prog 13 #[.agg #[.int .i64 a0, .int .i64 a1, .int .i64 a2], .int .i64 17592186044416] w fun e w' => e = .returned (.agg #[.int .i64 (brt 17592186044416 a0), .int .i64 (brt 17592186044416 a1), .int .i64 (brt 17592186044416 a2)]) ∧ Ext w w' := by
  have B0 : Hid (∀ w', Calls Try.prog 23 #[.int .i64 a0, .int .i64 17592186044416] w' fun e w'' => e = .returned (.int .i64 (brt 17592186044416 a0)) ∧ w'' = w') := fun w' => brought_17592186044416 a0 w'
  have B1 : Hid (∀ w', Calls Try.prog 23 #[.int .i64 a1, .int .i64 17592186044416] w' fun e w'' => e = .returned (.int .i64 (brt 17592186044416 a1)) ∧ w'' = w') := fun w' => brought_17592186044416 a1 w'
  have B2 : Hid (∀ w', Calls Try.prog 23 #[.int .i64 a2, .int .i64 17592186044416] w' fun e w'' => e = .returned (.int .i64 (brt 17592186044416 a2)) ∧ w'' = w') := fun w' => brought_17592186044416 a2 w'
  generalize brt 17592186044416 a0 = r0 at *
  generalize brt 17592186044416 a1 = r1 at *
  generalize brt 17592186044416 a2 = r2 at *
  have ne1 : w.heap.size ≠ w.heap.size + 1 := by omega
  have H0 : H3 ((w.alloc (.cells #[.int .i64 a0, .int .i64 a1, .int .i64 a2] 24)).alloc (.cells #[.int .i64 0, .int .i64 0, .int .i64 0] 24)).drew w.heap.size (.int .i64 a0) (.int .i64 a1) (.int .i64 a2) := H3.drew (H3.alloc (h3_at rfl) _)
  obtain ⟨p0, p1, p2, p3, p4, p5, p6⟩ := H0
  go_enter Try.func13, Try.ntmps13
  go_wp2_with fail
  go_region_held (fun w' => w'.cell? ⟨w.heap.size, 0, none⟩ = some (.int .i64 a0) ∧ w'.cell? ⟨w.heap.size, 1, none⟩ = some (.int .i64 a1) ∧ w'.cell? ⟨w.heap.size, 2, none⟩ = some (.int .i64 a2)) (first | (go_keep; done) | (simp [go_sem]; done)) (first | (go_at_call_of 23 (Value.int IntKind.i64 a0); refine (B0.out _).mono ?_; rintro e wx ⟨rfl, hwx⟩; have hwy := hwx.symm; clear hwx; subst hwy) | (go_at_call_of 23 (Value.int IntKind.i64 a1); refine (B1.out _).mono ?_; rintro e wx ⟨rfl, hwx⟩; have hwy := hwx.symm; clear hwx; subst hwy) | (go_at_call_of 23 (Value.int IntKind.i64 a2); refine (B2.out _).mono ?_; rintro e wx ⟨rfl, hwx⟩; have hwy := hwx.symm; clear hwx; subst hwy))
  all_goals
    go_wp2_with fail
    exact bodyPost_ret (v := .agg #[.int .i64 r0, .int .i64 r1, .int .i64 r2]) (by simp [results, Try.results13, go_sem]) rfl ⟨rfl, by repeat (first | with_reducible assumption | with_reducible exact Ext.refl _ | with_reducible refine Ext.drew ?_ | with_reducible refine Ext.drewN ?_ _ | with_reducible refine Ext.alloc ?_ _ | with_reducible refine Ext.set ?_ (by first | exact Nat.le_refl _ | (dsimp only; omega) | (simp; done)) _)⟩


set_option maxHeartbeats 1000000 in
theorem within_9 (v : Int) (w : World) :
    Calls Try.prog 12 #[.int .i64 v, .int .i64 9] w fun e w' => e = .returned (.int .i64 (v % 18446744073709551616 % 9)) ∧ w' = w := by
  obtain ⟨X, hX, hX0, hX1⟩ : ∃ X : Int, IntKind.u64.wrap v = X ∧ 0 ≤ X ∧ X ≤ 18446744073709551615 := ⟨_, rfl, by rw [IntKind.wrap_u64]; omega, by rw [IntKind.wrap_u64]; omega⟩
  have hE : Hid (X % 9 = v % 18446744073709551616 % 9) := by
    show _ = _
    rw [← hX, IntKind.wrap_u64]
  have h1 : 0 ≤ X % 9 := by omega
  have h2 : X % 9 ≤ 8 := by omega
  go_enter Try.func12, Try.ntmps12
  go_wp2_with fail
  go_ret
  exact ⟨ret_int hE.out, rfl⟩
/-- a list of things of n numbers each: cell j of entry i holds the number Z i j -/
def NL (n : Nat) (w : World) (b off len : Nat) (Z : Nat → Nat → Int) : Prop :=
  ∀ i, i < len → ∀ j, j < n → w.cell? ⟨b, off + i * n + j, none⟩ = some (.int .i64 (Z i j)) ∧ -9223372036854775808 ≤ Z i j ∧ Z i j ≤ 9223372036854775807
theorem NL.ext {n : Nat} {w w' : World} {b off len : Nat} {Z : Nat → Nat → Int} (h : NL n w b off len Z) (hx : Ext w w') : NL n w' b off len Z := by
  intro i hi j hj
  obtain ⟨h1, h2⟩ := h i hi j hj
  refine ⟨?_, h2⟩
  rw [(hx.lay).1 b _ (cell_lt h1)]
  exact h1
theorem NL.blk {n : Nat} {w : World} {b off len : Nat} {Z : Nat → Nat → Int} (h : NL n w b off len Z) {k : Nat} (hk : k < len) (hn : 0 < n) : b < w.heap.size := cell_lt (h k hk 0 hn).1
theorem NL.row8 {w : World} {b off len : Nat} {Z : Nat → Nat → Int} (h : NL 8 w b off len Z) {k : Nat} (hk : k < len) : w.rangeAt b (off + k * 8) [.int .i64 (Z k 0), .int .i64 (Z k 1), .int .i64 (Z k 2), .int .i64 (Z k 3), .int .i64 (Z k 4), .int .i64 (Z k 5), .int .i64 (Z k 6), .int .i64 (Z k 7)] := fun j v hv => by
  have hj : j < 8 := (List.getElem?_eq_some_iff.1 hv).1
  refine ((h k hk j hj).1).trans ?_
  rw [← hv]
  match j, hj with
  | 0, _ => rfl
  | 1, _ => rfl
  | 2, _ => rfl
  | 3, _ => rfl
  | 4, _ => rfl
  | 5, _ => rfl
  | 6, _ => rfl
  | 7, _ => rfl
set_option maxRecDepth 20000 in
set_option maxHeartbeats 4000000 in
theorem wakes14_any (w : World) : Calls Try.prog 11 #[] w fun e w' => e = .returned (.bool true) ∧ Ext w w' := by
  have HA : Hid (∀ w, Calls Try.prog 9 #[.agg #[.int .i64 0, .int .i64 0, .int .i64 0, .int .i64 0], .int .i64 1, .agg #[.int .i64 7, .int .i64 0, .int .i64 0]] w fun e w' => e = .returned (.tuple #[.agg #[.int .i64 0, .int .i64 0, .int .i64 0, .int .i64 0], .agg #[.int .i64 7, .int .i64 0, .int .i64 0], .bool true, .int .i64 0]) ∧ Ext w w') := fun w => by
    have h := ttake_any 0 0 0 0 1 7 0 0 w
    have e : takeT 0 0 0 0 1 7 0 0 = .tuple #[.agg #[.int .i64 0, .int .i64 0, .int .i64 0, .int .i64 0], .agg #[.int .i64 7, .int .i64 0, .int .i64 0], .bool true, .int .i64 0] := by kernel_rfl
    rw [e] at h
    exact h
  go_enter Try.func11, Try.ntmps11
  go_wp2_with fail
  refine (HA.out _).mono ?_
  rintro e w1 ⟨rfl, x1⟩
  go_upto_region 2 with fail
  have E1 : Ext w ((w1.alloc (.cells #[.int .i64 0, .int .i64 0, .int .i64 0, .int .i64 0] 26)).alloc (.cells #[.int .i64 7, .int .i64 0, .int .i64 0] 24)) := (x1.alloc _).alloc _
  go_wp2_with (go_at_call 10; refine (num14_any _ _).mono ?_; rintro e wx ⟨rfl, hwx⟩; have hwy := hwx.symm; clear hwx; subst hwy)
  go_ret
  exact ⟨rfl, E1⟩
end Go.Proofs.Ytkcfgkedgjpeoaa
