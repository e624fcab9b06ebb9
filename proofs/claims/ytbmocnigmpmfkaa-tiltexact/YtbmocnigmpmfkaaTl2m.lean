/- What the statements of layer 19 share: num, Within, Vec, wakes, the product. -/
import Derived.Test.YtbmocnigmpmfkaaTl1m
import Derived.Test.YtbmocnigmpmfkaaMg19
namespace Go.Proofs.Ytbmocnigmpmfkaa
open Go.RowKit Go.Shelf
/-- a bool, or a number that a word of 64 bits may hold -/
def kd (b : Bool) (v : Value) : Prop := if b then ∃ x : Bool, v = .bool x else ∃ m : Int, v = .int .i64 m ∧ -9223372036854775808 ≤ m ∧ m ≤ 9223372036854775807
/-- a list of things of n cells each, of kinds k -/
def ML (n : Nat) (k : Nat → Bool) (w : World) (b off len : Nat) (C : Nat → Nat → Value) : Prop :=
  ∀ i, i < len → ∀ j, j < n → w.cell? ⟨b, off + i * n + j, none⟩ = some (C i j) ∧ kd (k j) (C i j)
theorem ML.ext {n : Nat} {k : Nat → Bool} {w w' : World} {b off len : Nat} {C : Nat → Nat → Value} (h : ML n k w b off len C) (hx : Ext w w') : ML n k w' b off len C := by
  intro i hi j hj
  obtain ⟨h1, h2⟩ := h i hi j hj
  refine ⟨?_, h2⟩
  rw [(hx.lay).1 b _ (cell_lt h1)]
  exact h1
theorem ML.num {n : Nat} {k : Nat → Bool} {w : World} {b off len : Nat} {C : Nat → Nat → Value} (h : ML n k w b off len C) {i : Nat} (hi : i < len) {j : Nat} (hj : j < n) (hk : k j = false) : ∃ m : Int, w.cell? ⟨b, off + i * n + j, none⟩ = some (.int .i64 m) ∧ -9223372036854775808 ≤ m ∧ m ≤ 9223372036854775807 := by
  obtain ⟨h1, h2⟩ := h i hi j hj
  unfold kd at h2
  rw [hk, if_neg (by simp)] at h2
  obtain ⟨m, e, hb⟩ := h2
  exact ⟨m, by rw [h1, e], hb⟩
theorem ML.bool {n : Nat} {k : Nat → Bool} {w : World} {b off len : Nat} {C : Nat → Nat → Value} (h : ML n k w b off len C) {i : Nat} (hi : i < len) {j : Nat} (hj : j < n) (hk : k j = true) : ∃ x : Bool, w.cell? ⟨b, off + i * n + j, none⟩ = some (.bool x) := by
  obtain ⟨h1, h2⟩ := h i hi j hj
  unfold kd at h2
  rw [hk, if_pos rfl] at h2
  obtain ⟨m, e⟩ := h2
  exact ⟨m, by rw [h1, e]⟩
set_option maxHeartbeats 400000 in
theorem num19_any (v : Int) (w : World) :
    Calls Try.prog 9 #[.int .i64 v] w fun e w' => e = .returned (.int .i64 v) ∧ w' = w := by
  go_enter Try.func9, Try.ntmps9
  go_wp2
  go_ret
  exact ⟨rfl, rfl⟩
/-- a number brought to from -m to m -/
def brt (m v : Int) : Int := v % 18446744073709551616 % (2 * m + 1) - m
theorem brt_bounds (m v : Int) (h : 0 ≤ m) : -m ≤ brt m v ∧ brt m v ≤ m := by
  have h1 := Int.emod_nonneg (v % 18446744073709551616) (show 2 * m + 1 ≠ 0 by omega)
  have h2 := Int.emod_lt_of_pos (v % 18446744073709551616) (show 0 < 2 * m + 1 by omega)
  unfold brt
  omega


set_option maxHeartbeats 1000000 in
theorem brought_67108864 (v : Int) (w : World) :
    Calls Try.prog 15 #[.int .i64 v, .int .i64 67108864] w fun e w' => e = .returned (.int .i64 (brt 67108864 v)) ∧ w' = w := by
  have hb := brt_bounds 67108864 v (by omega)
  have hd : Hid (brt 67108864 v = v % 18446744073709551616 % 134217729 - 67108864) := rfl
  obtain ⟨X, hX, hX0, hX1⟩ : ∃ X : Int, IntKind.u64.wrap v = X ∧ 0 ≤ X ∧ X ≤ 18446744073709551615 := ⟨_, rfl, by rw [IntKind.wrap_u64]; omega, by rw [IntKind.wrap_u64]; omega⟩
  have hE : Hid (X % 134217729 - 67108864 = brt 67108864 v) := by
    show _ = _
    rw [hd.out, ← hX, IntKind.wrap_u64]
  have h1 : 0 ≤ X % 134217729 := by omega
  have h2 : X % 134217729 ≤ 134217728 := by omega
  clear hd hb
  go_enter Try.func15, Try.ntmps15
  go_wp2_with fail
  go_ret
  exact ⟨ret_int hE.out, rfl⟩

set_option maxHeartbeats 4000000 in
theorem brvec_67108864 (a0 a1 a2 : Int) (w : World) :
    Calls Try.prog 7 #[.agg #[.int .i64 a0, .int .i64 a1, .int .i64 a2], .int .i64 67108864] w fun e w' => e = .returned (.agg #[.int .i64 (brt 67108864 a0), .int .i64 (brt 67108864 a1), .int .i64 (brt 67108864 a2)]) ∧ Ext w w' := by
  have B0 : Hid (∀ w', Calls Try.prog 15 #[.int .i64 a0, .int .i64 67108864] w' fun e w'' => e = .returned (.int .i64 (brt 67108864 a0)) ∧ w'' = w') := fun w' => brought_67108864 a0 w'
  have B1 : Hid (∀ w', Calls Try.prog 15 #[.int .i64 a1, .int .i64 67108864] w' fun e w'' => e = .returned (.int .i64 (brt 67108864 a1)) ∧ w'' = w') := fun w' => brought_67108864 a1 w'
  have B2 : Hid (∀ w', Calls Try.prog 15 #[.int .i64 a2, .int .i64 67108864] w' fun e w'' => e = .returned (.int .i64 (brt 67108864 a2)) ∧ w'' = w') := fun w' => brought_67108864 a2 w'
  generalize brt 67108864 a0 = r0 at *
  generalize brt 67108864 a1 = r1 at *
  generalize brt 67108864 a2 = r2 at *
  have ne1 : w.heap.size ≠ w.heap.size + 1 := by omega
  have H0 : H3 ((w.alloc (.cells #[.int .i64 a0, .int .i64 a1, .int .i64 a2] 24)).alloc (.cells #[.int .i64 0, .int .i64 0, .int .i64 0] 24)).drew w.heap.size (.int .i64 a0) (.int .i64 a1) (.int .i64 a2) := H3.drew (H3.alloc (h3_at rfl) _)
  obtain ⟨p0, p1, p2, p3, p4, p5, p6⟩ := H0
  go_enter Try.func7, Try.ntmps7
  go_wp2_with fail
  go_region_held (fun w' => w'.cell? ⟨w.heap.size, 0, none⟩ = some (.int .i64 a0) ∧ w'.cell? ⟨w.heap.size, 1, none⟩ = some (.int .i64 a1) ∧ w'.cell? ⟨w.heap.size, 2, none⟩ = some (.int .i64 a2)) (first | (go_keep; done) | (simp [go_sem]; done)) (first | (go_at_call_of 15 (Value.int IntKind.i64 a0); refine (B0.out _).mono ?_; rintro e wx ⟨rfl, hwx⟩; have hwy := hwx.symm; clear hwx; subst hwy) | (go_at_call_of 15 (Value.int IntKind.i64 a1); refine (B1.out _).mono ?_; rintro e wx ⟨rfl, hwx⟩; have hwy := hwx.symm; clear hwx; subst hwy) | (go_at_call_of 15 (Value.int IntKind.i64 a2); refine (B2.out _).mono ?_; rintro e wx ⟨rfl, hwx⟩; have hwy := hwx.symm; clear hwx; subst hwy))
  all_goals
    go_wp2_with fail
    exact bodyPost_ret (v := .agg #[.int .i64 r0, .int .i64 r1, .int .i64 r2]) (by simp [results, Try.results7, go_sem]) rfl ⟨rfl, by repeat (first | with_reducible assumption | with_reducible exact Ext.refl _ | with_reducible refine Ext.drew ?_ | with_reducible refine Ext.drewN ?_ _ | with_reducible refine Ext.alloc ?_ _ | with_reducible refine Ext.set ?_ (by first | exact Nat.le_refl _ | (dsimp only; omega) | (simp; done)) _)⟩


set_option maxHeartbeats 1000000 in
theorem within_3000 (v : Int) (w : World) :
    Calls Try.prog 6 #[.int .i64 v, .int .i64 3000] w fun e w' => e = .returned (.int .i64 (v % 18446744073709551616 % 3000)) ∧ w' = w := by
  obtain ⟨X, hX, hX0, hX1⟩ : ∃ X : Int, IntKind.u64.wrap v = X ∧ 0 ≤ X ∧ X ≤ 18446744073709551615 := ⟨_, rfl, by rw [IntKind.wrap_u64]; omega, by rw [IntKind.wrap_u64]; omega⟩
  have hE : Hid (X % 3000 = v % 18446744073709551616 % 3000) := by
    show _ = _
    rw [← hX, IntKind.wrap_u64]
  have h1 : 0 ≤ X % 3000 := by omega
  have h2 : X % 3000 ≤ 2999 := by omega
  go_enter Try.func6, Try.ntmps6
  go_wp2_with fail
  go_ret
  exact ⟨ret_int hE.out, rfl⟩
set_option maxHeartbeats 1000000 in
theorem within_900 (v : Int) (w : World) :
    Calls Try.prog 6 #[.int .i64 v, .int .i64 900] w fun e w' => e = .returned (.int .i64 (v % 18446744073709551616 % 900)) ∧ w' = w := by
  obtain ⟨X, hX, hX0, hX1⟩ : ∃ X : Int, IntKind.u64.wrap v = X ∧ 0 ≤ X ∧ X ≤ 18446744073709551615 := ⟨_, rfl, by rw [IntKind.wrap_u64]; omega, by rw [IntKind.wrap_u64]; omega⟩
  have hE : Hid (X % 900 = v % 18446744073709551616 % 900) := by
    show _ = _
    rw [← hX, IntKind.wrap_u64]
  have h1 : 0 ≤ X % 900 := by omega
  have h2 : X % 900 ≤ 899 := by omega
  go_enter Try.func6, Try.ntmps6
  go_wp2_with fail
  go_ret
  exact ⟨ret_int hE.out, rfl⟩
set_option maxHeartbeats 1000000 in
theorem within_3 (v : Int) (w : World) :
    Calls Try.prog 6 #[.int .i64 v, .int .i64 3] w fun e w' => e = .returned (.int .i64 (v % 18446744073709551616 % 3)) ∧ w' = w := by
  obtain ⟨X, hX, hX0, hX1⟩ : ∃ X : Int, IntKind.u64.wrap v = X ∧ 0 ≤ X ∧ X ≤ 18446744073709551615 := ⟨_, rfl, by rw [IntKind.wrap_u64]; omega, by rw [IntKind.wrap_u64]; omega⟩
  have hE : Hid (X % 3 = v % 18446744073709551616 % 3) := by
    show _ = _
    rw [← hX, IntKind.wrap_u64]
  have h1 : 0 ≤ X % 3 := by omega
  have h2 : X % 3 ≤ 2 := by omega
  go_enter Try.func6, Try.ntmps6
  go_wp2_with fail
  go_ret
  exact ⟨ret_int hE.out, rfl⟩
set_option maxHeartbeats 400000 in
theorem rtime_any (x : Int) (w : World) : Calls Try.prog 13 #[.int .i64 x] w fun e w' => e = .returned (.bool (okTm x)) ∧ w' = w := by
  by_cases h1 : 0 ≤ x
  · by_cases h2 : x ≤ 1099511627776
    · have e : Hid (okTm x = true) := okTm_iff.2 ⟨h1, h2⟩
      go_enter Try.func13, Try.ntmps13
      go_wp2
      go_ret
      rw [e.out]; exact ⟨rfl, rfl⟩
    · have e : Hid (okTm x = false) := Bool.eq_false_iff.2 (fun h => h2 (okTm_iff.1 h).2)
      go_enter Try.func13, Try.ntmps13
      go_wp2
      go_ret
      rw [e.out]; exact ⟨rfl, rfl⟩
  · have e : Hid (okTm x = false) := Bool.eq_false_iff.2 (fun h => h1 (okTm_iff.1 h).1)
    go_enter Try.func13, Try.ntmps13
    go_wp2
    go_ret
    rw [e.out]; exact ⟨rfl, rfl⟩
theorem okD_ok {a : Int} (h : okD a = true) : okW a = true := by
  obtain ⟨h1, h2⟩ := okD_iff.1 h
  unfold okW; simp; omega
theorem okD3_ok {x y z : Int} (h : okD3 x y z = true) : ok3 x y z = true := by
  obtain ⟨h1, h2, h3⟩ := okD3_iff.1 h
  unfold ok3; rw [okD_ok h1, okD_ok h2, okD_ok h3]; rfl
theorem mulb {a b A B : Int} (ha : -A ≤ a ∧ a ≤ A) (hb : -B ≤ b ∧ b ≤ B) : -(A * B) ≤ a * b ∧ a * b ≤ A * B := by
  obtain ⟨h1, h2⟩ := ha
  obtain ⟨k1, k2⟩ := hb
  have hA : 0 ≤ A := by omega
  have hB : 0 ≤ B := by omega
  have e : (a * b).natAbs = a.natAbs * b.natAbs := Int.natAbs_mul a b
  have m : a.natAbs * b.natAbs ≤ A.natAbs * B.natAbs := Nat.mul_le_mul (by omega) (by omega)
  have e2 : (A * B).natAbs = A.natAbs * B.natAbs := Int.natAbs_mul A B
  have e3 : 0 ≤ A * B := Int.mul_nonneg hA hB
  omega
theorem dotD {x y z v0 v1 v2 : Int} (h1 : okD3 x y z = true) (h2 : okD3 v0 v1 v2 = true) : okW (nearQ (dot3 x y z v0 v1 v2)) = true := by
  obtain ⟨a1, a2, a3⟩ := okD3_iff.1 h1
  obtain ⟨b1, b2, b3⟩ := okD3_iff.1 h2
  have m1 := mulb (okD_iff.1 a1) (okD_iff.1 b1)
  have m2 := mulb (okD_iff.1 a2) (okD_iff.1 b2)
  have m3 := mulb (okD_iff.1 a3) (okD_iff.1 b3)
  have e : dot3 x y z v0 v1 v2 = x * v0 + y * v1 + z * v2 := rfl
  have b : -13835058055282163712 ≤ dot3 x y z v0 v1 v2 ∧ dot3 x y z v0 v1 v2 ≤ 13835058055282163712 := by omega
  generalize dot3 x y z v0 v1 v2 = q at *
  have hq : -17179869184 ≤ nearQ q ∧ nearQ q ≤ 17179869184 := by unfold nearQ oddQ; omega
  unfold okW; simp; omega
theorem vdot_told {x y z v0 v1 v2 : Int} (h1 : okD3 x y z = true) (h2 : okD3 v0 v1 v2 = true) (w : World) : Calls Try.prog 20 #[.agg #[.int .i64 x, .int .i64 y, .int .i64 z], .agg #[.int .i64 v0, .int .i64 v1, .int .i64 v2]] w fun e w' => e = .returned (.tuple #[.int .i64 (nearQ (dot3 x y z v0 v1 v2)), .int .i64 0]) ∧ Ext w w' := by
  have h := vDot_yes x y z v0 v1 v2 w (okD3_ok h1) (okD3_ok h2)
  rw [fit_yes' (dotD h1 h2)] at h
  exact h
theorem okTl_dir {x y z s : Int} {a : Bool} (h : okTl true x y z s a = true) : okD3 x y z = true ∧ (0 ≤ s ∧ s ≤ 1099511627776) ∧ (a = false → s = 0) := by
  have e : okTl true x y z s a = ((a || decide (s = 0)) && (okD3 x y z && okTm s)) := rfl
  rw [e, Bool.and_eq_true, Bool.and_eq_true, Bool.or_eq_true] at h
  refine ⟨h.2.1, okTm_iff.1 h.2.2, fun ha => ?_⟩
  subst ha
  exact of_decide_eq_true (h.1.resolve_left (by simp))
theorem okTl_of {x y z s : Int} {a : Bool} (h : okD3 x y z = true) (hs : 0 ≤ s ∧ s ≤ 1099511627776) (ha : a = false → s = 0) : okTl true x y z s a = true := by
  have e : okTl true x y z s a = ((a || decide (s = 0)) && (okD3 x y z && okTm s)) := rfl
  rw [e, h, okTm_iff.2 hs]
  cases a
  · rw [ha rfl]; rfl
  · rfl
theorem okD3_of {a b c : Int} (h0 : -2147483648 ≤ a ∧ a ≤ 2147483648) (h1 : -2147483648 ≤ b ∧ b ≤ 2147483648) (h2 : -2147483648 ≤ c ∧ c ≤ 2147483648) : okD3 a b c = true := okD3_iff.2 ⟨okD_iff.2 h0, okD_iff.2 h1, okD_iff.2 h2⟩
set_option maxRecDepth 20000 in
set_option maxHeartbeats 4000000 in
theorem wakes19_any (w : World) : Calls Try.prog 10 #[] w fun e w' => e = .returned (.bool true) ∧ Ext w w' := by
  have HA : Hid (∀ w, Calls Try.prog 8 #[.agg #[.bool false, .int .i64 0, .int .i64 0, .int .i64 0, .int .i64 0, .bool false], .agg #[.int .i64 0, .int .i64 0, .int .i64 1073741824], .int .i64 3] w fun e w' => e = .returned (.tuple #[.agg #[.bool true, .int .i64 0, .int .i64 0, .int .i64 1073741824, .int .i64 0, .bool false], .bool false, .int .i64 0]) ∧ Ext w w') := fun w => take_off 0 0 1073741824 3 w (by kernel_rfl) (by kernel_rfl)
  have FX : Hid (Ext w w) := Ext.refl _
  go_enter Try.func10, Try.ntmps10
  go_wp2_with fail
  refine (HA.out _).mono ?_
  rintro e w1 ⟨rfl, x1⟩
  have FX : Hid (Ext w w1) := FX.out.trans x1
  clear x1 HA
  go_upto_region 2 with fail
  have Ls : Hid (w.heap.size ≤ w1.heap.size) := FX.out.size
  have Fs : Hid (HV (w1.alloc (.cells #[.bool true, .int .i64 0, .int .i64 0, .int .i64 1073741824, .int .i64 0, .bool false] 26)) w1.heap.size [.bool true, .int .i64 0, .int .i64 0, .int .i64 1073741824, .int .i64 0, .bool false]) := hv_at rfl
  have FX : Hid (Ext w (w1.alloc (.cells #[.bool true, .int .i64 0, .int .i64 0, .int .i64 1073741824, .int .i64 0, .bool false] 26))) := FX.out.alloc _
  generalize (w1.alloc (.cells #[.bool true, .int .i64 0, .int .i64 0, .int .i64 1073741824, .int .i64 0, .bool false] 26)) = wx1 at *
  generalize w1.heap.size = ns at *
  have qs0 : wx1.cell? ⟨ns, 0, none⟩ = some (.bool true) := Fs.out.c 0 rfl
  have qs1 : wx1.cell? ⟨ns, 1, none⟩ = some (.int .i64 0) := Fs.out.c 1 rfl
  have qs2 : wx1.cell? ⟨ns, 2, none⟩ = some (.int .i64 0) := Fs.out.c 2 rfl
  have qs3 : wx1.cell? ⟨ns, 3, none⟩ = some (.int .i64 1073741824) := Fs.out.c 3 rfl
  have qs4 : wx1.cell? ⟨ns, 4, none⟩ = some (.int .i64 0) := Fs.out.c 4 rfl
  have qs5 : wx1.cell? ⟨ns, 5, none⟩ = some (.bool false) := Fs.out.c 5 rfl
  go_wp2_with (go_at_call 9; refine (num19_any _ _).mono ?_; rintro e wx ⟨rfl, hwx⟩; have hwy := hwx.symm; clear hwx; subst hwy)
  go_ret
  exact ⟨rfl, FX.out⟩
end Go.Proofs.Ytbmocnigmpmfkaa
