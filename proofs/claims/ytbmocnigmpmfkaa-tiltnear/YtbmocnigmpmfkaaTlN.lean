/- TiltNear. -/
import Derived.Test.YtbmocnigmpmfkaaTl2
namespace Go.Proofs.Ytbmocnigmpmfkaa
open Go.RowKit Go.Shelf
/-- near a number -/
def Nr (x : Int) : Prop := -67108864 ≤ x ∧ x ≤ 67108864
/-- between rounds -/
def NI (on : Bool) (x y z N : Int) (k : Nat) : Prop :=
  (k = 0 ∧ on = false ∧ x = 0 ∧ y = 0 ∧ z = 0 ∨ 0 < k ∧ on = true ∧ Nr x ∧ Nr y ∧ z = 1073741824) ∧ 0 ≤ N ∧ N ≤ 2999 * k ∧ k ≤ 80
theorem near_take {x y a b n : Int} (hx : Nr x) (hy : Nr y) (ha : Nr a) (hb : Nr b) (hn : 0 ≤ n ∧ n ≤ 300000) (w : World) : Calls Try.prog 8 #[.agg #[.bool true, .int .i64 x, .int .i64 y, .int .i64 1073741824, .int .i64 0, .bool false], .agg #[.int .i64 a, .int .i64 b, .int .i64 1073741824], .int .i64 n] w fun e w' => e = .returned (.tuple #[.agg #[.bool true, .int .i64 x, .int .i64 y, .int .i64 1073741824, .int .i64 0, .bool false], .bool false, .int .i64 0]) ∧ Ext w w' := by
  have m1 := mulb hx ha
  have m2 := mulb hy hb
  unfold Nr at hx hy ha hb
  have g1 : okD3 x y 1073741824 = true := okD3_of (by omega) (by omega) (by omega)
  have g2 : okD3 a b 1073741824 = true := okD3_of (by omega) (by omega) (by omega)
  refine take_in x y 1073741824 0 false a b 1073741824 n (nearQ (dot3 x y 1073741824 a b 1073741824)) w (okTl_of g1 (by omega) (fun _ => rfl)) g2 (okTm_iff.2 (by omega)) (by omega) (fun w => vdot_told g1 g2 w) ?_
  have e : dot3 x y 1073741824 a b 1073741824 = x * a + y * b + 1073741824 * 1073741824 := rfl
  generalize dot3 x y 1073741824 a b 1073741824 = q at *
  unfold nearQ oddQ; omega
theorem fst_take {a b n : Int} (ha : Nr a) (hb : Nr b) (hn : 0 ≤ n ∧ n ≤ 300000) (w : World) : Calls Try.prog 8 #[.agg #[.bool false, .int .i64 0, .int .i64 0, .int .i64 0, .int .i64 0, .bool false], .agg #[.int .i64 a, .int .i64 b, .int .i64 1073741824], .int .i64 n] w fun e w' => e = .returned (.tuple #[.agg #[.bool true, .int .i64 a, .int .i64 b, .int .i64 1073741824, .int .i64 0, .bool false], .bool false, .int .i64 0]) ∧ Ext w w' := by
  unfold Nr at ha hb
  exact take_off a b 1073741824 n w (okD3_of (by omega) (by omega) (by omega)) (okTm_iff.2 (by omega))
set_option maxRecDepth 20000 in
set_option maxHeartbeats 40000000 in
theorem tiltnear_any (b off len cap : Nat) (C : Nat → Nat → Value) (w : World) (hl : len ≤ maxLen) (hc : ML 10 (fun j => j == 0 || j == 5) w b off len C) :
    Calls Try.prog 3 #[.slice (some ⟨b, off, none⟩) len cap] w fun e w' => e = .returned (.bool true) ∧ Ext w w' := by
  have hl' : len ≤ 9223372036854775807 := by unfold maxLen at hl; omega
  clear hl
  have D0 : Hid (NI false 0 0 0 0 0) := ⟨Or.inl ⟨rfl, rfl, rfl, rfl, rfl⟩, by omega, by omega, by omega⟩
  have Ft : Hid (HV (w.alloc (.cells #[.bool false, .int .i64 0, .int .i64 0, .int .i64 0, .int .i64 0, .bool false] 26)) w.heap.size [.bool false, .int .i64 0, .int .i64 0, .int .i64 0, .int .i64 0, .bool false]) := hv_at rfl
  have FX : Hid (Ext w (w.alloc (.cells #[.bool false, .int .i64 0, .int .i64 0, .int .i64 0, .int .i64 0, .bool false] 26))) := (Ext.refl _).alloc _
  have Lt : Hid (w.heap.size ≤ w.heap.size) := Nat.le_refl _
  go_enter Try.func3, Try.ntmps3
  go_upto_region 2 with fail
  generalize (w.alloc (.cells #[.bool false, .int .i64 0, .int .i64 0, .int .i64 0, .int .i64 0, .bool false] 26)) = wa at *
  go_wp2_with fail
  go_loopw [4, 5] (fun vN vi wr => ∃ (k : Nat) (on : Bool) (x y z N : Int), k ≤ len ∧ vi = .int .i64 k ∧ vN = .int .i64 N ∧ Hid (NI on x y z N k) ∧ Hid (HV wr w.heap.size [.bool on, .int .i64 x, .int .i64 y, .int .i64 z, .int .i64 0, .bool false]) ∧ Hid (Ext w wr)) (fun _ i _ => len - (intOf i).toNat)
  case atStart => exact ⟨0, false, 0, 0, 0, 0, Nat.zero_le _, rfl, rfl, D0, Ft, FX⟩
  case round =>
    clear D0 Ft FX
    obtain ⟨k, on, x, y, z, N, hk, rfl, rfl, HD, Ft, FX⟩ := hrel
    by_cases hlt : k < len
    · by_cases h5 : k < 80
      · skip
        obtain ⟨za, h6, _⟩ := hc.num hlt (j := 6) (by omega) rfl
        obtain ⟨zb, h7, _⟩ := hc.num hlt (j := 7) (by omega) rfl
        obtain ⟨zc, h8, _⟩ := hc.num hlt (j := 8) (by omega) rfl
        obtain ⟨zn, h9, _⟩ := hc.num hlt (j := 9) (by omega) rfl
        have hlt' : (k : Int) < (len : Int) := by omega
        clear hc
        have HV0 : Hid (∀ w, Calls Try.prog 7 #[.agg #[.int .i64 za, .int .i64 zb, .int .i64 zc], .int .i64 67108864] w fun e w' => e = .returned (.agg #[.int .i64 ((brt 67108864 za)), .int .i64 ((brt 67108864 zb)), .int .i64 ((brt 67108864 zc))]) ∧ Ext w w') := fun w => brvec_67108864 za zb zc w
        have Ba : Hid (Nr (brt 67108864 za)) := brt_bounds 67108864 za (by omega)
        have Bb : Hid (Nr (brt 67108864 zb)) := brt_bounds 67108864 zb (by omega)
        generalize brt 67108864 za = a at *
        generalize brt 67108864 zb = b at *
        generalize brt 67108864 zc = c at *
        have HN : Hid (∀ w, Calls Try.prog 6 #[.int .i64 zn, .int .i64 3000] w fun e w' => e = .returned (.int .i64 (zn % 18446744073709551616 % 3000)) ∧ w' = w) := within_3000 zn
        have Bq : Hid (0 ≤ zn % 18446744073709551616 % 3000 ∧ zn % 18446744073709551616 % 3000 ≤ 2999) := ⟨by omega, by omega⟩
        generalize zn % 18446744073709551616 % 3000 = q at *
        have eq : wrap64 (N + q) = N + q := by
          have h := HD.out.2
          have hq := Bq.out
          unfold wrap64; omega
        have HM : Hid (0 ≤ N + q ∧ N + q ≤ 2999 * (k + 1 : Nat) ∧ N + q ≤ 300000) := by
          have h := HD.out.2
          have hq := Bq.out
          exact ⟨by omega, by omega, by omega⟩
        have c9 := FX.out.keepc h9
        go_upto_region 7 with (first | (go_at_call 6; refine (HN.out _).mono ?_; rintro e wx ⟨rfl, hwx⟩; have hwy := hwx.symm; clear hwx; subst hwy))
        try rw [eq]
        clear c9 HN eq Bq
        generalize N + q = n at *
        have c6 := FX.out.keepc h6
        have c7 := FX.out.keepc h7
        have c8 := FX.out.keepc h8
        go_upto_region 8 with (first | (go_at_call 7; refine (HV0.out _).mono ?_; rintro e w1 ⟨rfl, x1⟩))
        have Ft : Hid (HV w1 w.heap.size [.bool on, .int .i64 x, .int .i64 y, .int .i64 z, .int .i64 0, .bool false]) := Ft.out.ext x1
        have FX : Hid (Ext w w1) := FX.out.trans x1
        clear x1 HV0 c6 c7 c8
        have lttd : w.heap.size < w1.heap.size := Ft.out.1
        have Ld : Hid (w.heap.size ≤ w1.heap.size) := FX.out.size
        have Ft : Hid (HV (w1.alloc (.cells #[.int .i64 a, .int .i64 b, .int .i64 c] 24)) w.heap.size [.bool on, .int .i64 x, .int .i64 y, .int .i64 z, .int .i64 0, .bool false]) := Ft.out.alloc _
        have Fd : Hid (HV (w1.alloc (.cells #[.int .i64 a, .int .i64 b, .int .i64 c] 24)) w1.heap.size [.int .i64 a, .int .i64 b, .int .i64 c]) := hv_at rfl
        have FX : Hid (Ext w (w1.alloc (.cells #[.int .i64 a, .int .i64 b, .int .i64 c] 24))) := FX.out.alloc _
        generalize (w1.alloc (.cells #[.int .i64 a, .int .i64 b, .int .i64 c] 24)) = wx1 at *
        generalize w1.heap.size = nd at *
        clear h6 h7 h8 h9
        rcases HD.out.1 with ⟨k0, rfl, rfl, rfl, rfl⟩ | ⟨k0, rfl, hx, hy, rfl⟩
        · have nk : ¬ (0 < k) := by omega
          have dk : decide (0 < (k : Int)) = false := by simp; omega
          have HS : Hid (NI true a b 1073741824 n (k + 1)) := by
            have hm := HM.out
            exact ⟨Or.inr ⟨by omega, rfl, Ba.out, Bb.out, rfl⟩, by omega, by omega, by omega⟩
          skip
          have HT : Hid (∀ w, Calls Try.prog 8 #[.agg #[.bool false, .int .i64 0, .int .i64 0, .int .i64 0, .int .i64 0, .bool false], .agg #[.int .i64 a, .int .i64 b, .int .i64 1073741824], .int .i64 n] w fun e w' => e = .returned (.tuple #[.agg #[.bool true, .int .i64 a, .int .i64 b, .int .i64 1073741824, .int .i64 0, .bool false], .bool false, .int .i64 0]) ∧ Ext w w') := fun w => fst_take Ba.out Bb.out (by have hm := HM.out; omega) w
          clear HM Ba Bb HD k0
          have qt0 : wx1.cell? ⟨w.heap.size, 0, none⟩ = some (.bool false) := Ft.out.c 0 rfl
          have qt1 : wx1.cell? ⟨w.heap.size, 1, none⟩ = some (.int .i64 0) := Ft.out.c 1 rfl
          have qt2 : wx1.cell? ⟨w.heap.size, 2, none⟩ = some (.int .i64 0) := Ft.out.c 2 rfl
          have qt3 : wx1.cell? ⟨w.heap.size, 3, none⟩ = some (.int .i64 0) := Ft.out.c 3 rfl
          have qt4 : wx1.cell? ⟨w.heap.size, 4, none⟩ = some (.int .i64 0) := Ft.out.c 4 rfl
          have qt5 : wx1.cell? ⟨w.heap.size, 5, none⟩ = some (.bool false) := Ft.out.c 5 rfl
          have qd0 : wx1.cell? ⟨nd, 0, none⟩ = some (.int .i64 a) := Fd.out.c 0 rfl
          have qd1 : wx1.cell? ⟨nd, 1, none⟩ = some (.int .i64 b) := Fd.out.c 1 rfl
          go_upto_region 9 with (first | (go_at_call 8; refine (HT.out _).mono ?_; rintro e w2 ⟨rfl, x2⟩))
          have Ft : Hid (HV w2 w.heap.size [.bool false, .int .i64 0, .int .i64 0, .int .i64 0, .int .i64 0, .bool false]) := Ft.out.ext x2
          have Fd : Hid (HV w2 nd [.int .i64 a, .int .i64 b, .int .i64 c]) := Fd.out.ext x2
          have FX : Hid (Ext w w2) := FX.out.trans x2
          clear qt0 qt1 qt2 qt3 qt4 qt5 qd0 qd1 x2 HT
          have lttu : w.heap.size < w2.heap.size := Ft.out.1
          have ltdu : nd < w2.heap.size := Fd.out.1
          have Lu : Hid (w.heap.size ≤ w2.heap.size) := FX.out.size
          have Ft : Hid (HV (w2.alloc (.cells #[.bool true, .int .i64 a, .int .i64 b, .int .i64 1073741824, .int .i64 0, .bool false] 26)) w.heap.size [.bool false, .int .i64 0, .int .i64 0, .int .i64 0, .int .i64 0, .bool false]) := Ft.out.alloc _
          have Fd : Hid (HV (w2.alloc (.cells #[.bool true, .int .i64 a, .int .i64 b, .int .i64 1073741824, .int .i64 0, .bool false] 26)) nd [.int .i64 a, .int .i64 b, .int .i64 c]) := Fd.out.alloc _
          have Fu : Hid (HV (w2.alloc (.cells #[.bool true, .int .i64 a, .int .i64 b, .int .i64 1073741824, .int .i64 0, .bool false] 26)) w2.heap.size [.bool true, .int .i64 a, .int .i64 b, .int .i64 1073741824, .int .i64 0, .bool false]) := hv_at rfl
          have FX : Hid (Ext w (w2.alloc (.cells #[.bool true, .int .i64 a, .int .i64 b, .int .i64 1073741824, .int .i64 0, .bool false] 26))) := FX.out.alloc _
          generalize (w2.alloc (.cells #[.bool true, .int .i64 a, .int .i64 b, .int .i64 1073741824, .int .i64 0, .bool false] 26)) = wx21 at *
          generalize w2.heap.size = nu at *
          have qu0 : wx21.cell? ⟨nu, 0, none⟩ = some (.bool true) := Fu.out.c 0 rfl
          have qu1 : wx21.cell? ⟨nu, 1, none⟩ = some (.int .i64 a) := Fu.out.c 1 rfl
          have qu2 : wx21.cell? ⟨nu, 2, none⟩ = some (.int .i64 b) := Fu.out.c 2 rfl
          have qu3 : wx21.cell? ⟨nu, 3, none⟩ = some (.int .i64 1073741824) := Fu.out.c 3 rfl
          have qu4 : wx21.cell? ⟨nu, 4, none⟩ = some (.int .i64 0) := Fu.out.c 4 rfl
          have qu5 : wx21.cell? ⟨nu, 5, none⟩ = some (.bool false) := Fu.out.c 5 rfl
          have qt1 : wx21.cell? ⟨w.heap.size, 1, none⟩ = some (.int .i64 0) := Ft.out.c 1 rfl
          have qt2 : wx21.cell? ⟨w.heap.size, 2, none⟩ = some (.int .i64 0) := Ft.out.c 2 rfl
          have qt3 : wx21.cell? ⟨w.heap.size, 3, none⟩ = some (.int .i64 0) := Ft.out.c 3 rfl
          go_upto_region 11 with (first | (go_at_call 9; refine (num19_any _ _).mono ?_; rintro e wx ⟨rfl, hwx⟩; have hwy := hwx.symm; clear hwx; subst hwy))
          clear qu0 qu1 qu2 qu3 qu4 qu5 qt1 qt2 qt3
          have qu0 : wx21.cell? ⟨nu, 0, none⟩ = some (.bool true) := Fu.out.c 0 rfl
          have qu1 : wx21.cell? ⟨nu, 1, none⟩ = some (.int .i64 a) := Fu.out.c 1 rfl
          have qu2 : wx21.cell? ⟨nu, 2, none⟩ = some (.int .i64 b) := Fu.out.c 2 rfl
          have qu3 : wx21.cell? ⟨nu, 3, none⟩ = some (.int .i64 1073741824) := Fu.out.c 3 rfl
          have qu4 : wx21.cell? ⟨nu, 4, none⟩ = some (.int .i64 0) := Fu.out.c 4 rfl
          have qu5 : wx21.cell? ⟨nu, 5, none⟩ = some (.bool false) := Fu.out.c 5 rfl
          have y0 : wx21.cell? ⟨w.heap.size, 0, none⟩ = some (.bool false) := Ft.out.c 0 rfl
          have g0 : wx21.frozen? ⟨w.heap.size, 0, none⟩ = false := Ft.out.f 0 rfl
          have y1 : wx21.cell? ⟨w.heap.size, 1, none⟩ = some (.int .i64 0) := Ft.out.c 1 rfl
          have g1 : wx21.frozen? ⟨w.heap.size, 1, none⟩ = false := Ft.out.f 1 rfl
          have y2 : wx21.cell? ⟨w.heap.size, 2, none⟩ = some (.int .i64 0) := Ft.out.c 2 rfl
          have g2 : wx21.frozen? ⟨w.heap.size, 2, none⟩ = false := Ft.out.f 2 rfl
          have y3 : wx21.cell? ⟨w.heap.size, 3, none⟩ = some (.int .i64 0) := Ft.out.c 3 rfl
          have g3 : wx21.frozen? ⟨w.heap.size, 3, none⟩ = false := Ft.out.f 3 rfl
          have y4 : wx21.cell? ⟨w.heap.size, 4, none⟩ = some (.int .i64 0) := Ft.out.c 4 rfl
          have g4 : wx21.frozen? ⟨w.heap.size, 4, none⟩ = false := Ft.out.f 4 rfl
          have y5 : wx21.cell? ⟨w.heap.size, 5, none⟩ = some (.bool false) := Ft.out.c 5 rfl
          have g5 : wx21.frozen? ⟨w.heap.size, 5, none⟩ = false := Ft.out.f 5 rfl
          go_wp2_with fail
          go_roundw
          case rel => exact ⟨k + 1, true, a, b, 1073741824, n, by omega, by go_num, rfl, HS, ((((((Ft.out.set 0 (.bool true)).set 1 (.int .i64 a)).set 2 (.int .i64 b)).set 3 (.int .i64 1073741824)).set 4 (.int .i64 0)).set 5 (.bool false)), ((((((FX.out.set (p := ⟨w.heap.size, 0, none⟩) Lt.out _).set (p := ⟨w.heap.size, 1, none⟩) Lt.out _).set (p := ⟨w.heap.size, 2, none⟩) Lt.out _).set (p := ⟨w.heap.size, 3, none⟩) Lt.out _).set (p := ⟨w.heap.size, 4, none⟩) Lt.out _).set (p := ⟨w.heap.size, 5, none⟩) Lt.out _)⟩
          case measure => simp [intOf]; omega
        · have nk : 0 < k := by omega
          have dk : decide (0 < (k : Int)) = true := by simp; omega
          have HS : Hid (NI true x y 1073741824 n (k + 1)) := by
            have hm := HM.out
            exact ⟨Or.inr ⟨by omega, rfl, hx, hy, rfl⟩, by omega, by omega, by omega⟩
          skip
          have HT : Hid (∀ w, Calls Try.prog 8 #[.agg #[.bool true, .int .i64 x, .int .i64 y, .int .i64 1073741824, .int .i64 0, .bool false], .agg #[.int .i64 a, .int .i64 b, .int .i64 1073741824], .int .i64 n] w fun e w' => e = .returned (.tuple #[.agg #[.bool true, .int .i64 x, .int .i64 y, .int .i64 1073741824, .int .i64 0, .bool false], .bool false, .int .i64 0]) ∧ Ext w w') := fun w => near_take hx hy Ba.out Bb.out (by have hm := HM.out; omega) w
          clear HM Ba Bb HD k0 hx hy
          have qt0 : wx1.cell? ⟨w.heap.size, 0, none⟩ = some (.bool true) := Ft.out.c 0 rfl
          have qt1 : wx1.cell? ⟨w.heap.size, 1, none⟩ = some (.int .i64 x) := Ft.out.c 1 rfl
          have qt2 : wx1.cell? ⟨w.heap.size, 2, none⟩ = some (.int .i64 y) := Ft.out.c 2 rfl
          have qt3 : wx1.cell? ⟨w.heap.size, 3, none⟩ = some (.int .i64 1073741824) := Ft.out.c 3 rfl
          have qt4 : wx1.cell? ⟨w.heap.size, 4, none⟩ = some (.int .i64 0) := Ft.out.c 4 rfl
          have qt5 : wx1.cell? ⟨w.heap.size, 5, none⟩ = some (.bool false) := Ft.out.c 5 rfl
          have qd0 : wx1.cell? ⟨nd, 0, none⟩ = some (.int .i64 a) := Fd.out.c 0 rfl
          have qd1 : wx1.cell? ⟨nd, 1, none⟩ = some (.int .i64 b) := Fd.out.c 1 rfl
          go_upto_region 9 with (first | (go_at_call 8; refine (HT.out _).mono ?_; rintro e w2 ⟨rfl, x2⟩))
          have Ft : Hid (HV w2 w.heap.size [.bool true, .int .i64 x, .int .i64 y, .int .i64 1073741824, .int .i64 0, .bool false]) := Ft.out.ext x2
          have Fd : Hid (HV w2 nd [.int .i64 a, .int .i64 b, .int .i64 c]) := Fd.out.ext x2
          have FX : Hid (Ext w w2) := FX.out.trans x2
          clear qt0 qt1 qt2 qt3 qt4 qt5 qd0 qd1 x2 HT
          have lttu : w.heap.size < w2.heap.size := Ft.out.1
          have ltdu : nd < w2.heap.size := Fd.out.1
          have Lu : Hid (w.heap.size ≤ w2.heap.size) := FX.out.size
          have Ft : Hid (HV (w2.alloc (.cells #[.bool true, .int .i64 x, .int .i64 y, .int .i64 1073741824, .int .i64 0, .bool false] 26)) w.heap.size [.bool true, .int .i64 x, .int .i64 y, .int .i64 1073741824, .int .i64 0, .bool false]) := Ft.out.alloc _
          have Fd : Hid (HV (w2.alloc (.cells #[.bool true, .int .i64 x, .int .i64 y, .int .i64 1073741824, .int .i64 0, .bool false] 26)) nd [.int .i64 a, .int .i64 b, .int .i64 c]) := Fd.out.alloc _
          have Fu : Hid (HV (w2.alloc (.cells #[.bool true, .int .i64 x, .int .i64 y, .int .i64 1073741824, .int .i64 0, .bool false] 26)) w2.heap.size [.bool true, .int .i64 x, .int .i64 y, .int .i64 1073741824, .int .i64 0, .bool false]) := hv_at rfl
          have FX : Hid (Ext w (w2.alloc (.cells #[.bool true, .int .i64 x, .int .i64 y, .int .i64 1073741824, .int .i64 0, .bool false] 26))) := FX.out.alloc _
          generalize (w2.alloc (.cells #[.bool true, .int .i64 x, .int .i64 y, .int .i64 1073741824, .int .i64 0, .bool false] 26)) = wx21 at *
          generalize w2.heap.size = nu at *
          have qu0 : wx21.cell? ⟨nu, 0, none⟩ = some (.bool true) := Fu.out.c 0 rfl
          have qu1 : wx21.cell? ⟨nu, 1, none⟩ = some (.int .i64 x) := Fu.out.c 1 rfl
          have qu2 : wx21.cell? ⟨nu, 2, none⟩ = some (.int .i64 y) := Fu.out.c 2 rfl
          have qu3 : wx21.cell? ⟨nu, 3, none⟩ = some (.int .i64 1073741824) := Fu.out.c 3 rfl
          have qu4 : wx21.cell? ⟨nu, 4, none⟩ = some (.int .i64 0) := Fu.out.c 4 rfl
          have qu5 : wx21.cell? ⟨nu, 5, none⟩ = some (.bool false) := Fu.out.c 5 rfl
          have qt1 : wx21.cell? ⟨w.heap.size, 1, none⟩ = some (.int .i64 x) := Ft.out.c 1 rfl
          have qt2 : wx21.cell? ⟨w.heap.size, 2, none⟩ = some (.int .i64 y) := Ft.out.c 2 rfl
          have qt3 : wx21.cell? ⟨w.heap.size, 3, none⟩ = some (.int .i64 1073741824) := Ft.out.c 3 rfl
          go_upto_region 11 with (first | (go_at_call 9; refine (num19_any _ _).mono ?_; rintro e wx ⟨rfl, hwx⟩; have hwy := hwx.symm; clear hwx; subst hwy))
          clear qu0 qu1 qu2 qu3 qu4 qu5 qt1 qt2 qt3
          have qu0 : wx21.cell? ⟨nu, 0, none⟩ = some (.bool true) := Fu.out.c 0 rfl
          have qu1 : wx21.cell? ⟨nu, 1, none⟩ = some (.int .i64 x) := Fu.out.c 1 rfl
          have qu2 : wx21.cell? ⟨nu, 2, none⟩ = some (.int .i64 y) := Fu.out.c 2 rfl
          have qu3 : wx21.cell? ⟨nu, 3, none⟩ = some (.int .i64 1073741824) := Fu.out.c 3 rfl
          have qu4 : wx21.cell? ⟨nu, 4, none⟩ = some (.int .i64 0) := Fu.out.c 4 rfl
          have qu5 : wx21.cell? ⟨nu, 5, none⟩ = some (.bool false) := Fu.out.c 5 rfl
          have y0 : wx21.cell? ⟨w.heap.size, 0, none⟩ = some (.bool true) := Ft.out.c 0 rfl
          have g0 : wx21.frozen? ⟨w.heap.size, 0, none⟩ = false := Ft.out.f 0 rfl
          have y1 : wx21.cell? ⟨w.heap.size, 1, none⟩ = some (.int .i64 x) := Ft.out.c 1 rfl
          have g1 : wx21.frozen? ⟨w.heap.size, 1, none⟩ = false := Ft.out.f 1 rfl
          have y2 : wx21.cell? ⟨w.heap.size, 2, none⟩ = some (.int .i64 y) := Ft.out.c 2 rfl
          have g2 : wx21.frozen? ⟨w.heap.size, 2, none⟩ = false := Ft.out.f 2 rfl
          have y3 : wx21.cell? ⟨w.heap.size, 3, none⟩ = some (.int .i64 1073741824) := Ft.out.c 3 rfl
          have g3 : wx21.frozen? ⟨w.heap.size, 3, none⟩ = false := Ft.out.f 3 rfl
          have y4 : wx21.cell? ⟨w.heap.size, 4, none⟩ = some (.int .i64 0) := Ft.out.c 4 rfl
          have g4 : wx21.frozen? ⟨w.heap.size, 4, none⟩ = false := Ft.out.f 4 rfl
          have y5 : wx21.cell? ⟨w.heap.size, 5, none⟩ = some (.bool false) := Ft.out.c 5 rfl
          have g5 : wx21.frozen? ⟨w.heap.size, 5, none⟩ = false := Ft.out.f 5 rfl
          go_wp2_with fail
          go_roundw
          case rel => exact ⟨k + 1, true, x, y, 1073741824, n, by omega, by go_num, rfl, HS, ((((((Ft.out.set 0 (.bool true)).set 1 (.int .i64 x)).set 2 (.int .i64 y)).set 3 (.int .i64 1073741824)).set 4 (.int .i64 0)).set 5 (.bool false)), ((((((FX.out.set (p := ⟨w.heap.size, 0, none⟩) Lt.out _).set (p := ⟨w.heap.size, 1, none⟩) Lt.out _).set (p := ⟨w.heap.size, 2, none⟩) Lt.out _).set (p := ⟨w.heap.size, 3, none⟩) Lt.out _).set (p := ⟨w.heap.size, 4, none⟩) Lt.out _).set (p := ⟨w.heap.size, 5, none⟩) Lt.out _)⟩
          case measure => simp [intOf]; omega
      · go_wp2_with fail
        refine (wakes19_any _).mono ?_
        rintro e w1 ⟨rfl, x1⟩
        have E1 : Ext w w1 := FX.out.trans x1
        go_wp2_with fail
        go_ret
        exact ⟨rfl, E1⟩
    · have hk' : k = len := by omega
      subst hk'
      go_wp2_with fail
      refine (wakes19_any _).mono ?_
      rintro e w1 ⟨rfl, x1⟩
      have E1 : Ext w w1 := FX.out.trans x1
      go_wp2_with fail
      go_ret
      exact ⟨rfl, E1⟩
set_option maxRecDepth 20000 in
set_option maxHeartbeats 4000000 in
theorem tiltnear_none (a : Option Addr) (cap : Nat) (w : World) :
    Calls Try.prog 3 #[.slice a 0 cap] w fun e w' => e = .returned (.bool true) ∧ Ext w w' := by
  have FX : Hid (Ext w (w.alloc (.cells #[.bool false, .int .i64 0, .int .i64 0, .int .i64 0, .int .i64 0, .bool false] 26))) := (Ext.refl _).alloc _
  go_enter Try.func3, Try.ntmps3
  go_upto_region 2 with fail
  generalize (w.alloc (.cells #[.bool false, .int .i64 0, .int .i64 0, .int .i64 0, .int .i64 0, .bool false] 26)) = wa at *
  go_wp2_with fail
  go_loopw [4, 5] (fun _ i wr => i = .int .i64 0 ∧ Hid (Ext w wr)) (fun _ _ _ => 0)
  case atStart => exact ⟨rfl, FX⟩
  case round =>
    clear FX
    obtain ⟨rfl, FX⟩ := hrel
    go_wp2_with fail
    refine (wakes19_any _).mono ?_
    rintro e w1 ⟨rfl, x1⟩
    have E1 : Ext w w1 := FX.out.trans x1
    go_wp2_with fail
    go_ret
    exact ⟨rfl, E1⟩
end Go.Proofs.Ytbmocnigmpmfkaa
