/- CalPlain. -/
import Derived.Test.YtnilhamcojjloaaCa5
import Derived.Deep.Cut
import Derived.Deep.DeepCutAuto
namespace Go.Proofs.Ytnilhamcojjloaa
open Go.RowKit Go.Shelf
theorem plain_told (x y v t g0 g1 g2 d0 d1 d2 : Int) (hr : okR x y v t = true) (k0 : -1099511627776 ≤ g0 ∧ g0 ≤ 1099511627776) (k1 : -1099511627776 ≤ g1 ∧ g1 ≤ 1099511627776) (k2 : -1099511627776 ≤ g2 ∧ g2 ≤ 1099511627776) (j0 : -1099511627776 ≤ d0 ∧ d0 ≤ 1099511627776) (j1 : -1099511627776 ≤ d1 ∧ d1 ≤ 1099511627776) (j2 : -1099511627776 ≤ d2 ∧ d2 ≤ 1099511627776) :
    (∀ w, Calls Try.prog 10 #[.agg #[.int .i64 0, .int .i64 0, .int .i64 0, .int .i64 0, .int .i64 0, .int .i64 0, .int .i64 0, .int .i64 1073741824, .int .i64 0, .int .i64 0, .int .i64 0, .int .i64 1073741824, .int .i64 0, .int .i64 0, .int .i64 0, .int .i64 1073741824], .agg #[.int .i64 x, .int .i64 y, .int .i64 v, .int .i64 t]] w fun e w' => e = .returned (.tuple #[.agg #[.int .i64 (1024 * x), .int .i64 (1024 * y), .int .i64 (1024 * v)], .int .i64 0]) ∧ Ext w w') ∧ (∀ w, Calls Try.prog 10 #[.agg #[.int .i64 g0, .int .i64 g1, .int .i64 g2, .int .i64 0, .int .i64 0, .int .i64 0, .int .i64 0, .int .i64 1073741824, .int .i64 0, .int .i64 0, .int .i64 0, .int .i64 1073741824, .int .i64 0, .int .i64 0, .int .i64 0, .int .i64 1073741824], .agg #[.int .i64 x, .int .i64 y, .int .i64 v, .int .i64 t]] w fun e w' => e = .returned (.tuple #[.agg #[.int .i64 (1024 * x - g0), .int .i64 (1024 * y - g1), .int .i64 (1024 * v - g2)], .int .i64 0]) ∧ Ext w w') ∧ (∀ w, Calls Try.prog 10 #[.agg #[.int .i64 g0, .int .i64 g1, .int .i64 g2, .int .i64 d0, .int .i64 d1, .int .i64 d2, .int .i64 t, .int .i64 1073741824, .int .i64 0, .int .i64 0, .int .i64 0, .int .i64 1073741824, .int .i64 0, .int .i64 0, .int .i64 0, .int .i64 1073741824], .agg #[.int .i64 x, .int .i64 y, .int .i64 v, .int .i64 t]] w fun e w' => e = .returned (.tuple #[.agg #[.int .i64 (1024 * x - g0), .int .i64 (1024 * y - g1), .int .i64 (1024 * v - g2)], .int .i64 0]) ∧ Ext w w') ∧ (∀ w, Calls Try.prog 10 #[.agg #[.int .i64 g0, .int .i64 g1, .int .i64 g2, .int .i64 d0, .int .i64 d1, .int .i64 d2, .int .i64 t, .int .i64 2147483648, .int .i64 0, .int .i64 0, .int .i64 0, .int .i64 2147483648, .int .i64 0, .int .i64 0, .int .i64 0, .int .i64 2147483648], .agg #[.int .i64 x, .int .i64 y, .int .i64 v, .int .i64 t]] w fun e w' => e = .returned (.tuple #[.agg #[.int .i64 (2 * (1024 * x - g0)), .int .i64 (2 * (1024 * y - g1)), .int .i64 (2 * (1024 * v - g2))], .int .i64 0]) ∧ Ext w w') := by
  obtain ⟨bx, b_y, bz, bt⟩ := okR_bounds hr
  have e0 : ∀ a : Int, 1 * clr a 0 0 (t - 0) = 1024 * a := fun a => by unfold clr; rw [Int.zero_mul]; omega
  have e1 : ∀ a g : Int, 1 * clr a g 0 (t - 0) = 1024 * a - g := fun a g => by unfold clr; rw [Int.zero_mul]; omega
  have e2 : ∀ a g d : Int, 1 * clr a g d (t - t) = 1024 * a - g := fun a g d => by unfold clr; rw [Int.sub_self, Int.mul_zero]; omega
  have e3 : ∀ a g d : Int, 2 * clr a g d (t - t) = 2 * (1024 * a - g) := fun a g d => by unfold clr; rw [Int.sub_self, Int.mul_zero]; omega
  have hg : ok3 g0 g1 g2 = true := by unfold ok3; rw [okW_of (by omega) (by omega), okW_of (by omega) (by omega), okW_of (by omega) (by omega)]; rfl
  have hd : ok3 d0 d1 d2 = true := by unfold ok3; rw [okW_of (by omega) (by omega), okW_of (by omega) (by omega), okW_of (by omega) (by omega)]; rfl
  refine ⟨fun w => ?_, fun w => ?_, fun w => ?_, fun w => ?_⟩
  · have h := cApply_any 0 0 0 0 0 0 0 (dg (1 * 1073741824)) x y v t w
    rw [calR_dg 1 0 0 0 0 0 0 0 x y v t (.inl rfl) hr (by decide) (by decide) (by decide) (by rw [e0, e0, e0]; unfold ok3; rw [okW_of (by omega) (by omega), okW_of (by omega) (by omega), okW_of (by omega) (by omega)]; rfl), e0, e0, e0] at h
    exact h
  · have h := cApply_any g0 g1 g2 0 0 0 0 (dg (1 * 1073741824)) x y v t w
    rw [calR_dg 1 g0 g1 g2 0 0 0 0 x y v t (.inl rfl) hr (by decide) hg (by decide) (by rw [e1, e1, e1]; unfold ok3; rw [okW_of (by omega) (by omega), okW_of (by omega) (by omega), okW_of (by omega) (by omega)]; rfl), e1, e1, e1] at h
    exact h
  · have h := cApply_any g0 g1 g2 d0 d1 d2 t (dg (1 * 1073741824)) x y v t w
    rw [calR_dg 1 g0 g1 g2 d0 d1 d2 t x y v t (.inl rfl) hr bt hg hd (by rw [e2, e2, e2]; unfold ok3; rw [okW_of (by omega) (by omega), okW_of (by omega) (by omega), okW_of (by omega) (by omega)]; rfl), e2, e2, e2] at h
    exact h
  · have h := cApply_any g0 g1 g2 d0 d1 d2 t (dg (2 * 1073741824)) x y v t w
    rw [calR_dg 2 g0 g1 g2 d0 d1 d2 t x y v t (.inr rfl) hr bt hg hd (by rw [e3, e3, e3]; unfold ok3; rw [okW_of (by omega) (by omega), okW_of (by omega) (by omega), okW_of (by omega) (by omega)]; rfl), e3, e3, e3] at h
    exact h

set_option maxHeartbeats 40000000 in
set_option maxRecDepth 20000 in
theorem calplain_any (b off len cap : Nat) (Z : Nat → Nat → Int) (w : World) (hl : len ≤ maxLen) (hc : Asks w b off len Z) :
    Calls Try.prog 4 #[.slice (some ⟨b, off, none⟩) len cap] w fun e w' => e = .returned (.bool true) ∧ Ext w w' := by
  have hl' : len ≤ 9223372036854775807 := by unfold maxLen at hl; omega
  clear hl
  go_enter Try.func4, Try.ntmps4
  go_wp2_with fail
  go_loopw [3] (fun i wr => ∃ k : Nat, k ≤ len ∧ i = .int .i64 k ∧ Ext w wr) (fun i _ => len - (intOf i).toNat)
  case atStart => exact ⟨0, Nat.zero_le _, rfl, Ext.refl _⟩
  case round =>
    obtain ⟨k, hk, rfl, hx⟩ := hrel
    have HX : Hid (Ext w wr) := hx
    clear hx
    by_cases hlt : k < len
    · by_cases h20 : k < 20
      · have RW := (hc.ext HX.out).row hlt
        have hlt' : (k : Int) < (len : Int) := by omega
        have HZ : Hid (∀ j, j < 20 → -9223372036854775808 ≤ Z k j ∧ Z k j ≤ 9223372036854775807) := fun j hj => (hc k hlt j hj).2
        clear hc
        generalize Z k = z at *
        have hs20 : (Try.prog.info? 31).map (·.size) = some ([.int .i64 (z 0), .int .i64 (z 1), .int .i64 (z 2), .int .i64 (z 3), .int .i64 (z 4), .int .i64 (z 5), .int .i64 (z 6), .int .i64 (z 7), .int .i64 (z 8), .int .i64 (z 9), .int .i64 (z 10), .int .i64 (z 11), .int .i64 (z 12), .int .i64 (z 13), .int .i64 (z 14), .int .i64 (z 15), .int .i64 (z 16), .int .i64 (z 17), .int .i64 (z 18), .int .i64 (z 19)] : List Value).length := by kernel_rfl
        have Fp : Hid (HV (wr.alloc (.cells #[.int .i64 (z 0), .int .i64 (z 1), .int .i64 (z 2), .int .i64 (z 3), .int .i64 (z 4), .int .i64 (z 5), .int .i64 (z 6), .int .i64 (z 7), .int .i64 (z 8), .int .i64 (z 9), .int .i64 (z 10), .int .i64 (z 11), .int .i64 (z 12), .int .i64 (z 13), .int .i64 (z 14), .int .i64 (z 15), .int .i64 (z 16), .int .i64 (z 17), .int .i64 (z 18), .int .i64 (z 19)] 31)) wr.heap.size [.int .i64 (z 0), .int .i64 (z 1), .int .i64 (z 2), .int .i64 (z 3), .int .i64 (z 4), .int .i64 (z 5), .int .i64 (z 6), .int .i64 (z 7), .int .i64 (z 8), .int .i64 (z 9), .int .i64 (z 10), .int .i64 (z 11), .int .i64 (z 12), .int .i64 (z 13), .int .i64 (z 14), .int .i64 (z 15), .int .i64 (z 16), .int .i64 (z 17), .int .i64 (z 18), .int .i64 (z 19)]) := hv_at rfl
        have FX : Hid (Ext w (wr.alloc (.cells #[.int .i64 (z 0), .int .i64 (z 1), .int .i64 (z 2), .int .i64 (z 3), .int .i64 (z 4), .int .i64 (z 5), .int .i64 (z 6), .int .i64 (z 7), .int .i64 (z 8), .int .i64 (z 9), .int .i64 (z 10), .int .i64 (z 11), .int .i64 (z 12), .int .i64 (z 13), .int .i64 (z 14), .int .i64 (z 15), .int .i64 (z 16), .int .i64 (z 17), .int .i64 (z 18), .int .i64 (z 19)] 31))) := HX.out.alloc _
        clear HX
        go_upto_region 5 with (first | ((with_reducible show wpList _ _ _ (_ :: _) _ _); refine wpList_load_mid rfl 31 (.tmp 28) rfl b (off + k * 20) rfl [.int .i64 (z 0), .int .i64 (z 1), .int .i64 (z 2), .int .i64 (z 3), .int .i64 (z 4), .int .i64 (z 5), .int .i64 (z 6), .int .i64 (z 7), .int .i64 (z 8), .int .i64 (z 9), .int .i64 (z 10), .int .i64 (z 11), .int .i64 (z 12), .int .i64 (z 13), .int .i64 (z 14), .int .i64 (z 15), .int .i64 (z 16), .int .i64 (z 17), .int .i64 (z 18), .int .i64 (z 19)] _ RW Try.underlying31 rfl hs20 ?_) | ((with_reducible show wpList _ _ _ (_ :: _) _ _); refine wpList_store_new 31 [.int .i64 0, .int .i64 0, .int .i64 0, .int .i64 0, .int .i64 0, .int .i64 0, .int .i64 0, .int .i64 0, .int .i64 0, .int .i64 0, .int .i64 0, .int .i64 0, .int .i64 0, .int .i64 0, .int .i64 0, .int .i64 0, .int .i64 0, .int .i64 0, .int .i64 0, .int .i64 0] [.int .i64 (z 0), .int .i64 (z 1), .int .i64 (z 2), .int .i64 (z 3), .int .i64 (z 4), .int .i64 (z 5), .int .i64 (z 6), .int .i64 (z 7), .int .i64 (z 8), .int .i64 (z 9), .int .i64 (z 10), .int .i64 (z 11), .int .i64 (z 12), .int .i64 (z 13), .int .i64 (z 14), .int .i64 (z 15), .int .i64 (z 16), .int .i64 (z 17), .int .i64 (z 18), .int .i64 (z 19)] rfl 31 (.tmp 4) (.tmp 29) rfl rfl rfl rfl hs20 (by simp [Value.oneCell']) ?_))
        clear RW hs20
        generalize (wr.alloc (.cells #[.int .i64 (z 0), .int .i64 (z 1), .int .i64 (z 2), .int .i64 (z 3), .int .i64 (z 4), .int .i64 (z 5), .int .i64 (z 6), .int .i64 (z 7), .int .i64 (z 8), .int .i64 (z 9), .int .i64 (z 10), .int .i64 (z 11), .int .i64 (z 12), .int .i64 (z 13), .int .i64 (z 14), .int .i64 (z 15), .int .i64 (z 16), .int .i64 (z 17), .int .i64 (z 18), .int .i64 (z 19)] 31)) = w0 at *
        generalize hnp : wr.heap.size = np at *
        clear hnp
        have HR : Hid (∀ w, Calls Try.prog 8 #[.agg #[.int .i64 (z 16), .int .i64 (z 17), .int .i64 (z 18), .int .i64 (z 19)]] w fun e w' => e = .returned (.bool (okR (z 16) (z 17) (z 18) (z 19))) ∧ Ext w w') := mayraw_any _ _ _ _
        cases h1 : okR (z 16) (z 17) (z 18) (z 19)
        · rw [h1] at HR
          have qp16 : w0.cell? ⟨np, 16, none⟩ = some (.int .i64 (z 16)) := Fp.out.c 16 rfl
          have qp17 : w0.cell? ⟨np, 17, none⟩ = some (.int .i64 (z 17)) := Fp.out.c 17 rfl
          have qp18 : w0.cell? ⟨np, 18, none⟩ = some (.int .i64 (z 18)) := Fp.out.c 18 rfl
          have qp19 : w0.cell? ⟨np, 19, none⟩ = some (.int .i64 (z 19)) := Fp.out.c 19 rfl
          go_wp2_with (go_at_call 8; refine (HR.out _).mono ?_; rintro e u0 ⟨rfl, x0⟩)
          go_roundw
          case rel => exact ⟨k + 1, by omega, by go_num, FX.out.trans x0⟩
          case measure => simp [intOf]; omega
        · rw [h1] at HR
          have qp16 : w0.cell? ⟨np, 16, none⟩ = some (.int .i64 (z 16)) := Fp.out.c 16 rfl
          have qp17 : w0.cell? ⟨np, 17, none⟩ = some (.int .i64 (z 17)) := Fp.out.c 17 rfl
          have qp18 : w0.cell? ⟨np, 18, none⟩ = some (.int .i64 (z 18)) := Fp.out.c 18 rfl
          have qp19 : w0.cell? ⟨np, 19, none⟩ = some (.int .i64 (z 19)) := Fp.out.c 19 rfl
          go_upto_region 6 with (first | (go_at_call 8; refine (HR.out _).mono ?_; rintro e u0 ⟨rfl, x0⟩))
          have Fp : Hid (HV u0 np [.int .i64 (z 0), .int .i64 (z 1), .int .i64 (z 2), .int .i64 (z 3), .int .i64 (z 4), .int .i64 (z 5), .int .i64 (z 6), .int .i64 (z 7), .int .i64 (z 8), .int .i64 (z 9), .int .i64 (z 10), .int .i64 (z 11), .int .i64 (z 12), .int .i64 (z 13), .int .i64 (z 14), .int .i64 (z 15), .int .i64 (z 16), .int .i64 (z 17), .int .i64 (z 18), .int .i64 (z 19)]) := Fp.out.ext x0
          have FX : Hid (Ext w u0) := FX.out.trans x0
          clear qp16 qp17 qp18 qp19 x0 HR
          have hsC : (Try.prog.info? 27).map (·.size) = some ([.int .i64 0, .int .i64 0, .int .i64 0, .int .i64 0, .int .i64 0, .int .i64 0, .int .i64 0, .int .i64 1073741824, .int .i64 0, .int .i64 0, .int .i64 0, .int .i64 1073741824, .int .i64 0, .int .i64 0, .int .i64 0, .int .i64 1073741824] : List Value).length := by kernel_rfl
          have HB : Hid (∀ w, Calls Try.prog 16 #[.agg #[.int .i64 (z 0), .int .i64 (z 1), .int .i64 (z 2)], .int .i64 1099511627776] w fun e w' => e = .returned (.agg #[.int .i64 (brt 1099511627776 (z 0)), .int .i64 (brt 1099511627776 (z 1)), .int .i64 (brt 1099511627776 (z 2))]) ∧ Ext w w') := brvec_1099511627776 _ _ _
          have HD : Hid (∀ w, Calls Try.prog 16 #[.agg #[.int .i64 (z 3), .int .i64 (z 4), .int .i64 (z 5)], .int .i64 1099511627776] w fun e w' => e = .returned (.agg #[.int .i64 (brt 1099511627776 (z 3)), .int .i64 (brt 1099511627776 (z 4)), .int .i64 (brt 1099511627776 (z 5))]) ∧ Ext w w') := brvec_1099511627776 _ _ _
          have bb0 := brt_bounds 1099511627776 (z 0) (by omega)
          have bb1 := brt_bounds 1099511627776 (z 1) (by omega)
          have bb2 := brt_bounds 1099511627776 (z 2) (by omega)
          have bb3 := brt_bounds 1099511627776 (z 3) (by omega)
          have bb4 := brt_bounds 1099511627776 (z 4) (by omega)
          have bb5 := brt_bounds 1099511627776 (z 5) (by omega)
          generalize brt 1099511627776 (z 0) = g0 at *
          generalize brt 1099511627776 (z 3) = d0 at *
          generalize brt 1099511627776 (z 1) = g1 at *
          generalize brt 1099511627776 (z 4) = d1 at *
          generalize brt 1099511627776 (z 2) = g2 at *
          generalize brt 1099511627776 (z 5) = d2 at *
          obtain ⟨A1, A2, A3, A4⟩ := plain_told (z 16) (z 17) (z 18) (z 19) g0 g1 g2 d0 d1 d2 h1 bb0 bb1 bb2 bb3 bb4 bb5
          obtain ⟨⟨bx1, bx2⟩, ⟨by1, by2⟩, ⟨bv1, bv2⟩, _⟩ := okR_bounds h1
          obtain ⟨g01, g02⟩ := bb0
          obtain ⟨g11, g12⟩ := bb1
          obtain ⟨g21, g22⟩ := bb2
          clear bb3 bb4 bb5 h1
          generalize z 16 = x at *
          generalize z 17 = y at *
          generalize z 18 = v at *
          generalize z 19 = t at *
          have A1 : Hid (∀ w, Calls Try.prog 10 #[.agg #[.int .i64 0, .int .i64 0, .int .i64 0, .int .i64 0, .int .i64 0, .int .i64 0, .int .i64 0, .int .i64 1073741824, .int .i64 0, .int .i64 0, .int .i64 0, .int .i64 1073741824, .int .i64 0, .int .i64 0, .int .i64 0, .int .i64 1073741824], .agg #[.int .i64 x, .int .i64 y, .int .i64 v, .int .i64 t]] w fun e w' => e = .returned (.tuple #[.agg #[.int .i64 (1024 * x), .int .i64 (1024 * y), .int .i64 (1024 * v)], .int .i64 0]) ∧ Ext w w') := A1
          have A2 : Hid (∀ w, Calls Try.prog 10 #[.agg #[.int .i64 g0, .int .i64 g1, .int .i64 g2, .int .i64 0, .int .i64 0, .int .i64 0, .int .i64 0, .int .i64 1073741824, .int .i64 0, .int .i64 0, .int .i64 0, .int .i64 1073741824, .int .i64 0, .int .i64 0, .int .i64 0, .int .i64 1073741824], .agg #[.int .i64 x, .int .i64 y, .int .i64 v, .int .i64 t]] w fun e w' => e = .returned (.tuple #[.agg #[.int .i64 (1024 * x - g0), .int .i64 (1024 * y - g1), .int .i64 (1024 * v - g2)], .int .i64 0]) ∧ Ext w w') := A2
          have A3 : Hid (∀ w, Calls Try.prog 10 #[.agg #[.int .i64 g0, .int .i64 g1, .int .i64 g2, .int .i64 d0, .int .i64 d1, .int .i64 d2, .int .i64 t, .int .i64 1073741824, .int .i64 0, .int .i64 0, .int .i64 0, .int .i64 1073741824, .int .i64 0, .int .i64 0, .int .i64 0, .int .i64 1073741824], .agg #[.int .i64 x, .int .i64 y, .int .i64 v, .int .i64 t]] w fun e w' => e = .returned (.tuple #[.agg #[.int .i64 (1024 * x - g0), .int .i64 (1024 * y - g1), .int .i64 (1024 * v - g2)], .int .i64 0]) ∧ Ext w w') := A3
          have A4 : Hid (∀ w, Calls Try.prog 10 #[.agg #[.int .i64 g0, .int .i64 g1, .int .i64 g2, .int .i64 d0, .int .i64 d1, .int .i64 d2, .int .i64 t, .int .i64 2147483648, .int .i64 0, .int .i64 0, .int .i64 0, .int .i64 2147483648, .int .i64 0, .int .i64 0, .int .i64 0, .int .i64 2147483648], .agg #[.int .i64 x, .int .i64 y, .int .i64 v, .int .i64 t]] w fun e w' => e = .returned (.tuple #[.agg #[.int .i64 (2 * (1024 * x - g0)), .int .i64 (2 * (1024 * y - g1)), .int .i64 (2 * (1024 * v - g2))], .int .i64 0]) ∧ Ext w w') := A4
          go_upto_region 7 with (first | (go_at_call 13; refine (plain_any _).mono ?_; rintro e u1 ⟨rfl, x1⟩) | ((with_reducible show wpList _ _ _ (_ :: _) _ _); refine wpList_store_new 27 [.int .i64 0, .int .i64 0, .int .i64 0, .int .i64 0, .int .i64 0, .int .i64 0, .int .i64 0, .int .i64 0, .int .i64 0, .int .i64 0, .int .i64 0, .int .i64 0, .int .i64 0, .int .i64 0, .int .i64 0, .int .i64 0] [.int .i64 0, .int .i64 0, .int .i64 0, .int .i64 0, .int .i64 0, .int .i64 0, .int .i64 0, .int .i64 1073741824, .int .i64 0, .int .i64 0, .int .i64 0, .int .i64 1073741824, .int .i64 0, .int .i64 0, .int .i64 0, .int .i64 1073741824] rfl 27 (.tmp 5) (.tmp 34) rfl rfl rfl rfl hsC (by simp [Value.oneCell']) ?_))
          have Fp : Hid (HV u1 np [.int .i64 (z 0), .int .i64 (z 1), .int .i64 (z 2), .int .i64 (z 3), .int .i64 (z 4), .int .i64 (z 5), .int .i64 (z 6), .int .i64 (z 7), .int .i64 (z 8), .int .i64 (z 9), .int .i64 (z 10), .int .i64 (z 11), .int .i64 (z 12), .int .i64 (z 13), .int .i64 (z 14), .int .i64 (z 15), .int .i64 x, .int .i64 y, .int .i64 v, .int .i64 t]) := Fp.out.ext x1
          have FX : Hid (Ext w u1) := FX.out.trans x1
          clear x1
          have ltpc : np < u1.heap.size := Fp.out.1
          have Lc : Hid (w.heap.size ≤ u1.heap.size) := FX.out.size
          have Fp : Hid (HV (u1.alloc (.cells #[.int .i64 0, .int .i64 0, .int .i64 0, .int .i64 0, .int .i64 0, .int .i64 0, .int .i64 0, .int .i64 1073741824, .int .i64 0, .int .i64 0, .int .i64 0, .int .i64 1073741824, .int .i64 0, .int .i64 0, .int .i64 0, .int .i64 1073741824] 27)) np [.int .i64 (z 0), .int .i64 (z 1), .int .i64 (z 2), .int .i64 (z 3), .int .i64 (z 4), .int .i64 (z 5), .int .i64 (z 6), .int .i64 (z 7), .int .i64 (z 8), .int .i64 (z 9), .int .i64 (z 10), .int .i64 (z 11), .int .i64 (z 12), .int .i64 (z 13), .int .i64 (z 14), .int .i64 (z 15), .int .i64 x, .int .i64 y, .int .i64 v, .int .i64 t]) := Fp.out.alloc _
          have Fc : Hid (HV (u1.alloc (.cells #[.int .i64 0, .int .i64 0, .int .i64 0, .int .i64 0, .int .i64 0, .int .i64 0, .int .i64 0, .int .i64 1073741824, .int .i64 0, .int .i64 0, .int .i64 0, .int .i64 1073741824, .int .i64 0, .int .i64 0, .int .i64 0, .int .i64 1073741824] 27)) u1.heap.size [.int .i64 0, .int .i64 0, .int .i64 0, .int .i64 0, .int .i64 0, .int .i64 0, .int .i64 0, .int .i64 1073741824, .int .i64 0, .int .i64 0, .int .i64 0, .int .i64 1073741824, .int .i64 0, .int .i64 0, .int .i64 0, .int .i64 1073741824]) := hv_at rfl
          have FX : Hid (Ext w (u1.alloc (.cells #[.int .i64 0, .int .i64 0, .int .i64 0, .int .i64 0, .int .i64 0, .int .i64 0, .int .i64 0, .int .i64 1073741824, .int .i64 0, .int .i64 0, .int .i64 0, .int .i64 1073741824, .int .i64 0, .int .i64 0, .int .i64 0, .int .i64 1073741824] 27))) := FX.out.alloc _
          generalize (u1.alloc (.cells #[.int .i64 0, .int .i64 0, .int .i64 0, .int .i64 0, .int .i64 0, .int .i64 0, .int .i64 0, .int .i64 1073741824, .int .i64 0, .int .i64 0, .int .i64 0, .int .i64 1073741824, .int .i64 0, .int .i64 0, .int .i64 0, .int .i64 1073741824] 27)) = wx1 at *
          generalize u1.heap.size = nc at *
          have qp16 : wx1.cell? ⟨np, 16, none⟩ = some (.int .i64 x) := Fp.out.c 16 rfl
          have qp17 : wx1.cell? ⟨np, 17, none⟩ = some (.int .i64 y) := Fp.out.c 17 rfl
          have qp18 : wx1.cell? ⟨np, 18, none⟩ = some (.int .i64 v) := Fp.out.c 18 rfl
          go_upto_region 8 with fail
          clear qp16 qp17 qp18
          have ltpi : np < wx1.heap.size := Fp.out.1
          have ltci : nc < wx1.heap.size := Fc.out.1
          have Li : Hid (w.heap.size ≤ wx1.heap.size) := FX.out.size
          have Fp : Hid (HV (wx1.alloc (.cells #[.int .i64 (1024 * x), .int .i64 (1024 * y), .int .i64 (1024 * v)] 24)) np [.int .i64 (z 0), .int .i64 (z 1), .int .i64 (z 2), .int .i64 (z 3), .int .i64 (z 4), .int .i64 (z 5), .int .i64 (z 6), .int .i64 (z 7), .int .i64 (z 8), .int .i64 (z 9), .int .i64 (z 10), .int .i64 (z 11), .int .i64 (z 12), .int .i64 (z 13), .int .i64 (z 14), .int .i64 (z 15), .int .i64 x, .int .i64 y, .int .i64 v, .int .i64 t]) := Fp.out.alloc _
          have Fc : Hid (HV (wx1.alloc (.cells #[.int .i64 (1024 * x), .int .i64 (1024 * y), .int .i64 (1024 * v)] 24)) nc [.int .i64 0, .int .i64 0, .int .i64 0, .int .i64 0, .int .i64 0, .int .i64 0, .int .i64 0, .int .i64 1073741824, .int .i64 0, .int .i64 0, .int .i64 0, .int .i64 1073741824, .int .i64 0, .int .i64 0, .int .i64 0, .int .i64 1073741824]) := Fc.out.alloc _
          have Fi : Hid (HV (wx1.alloc (.cells #[.int .i64 (1024 * x), .int .i64 (1024 * y), .int .i64 (1024 * v)] 24)) wx1.heap.size [.int .i64 (1024 * x), .int .i64 (1024 * y), .int .i64 (1024 * v)]) := hv_at rfl
          have FX : Hid (Ext w (wx1.alloc (.cells #[.int .i64 (1024 * x), .int .i64 (1024 * y), .int .i64 (1024 * v)] 24))) := FX.out.alloc _
          generalize (wx1.alloc (.cells #[.int .i64 (1024 * x), .int .i64 (1024 * y), .int .i64 (1024 * v)] 24)) = wx2 at *
          generalize wx1.heap.size = ni at *
          have qp16 : wx2.cell? ⟨np, 16, none⟩ = some (.int .i64 x) := Fp.out.c 16 rfl
          have qp17 : wx2.cell? ⟨np, 17, none⟩ = some (.int .i64 y) := Fp.out.c 17 rfl
          have qp18 : wx2.cell? ⟨np, 18, none⟩ = some (.int .i64 v) := Fp.out.c 18 rfl
          have qp19 : wx2.cell? ⟨np, 19, none⟩ = some (.int .i64 t) := Fp.out.c 19 rfl
          have Rc : wx2.rangeAt nc 0 [.int .i64 0, .int .i64 0, .int .i64 0, .int .i64 0, .int .i64 0, .int .i64 0, .int .i64 0, .int .i64 1073741824, .int .i64 0, .int .i64 0, .int .i64 0, .int .i64 1073741824, .int .i64 0, .int .i64 0, .int .i64 0, .int .i64 1073741824] := Fc.out.rng 0
          go_upto_region 9 with (first | ((with_reducible show wpList _ _ _ (_ :: _) _ _); refine wpList_load_mid rfl 27 (.tmp 5) rfl nc 0 rfl [.int .i64 0, .int .i64 0, .int .i64 0, .int .i64 0, .int .i64 0, .int .i64 0, .int .i64 0, .int .i64 1073741824, .int .i64 0, .int .i64 0, .int .i64 0, .int .i64 1073741824, .int .i64 0, .int .i64 0, .int .i64 0, .int .i64 1073741824] _ Rc Try.underlying27 rfl hsC ?_) | (go_at_call 10; refine (A1.out _).mono ?_; rintro e u2 ⟨rfl, x2⟩))
          have Fp : Hid (HV u2 np [.int .i64 (z 0), .int .i64 (z 1), .int .i64 (z 2), .int .i64 (z 3), .int .i64 (z 4), .int .i64 (z 5), .int .i64 (z 6), .int .i64 (z 7), .int .i64 (z 8), .int .i64 (z 9), .int .i64 (z 10), .int .i64 (z 11), .int .i64 (z 12), .int .i64 (z 13), .int .i64 (z 14), .int .i64 (z 15), .int .i64 x, .int .i64 y, .int .i64 v, .int .i64 t]) := Fp.out.ext x2
          have Fc : Hid (HV u2 nc [.int .i64 0, .int .i64 0, .int .i64 0, .int .i64 0, .int .i64 0, .int .i64 0, .int .i64 0, .int .i64 1073741824, .int .i64 0, .int .i64 0, .int .i64 0, .int .i64 1073741824, .int .i64 0, .int .i64 0, .int .i64 0, .int .i64 1073741824]) := Fc.out.ext x2
          have Fi : Hid (HV u2 ni [.int .i64 (1024 * x), .int .i64 (1024 * y), .int .i64 (1024 * v)]) := Fi.out.ext x2
          have FX : Hid (Ext w u2) := FX.out.trans x2
          clear qp16 qp17 qp18 qp19 Rc x2 A1
          have ltpa : np < u2.heap.size := Fp.out.1
          have ltca : nc < u2.heap.size := Fc.out.1
          have ltia : ni < u2.heap.size := Fi.out.1
          have La : Hid (w.heap.size ≤ u2.heap.size) := FX.out.size
          have Fp : Hid (HV (u2.alloc (.cells #[.int .i64 (1024 * x), .int .i64 (1024 * y), .int .i64 (1024 * v)] 24)) np [.int .i64 (z 0), .int .i64 (z 1), .int .i64 (z 2), .int .i64 (z 3), .int .i64 (z 4), .int .i64 (z 5), .int .i64 (z 6), .int .i64 (z 7), .int .i64 (z 8), .int .i64 (z 9), .int .i64 (z 10), .int .i64 (z 11), .int .i64 (z 12), .int .i64 (z 13), .int .i64 (z 14), .int .i64 (z 15), .int .i64 x, .int .i64 y, .int .i64 v, .int .i64 t]) := Fp.out.alloc _
          have Fc : Hid (HV (u2.alloc (.cells #[.int .i64 (1024 * x), .int .i64 (1024 * y), .int .i64 (1024 * v)] 24)) nc [.int .i64 0, .int .i64 0, .int .i64 0, .int .i64 0, .int .i64 0, .int .i64 0, .int .i64 0, .int .i64 1073741824, .int .i64 0, .int .i64 0, .int .i64 0, .int .i64 1073741824, .int .i64 0, .int .i64 0, .int .i64 0, .int .i64 1073741824]) := Fc.out.alloc _
          have Fi : Hid (HV (u2.alloc (.cells #[.int .i64 (1024 * x), .int .i64 (1024 * y), .int .i64 (1024 * v)] 24)) ni [.int .i64 (1024 * x), .int .i64 (1024 * y), .int .i64 (1024 * v)]) := Fi.out.alloc _
          have Fa : Hid (HV (u2.alloc (.cells #[.int .i64 (1024 * x), .int .i64 (1024 * y), .int .i64 (1024 * v)] 24)) u2.heap.size [.int .i64 (1024 * x), .int .i64 (1024 * y), .int .i64 (1024 * v)]) := hv_at rfl
          have FX : Hid (Ext w (u2.alloc (.cells #[.int .i64 (1024 * x), .int .i64 (1024 * y), .int .i64 (1024 * v)] 24))) := FX.out.alloc _
          generalize (u2.alloc (.cells #[.int .i64 (1024 * x), .int .i64 (1024 * y), .int .i64 (1024 * v)] 24)) = wx3 at *
          generalize u2.heap.size = na at *
          have qa0 : wx3.cell? ⟨na, 0, none⟩ = some (.int .i64 (1024 * x)) := Fa.out.c 0 rfl
          have qa1 : wx3.cell? ⟨na, 1, none⟩ = some (.int .i64 (1024 * y)) := Fa.out.c 1 rfl
          have qa2 : wx3.cell? ⟨na, 2, none⟩ = some (.int .i64 (1024 * v)) := Fa.out.c 2 rfl
          have qi0 : wx3.cell? ⟨ni, 0, none⟩ = some (.int .i64 (1024 * x)) := Fi.out.c 0 rfl
          have qi1 : wx3.cell? ⟨ni, 1, none⟩ = some (.int .i64 (1024 * y)) := Fi.out.c 1 rfl
          have qi2 : wx3.cell? ⟨ni, 2, none⟩ = some (.int .i64 (1024 * v)) := Fi.out.c 2 rfl
          go_upto_region 11 with (first | (go_at_call 11; refine (num10_any _ _).mono ?_; rintro e wx ⟨rfl, hwx⟩; have hwy := hwx.symm; clear hwx; subst hwy))
          clear qa0 qa1 qa2 qi0 qi1 qi2
          have qp0 : wx3.cell? ⟨np, 0, none⟩ = some (.int .i64 (z 0)) := Fp.out.c 0 rfl
          have qp1 : wx3.cell? ⟨np, 1, none⟩ = some (.int .i64 (z 1)) := Fp.out.c 1 rfl
          have qp2 : wx3.cell? ⟨np, 2, none⟩ = some (.int .i64 (z 2)) := Fp.out.c 2 rfl
          go_upto_region 12 with (first | (go_at_call 16; refine (HB.out _).mono ?_; rintro e u3 ⟨rfl, x3⟩))
          have Fp : Hid (HV u3 np [.int .i64 (z 0), .int .i64 (z 1), .int .i64 (z 2), .int .i64 (z 3), .int .i64 (z 4), .int .i64 (z 5), .int .i64 (z 6), .int .i64 (z 7), .int .i64 (z 8), .int .i64 (z 9), .int .i64 (z 10), .int .i64 (z 11), .int .i64 (z 12), .int .i64 (z 13), .int .i64 (z 14), .int .i64 (z 15), .int .i64 x, .int .i64 y, .int .i64 v, .int .i64 t]) := Fp.out.ext x3
          have Fc : Hid (HV u3 nc [.int .i64 0, .int .i64 0, .int .i64 0, .int .i64 0, .int .i64 0, .int .i64 0, .int .i64 0, .int .i64 1073741824, .int .i64 0, .int .i64 0, .int .i64 0, .int .i64 1073741824, .int .i64 0, .int .i64 0, .int .i64 0, .int .i64 1073741824]) := Fc.out.ext x3
          have Fi : Hid (HV u3 ni [.int .i64 (1024 * x), .int .i64 (1024 * y), .int .i64 (1024 * v)]) := Fi.out.ext x3
          have Fa : Hid (HV u3 na [.int .i64 (1024 * x), .int .i64 (1024 * y), .int .i64 (1024 * v)]) := Fa.out.ext x3
          have FX : Hid (Ext w u3) := FX.out.trans x3
          clear qp0 qp1 qp2 x3 HB
          have ltpb : np < u3.heap.size := Fp.out.1
          have ltcb : nc < u3.heap.size := Fc.out.1
          have ltib : ni < u3.heap.size := Fi.out.1
          have ltab : na < u3.heap.size := Fa.out.1
          have Lb : Hid (w.heap.size ≤ u3.heap.size) := FX.out.size
          have Fp : Hid (HV (u3.alloc (.cells #[.int .i64 g0, .int .i64 g1, .int .i64 g2] 24)) np [.int .i64 (z 0), .int .i64 (z 1), .int .i64 (z 2), .int .i64 (z 3), .int .i64 (z 4), .int .i64 (z 5), .int .i64 (z 6), .int .i64 (z 7), .int .i64 (z 8), .int .i64 (z 9), .int .i64 (z 10), .int .i64 (z 11), .int .i64 (z 12), .int .i64 (z 13), .int .i64 (z 14), .int .i64 (z 15), .int .i64 x, .int .i64 y, .int .i64 v, .int .i64 t]) := Fp.out.alloc _
          have Fc : Hid (HV (u3.alloc (.cells #[.int .i64 g0, .int .i64 g1, .int .i64 g2] 24)) nc [.int .i64 0, .int .i64 0, .int .i64 0, .int .i64 0, .int .i64 0, .int .i64 0, .int .i64 0, .int .i64 1073741824, .int .i64 0, .int .i64 0, .int .i64 0, .int .i64 1073741824, .int .i64 0, .int .i64 0, .int .i64 0, .int .i64 1073741824]) := Fc.out.alloc _
          have Fi : Hid (HV (u3.alloc (.cells #[.int .i64 g0, .int .i64 g1, .int .i64 g2] 24)) ni [.int .i64 (1024 * x), .int .i64 (1024 * y), .int .i64 (1024 * v)]) := Fi.out.alloc _
          have Fa : Hid (HV (u3.alloc (.cells #[.int .i64 g0, .int .i64 g1, .int .i64 g2] 24)) na [.int .i64 (1024 * x), .int .i64 (1024 * y), .int .i64 (1024 * v)]) := Fa.out.alloc _
          have Fb : Hid (HV (u3.alloc (.cells #[.int .i64 g0, .int .i64 g1, .int .i64 g2] 24)) u3.heap.size [.int .i64 g0, .int .i64 g1, .int .i64 g2]) := hv_at rfl
          have FX : Hid (Ext w (u3.alloc (.cells #[.int .i64 g0, .int .i64 g1, .int .i64 g2] 24))) := FX.out.alloc _
          generalize (u3.alloc (.cells #[.int .i64 g0, .int .i64 g1, .int .i64 g2] 24)) = wx4 at *
          generalize u3.heap.size = nb at *
          have qb0 : wx4.cell? ⟨nb, 0, none⟩ = some (.int .i64 g0) := Fb.out.c 0 rfl
          have qb1 : wx4.cell? ⟨nb, 1, none⟩ = some (.int .i64 g1) := Fb.out.c 1 rfl
          have qb2 : wx4.cell? ⟨nb, 2, none⟩ = some (.int .i64 g2) := Fb.out.c 2 rfl
          have qc0 : wx4.cell? ⟨nc, 0, none⟩ = some (.int .i64 0) := Fc.out.c 0 rfl
          have zc0 : wx4.frozen? ⟨nc, 0, none⟩ = false := Fc.out.f 0 rfl
          have qc1 : wx4.cell? ⟨nc, 1, none⟩ = some (.int .i64 0) := Fc.out.c 1 rfl
          have zc1 : wx4.frozen? ⟨nc, 1, none⟩ = false := Fc.out.f 1 rfl
          have qc2 : wx4.cell? ⟨nc, 2, none⟩ = some (.int .i64 0) := Fc.out.c 2 rfl
          have zc2 : wx4.frozen? ⟨nc, 2, none⟩ = false := Fc.out.f 2 rfl
          go_upto_region 13 with fail
          clear qb0 qb1 qb2 qc0 zc0 qc1 zc1 qc2 zc2
          have Fp : Hid (HV (((wx4.setCell ⟨nc, 0, none⟩ (.int .i64 g0)).setCell ⟨nc, 1, none⟩ (.int .i64 g1)).setCell ⟨nc, 2, none⟩ (.int .i64 g2)) np [.int .i64 (z 0), .int .i64 (z 1), .int .i64 (z 2), .int .i64 (z 3), .int .i64 (z 4), .int .i64 (z 5), .int .i64 (z 6), .int .i64 (z 7), .int .i64 (z 8), .int .i64 (z 9), .int .i64 (z 10), .int .i64 (z 11), .int .i64 (z 12), .int .i64 (z 13), .int .i64 (z 14), .int .i64 (z 15), .int .i64 x, .int .i64 y, .int .i64 v, .int .i64 t]) := (((Fp.out.far (by omega)).far (by omega)).far (by omega))
          have Fi : Hid (HV (((wx4.setCell ⟨nc, 0, none⟩ (.int .i64 g0)).setCell ⟨nc, 1, none⟩ (.int .i64 g1)).setCell ⟨nc, 2, none⟩ (.int .i64 g2)) ni [.int .i64 (1024 * x), .int .i64 (1024 * y), .int .i64 (1024 * v)]) := (((Fi.out.far (by omega)).far (by omega)).far (by omega))
          have Fa : Hid (HV (((wx4.setCell ⟨nc, 0, none⟩ (.int .i64 g0)).setCell ⟨nc, 1, none⟩ (.int .i64 g1)).setCell ⟨nc, 2, none⟩ (.int .i64 g2)) na [.int .i64 (1024 * x), .int .i64 (1024 * y), .int .i64 (1024 * v)]) := (((Fa.out.far (by omega)).far (by omega)).far (by omega))
          have Fb : Hid (HV (((wx4.setCell ⟨nc, 0, none⟩ (.int .i64 g0)).setCell ⟨nc, 1, none⟩ (.int .i64 g1)).setCell ⟨nc, 2, none⟩ (.int .i64 g2)) nb [.int .i64 g0, .int .i64 g1, .int .i64 g2]) := (((Fb.out.far (by omega)).far (by omega)).far (by omega))
          have Fc : Hid (HV (((wx4.setCell ⟨nc, 0, none⟩ (.int .i64 g0)).setCell ⟨nc, 1, none⟩ (.int .i64 g1)).setCell ⟨nc, 2, none⟩ (.int .i64 g2)) nc [.int .i64 g0, .int .i64 g1, .int .i64 g2, .int .i64 0, .int .i64 0, .int .i64 0, .int .i64 0, .int .i64 1073741824, .int .i64 0, .int .i64 0, .int .i64 0, .int .i64 1073741824, .int .i64 0, .int .i64 0, .int .i64 0, .int .i64 1073741824]) := (((Fc.out.set 0 (.int .i64 g0)).set 1 (.int .i64 g1)).set 2 (.int .i64 g2))
          have FX : Hid (Ext w (((wx4.setCell ⟨nc, 0, none⟩ (.int .i64 g0)).setCell ⟨nc, 1, none⟩ (.int .i64 g1)).setCell ⟨nc, 2, none⟩ (.int .i64 g2))) := (((FX.out.set (p := ⟨nc, 0, none⟩) Lc.out (.int .i64 g0)).set (p := ⟨nc, 1, none⟩) Lc.out (.int .i64 g1)).set (p := ⟨nc, 2, none⟩) Lc.out (.int .i64 g2))
          generalize (((wx4.setCell ⟨nc, 0, none⟩ (.int .i64 g0)).setCell ⟨nc, 1, none⟩ (.int .i64 g1)).setCell ⟨nc, 2, none⟩ (.int .i64 g2)) = wx5 at *
          have qp16 : wx5.cell? ⟨np, 16, none⟩ = some (.int .i64 x) := Fp.out.c 16 rfl
          have qp17 : wx5.cell? ⟨np, 17, none⟩ = some (.int .i64 y) := Fp.out.c 17 rfl
          have qp18 : wx5.cell? ⟨np, 18, none⟩ = some (.int .i64 v) := Fp.out.c 18 rfl
          have qp19 : wx5.cell? ⟨np, 19, none⟩ = some (.int .i64 t) := Fp.out.c 19 rfl
          have Rc : wx5.rangeAt nc 0 [.int .i64 g0, .int .i64 g1, .int .i64 g2, .int .i64 0, .int .i64 0, .int .i64 0, .int .i64 0, .int .i64 1073741824, .int .i64 0, .int .i64 0, .int .i64 0, .int .i64 1073741824, .int .i64 0, .int .i64 0, .int .i64 0, .int .i64 1073741824] := Fc.out.rng 0
          go_upto_region 14 with (first | ((with_reducible show wpList _ _ _ (_ :: _) _ _); refine wpList_load_mid rfl 27 (.tmp 5) rfl nc 0 rfl [.int .i64 g0, .int .i64 g1, .int .i64 g2, .int .i64 0, .int .i64 0, .int .i64 0, .int .i64 0, .int .i64 1073741824, .int .i64 0, .int .i64 0, .int .i64 0, .int .i64 1073741824, .int .i64 0, .int .i64 0, .int .i64 0, .int .i64 1073741824] _ Rc Try.underlying27 rfl hsC ?_) | (go_at_call 10; refine (A2.out _).mono ?_; rintro e u4 ⟨rfl, x4⟩))
          have Fp : Hid (HV u4 np [.int .i64 (z 0), .int .i64 (z 1), .int .i64 (z 2), .int .i64 (z 3), .int .i64 (z 4), .int .i64 (z 5), .int .i64 (z 6), .int .i64 (z 7), .int .i64 (z 8), .int .i64 (z 9), .int .i64 (z 10), .int .i64 (z 11), .int .i64 (z 12), .int .i64 (z 13), .int .i64 (z 14), .int .i64 (z 15), .int .i64 x, .int .i64 y, .int .i64 v, .int .i64 t]) := Fp.out.ext x4
          have Fc : Hid (HV u4 nc [.int .i64 g0, .int .i64 g1, .int .i64 g2, .int .i64 0, .int .i64 0, .int .i64 0, .int .i64 0, .int .i64 1073741824, .int .i64 0, .int .i64 0, .int .i64 0, .int .i64 1073741824, .int .i64 0, .int .i64 0, .int .i64 0, .int .i64 1073741824]) := Fc.out.ext x4
          have Fi : Hid (HV u4 ni [.int .i64 (1024 * x), .int .i64 (1024 * y), .int .i64 (1024 * v)]) := Fi.out.ext x4
          have Fa : Hid (HV u4 na [.int .i64 (1024 * x), .int .i64 (1024 * y), .int .i64 (1024 * v)]) := Fa.out.ext x4
          have Fb : Hid (HV u4 nb [.int .i64 g0, .int .i64 g1, .int .i64 g2]) := Fb.out.ext x4
          have FX : Hid (Ext w u4) := FX.out.trans x4
          clear qp16 qp17 qp18 qp19 Rc x4 A2
          have ltpv : np < u4.heap.size := Fp.out.1
          have ltcv : nc < u4.heap.size := Fc.out.1
          have ltiv : ni < u4.heap.size := Fi.out.1
          have ltav : na < u4.heap.size := Fa.out.1
          have ltbv : nb < u4.heap.size := Fb.out.1
          have Lv : Hid (w.heap.size ≤ u4.heap.size) := FX.out.size
          have Fp : Hid (HV (u4.alloc (.cells #[.int .i64 (1024 * x - g0), .int .i64 (1024 * y - g1), .int .i64 (1024 * v - g2)] 24)) np [.int .i64 (z 0), .int .i64 (z 1), .int .i64 (z 2), .int .i64 (z 3), .int .i64 (z 4), .int .i64 (z 5), .int .i64 (z 6), .int .i64 (z 7), .int .i64 (z 8), .int .i64 (z 9), .int .i64 (z 10), .int .i64 (z 11), .int .i64 (z 12), .int .i64 (z 13), .int .i64 (z 14), .int .i64 (z 15), .int .i64 x, .int .i64 y, .int .i64 v, .int .i64 t]) := Fp.out.alloc _
          have Fc : Hid (HV (u4.alloc (.cells #[.int .i64 (1024 * x - g0), .int .i64 (1024 * y - g1), .int .i64 (1024 * v - g2)] 24)) nc [.int .i64 g0, .int .i64 g1, .int .i64 g2, .int .i64 0, .int .i64 0, .int .i64 0, .int .i64 0, .int .i64 1073741824, .int .i64 0, .int .i64 0, .int .i64 0, .int .i64 1073741824, .int .i64 0, .int .i64 0, .int .i64 0, .int .i64 1073741824]) := Fc.out.alloc _
          have Fi : Hid (HV (u4.alloc (.cells #[.int .i64 (1024 * x - g0), .int .i64 (1024 * y - g1), .int .i64 (1024 * v - g2)] 24)) ni [.int .i64 (1024 * x), .int .i64 (1024 * y), .int .i64 (1024 * v)]) := Fi.out.alloc _
          have Fa : Hid (HV (u4.alloc (.cells #[.int .i64 (1024 * x - g0), .int .i64 (1024 * y - g1), .int .i64 (1024 * v - g2)] 24)) na [.int .i64 (1024 * x), .int .i64 (1024 * y), .int .i64 (1024 * v)]) := Fa.out.alloc _
          have Fb : Hid (HV (u4.alloc (.cells #[.int .i64 (1024 * x - g0), .int .i64 (1024 * y - g1), .int .i64 (1024 * v - g2)] 24)) nb [.int .i64 g0, .int .i64 g1, .int .i64 g2]) := Fb.out.alloc _
          have Fv : Hid (HV (u4.alloc (.cells #[.int .i64 (1024 * x - g0), .int .i64 (1024 * y - g1), .int .i64 (1024 * v - g2)] 24)) u4.heap.size [.int .i64 (1024 * x - g0), .int .i64 (1024 * y - g1), .int .i64 (1024 * v - g2)]) := hv_at rfl
          have FX : Hid (Ext w (u4.alloc (.cells #[.int .i64 (1024 * x - g0), .int .i64 (1024 * y - g1), .int .i64 (1024 * v - g2)] 24))) := FX.out.alloc _
          generalize (u4.alloc (.cells #[.int .i64 (1024 * x - g0), .int .i64 (1024 * y - g1), .int .i64 (1024 * v - g2)] 24)) = wx6 at *
          generalize u4.heap.size = nv at *
          have qv0 : wx6.cell? ⟨nv, 0, none⟩ = some (.int .i64 (1024 * x - g0)) := Fv.out.c 0 rfl
          have qv1 : wx6.cell? ⟨nv, 1, none⟩ = some (.int .i64 (1024 * y - g1)) := Fv.out.c 1 rfl
          have qv2 : wx6.cell? ⟨nv, 2, none⟩ = some (.int .i64 (1024 * v - g2)) := Fv.out.c 2 rfl
          have qi0 : wx6.cell? ⟨ni, 0, none⟩ = some (.int .i64 (1024 * x)) := Fi.out.c 0 rfl
          have qi1 : wx6.cell? ⟨ni, 1, none⟩ = some (.int .i64 (1024 * y)) := Fi.out.c 1 rfl
          have qi2 : wx6.cell? ⟨ni, 2, none⟩ = some (.int .i64 (1024 * v)) := Fi.out.c 2 rfl
          have qb0 : wx6.cell? ⟨nb, 0, none⟩ = some (.int .i64 g0) := Fb.out.c 0 rfl
          have qb1 : wx6.cell? ⟨nb, 1, none⟩ = some (.int .i64 g1) := Fb.out.c 1 rfl
          have qb2 : wx6.cell? ⟨nb, 2, none⟩ = some (.int .i64 g2) := Fb.out.c 2 rfl
          go_upto_region 16 with (first | (go_at_call 11; refine (num10_any _ _).mono ?_; rintro e wx ⟨rfl, hwx⟩; have hwy := hwx.symm; clear hwx; subst hwy))
          clear qv0 qv1 qv2 qi0 qi1 qi2 qb0 qb1 qb2
          have qp3 : wx6.cell? ⟨np, 3, none⟩ = some (.int .i64 (z 3)) := Fp.out.c 3 rfl
          have qp4 : wx6.cell? ⟨np, 4, none⟩ = some (.int .i64 (z 4)) := Fp.out.c 4 rfl
          have qp5 : wx6.cell? ⟨np, 5, none⟩ = some (.int .i64 (z 5)) := Fp.out.c 5 rfl
          go_upto_region 17 with (first | (go_at_call 16; refine (HD.out _).mono ?_; rintro e u5 ⟨rfl, x5⟩; have kc3 : u5.cell? ⟨nc, 3, none⟩ = some (.int .i64 0) := (Fc.out.ext x5).c 3 rfl; have zc3 : u5.frozen? ⟨nc, 3, none⟩ = false := (Fc.out.ext x5).f 3 rfl; have kc4 : u5.cell? ⟨nc, 4, none⟩ = some (.int .i64 0) := (Fc.out.ext x5).c 4 rfl; have zc4 : u5.frozen? ⟨nc, 4, none⟩ = false := (Fc.out.ext x5).f 4 rfl; have kc5 : u5.cell? ⟨nc, 5, none⟩ = some (.int .i64 0) := (Fc.out.ext x5).c 5 rfl; have zc5 : u5.frozen? ⟨nc, 5, none⟩ = false := (Fc.out.ext x5).f 5 rfl))
          have Fp : Hid (HV u5 np [.int .i64 (z 0), .int .i64 (z 1), .int .i64 (z 2), .int .i64 (z 3), .int .i64 (z 4), .int .i64 (z 5), .int .i64 (z 6), .int .i64 (z 7), .int .i64 (z 8), .int .i64 (z 9), .int .i64 (z 10), .int .i64 (z 11), .int .i64 (z 12), .int .i64 (z 13), .int .i64 (z 14), .int .i64 (z 15), .int .i64 x, .int .i64 y, .int .i64 v, .int .i64 t]) := Fp.out.ext x5
          have Fc : Hid (HV u5 nc [.int .i64 g0, .int .i64 g1, .int .i64 g2, .int .i64 0, .int .i64 0, .int .i64 0, .int .i64 0, .int .i64 1073741824, .int .i64 0, .int .i64 0, .int .i64 0, .int .i64 1073741824, .int .i64 0, .int .i64 0, .int .i64 0, .int .i64 1073741824]) := Fc.out.ext x5
          have Fi : Hid (HV u5 ni [.int .i64 (1024 * x), .int .i64 (1024 * y), .int .i64 (1024 * v)]) := Fi.out.ext x5
          have Fa : Hid (HV u5 na [.int .i64 (1024 * x), .int .i64 (1024 * y), .int .i64 (1024 * v)]) := Fa.out.ext x5
          have Fb : Hid (HV u5 nb [.int .i64 g0, .int .i64 g1, .int .i64 g2]) := Fb.out.ext x5
          have Fv : Hid (HV u5 nv [.int .i64 (1024 * x - g0), .int .i64 (1024 * y - g1), .int .i64 (1024 * v - g2)]) := Fv.out.ext x5
          have FX : Hid (Ext w u5) := FX.out.trans x5
          clear qp3 qp4 qp5 x5 HD kc3 kc4 kc5 zc3 zc4 zc5
          have Fp : Hid (HV (((u5.setCell ⟨nc, 3, none⟩ (.int .i64 d0)).setCell ⟨nc, 4, none⟩ (.int .i64 d1)).setCell ⟨nc, 5, none⟩ (.int .i64 d2)) np [.int .i64 (z 0), .int .i64 (z 1), .int .i64 (z 2), .int .i64 (z 3), .int .i64 (z 4), .int .i64 (z 5), .int .i64 (z 6), .int .i64 (z 7), .int .i64 (z 8), .int .i64 (z 9), .int .i64 (z 10), .int .i64 (z 11), .int .i64 (z 12), .int .i64 (z 13), .int .i64 (z 14), .int .i64 (z 15), .int .i64 x, .int .i64 y, .int .i64 v, .int .i64 t]) := (((Fp.out.far (by omega)).far (by omega)).far (by omega))
          have Fi : Hid (HV (((u5.setCell ⟨nc, 3, none⟩ (.int .i64 d0)).setCell ⟨nc, 4, none⟩ (.int .i64 d1)).setCell ⟨nc, 5, none⟩ (.int .i64 d2)) ni [.int .i64 (1024 * x), .int .i64 (1024 * y), .int .i64 (1024 * v)]) := (((Fi.out.far (by omega)).far (by omega)).far (by omega))
          have Fa : Hid (HV (((u5.setCell ⟨nc, 3, none⟩ (.int .i64 d0)).setCell ⟨nc, 4, none⟩ (.int .i64 d1)).setCell ⟨nc, 5, none⟩ (.int .i64 d2)) na [.int .i64 (1024 * x), .int .i64 (1024 * y), .int .i64 (1024 * v)]) := (((Fa.out.far (by omega)).far (by omega)).far (by omega))
          have Fb : Hid (HV (((u5.setCell ⟨nc, 3, none⟩ (.int .i64 d0)).setCell ⟨nc, 4, none⟩ (.int .i64 d1)).setCell ⟨nc, 5, none⟩ (.int .i64 d2)) nb [.int .i64 g0, .int .i64 g1, .int .i64 g2]) := (((Fb.out.far (by omega)).far (by omega)).far (by omega))
          have Fv : Hid (HV (((u5.setCell ⟨nc, 3, none⟩ (.int .i64 d0)).setCell ⟨nc, 4, none⟩ (.int .i64 d1)).setCell ⟨nc, 5, none⟩ (.int .i64 d2)) nv [.int .i64 (1024 * x - g0), .int .i64 (1024 * y - g1), .int .i64 (1024 * v - g2)]) := (((Fv.out.far (by omega)).far (by omega)).far (by omega))
          have Fc : Hid (HV (((u5.setCell ⟨nc, 3, none⟩ (.int .i64 d0)).setCell ⟨nc, 4, none⟩ (.int .i64 d1)).setCell ⟨nc, 5, none⟩ (.int .i64 d2)) nc [.int .i64 g0, .int .i64 g1, .int .i64 g2, .int .i64 d0, .int .i64 d1, .int .i64 d2, .int .i64 0, .int .i64 1073741824, .int .i64 0, .int .i64 0, .int .i64 0, .int .i64 1073741824, .int .i64 0, .int .i64 0, .int .i64 0, .int .i64 1073741824]) := (((Fc.out.set 3 (.int .i64 d0)).set 4 (.int .i64 d1)).set 5 (.int .i64 d2))
          have FX : Hid (Ext w (((u5.setCell ⟨nc, 3, none⟩ (.int .i64 d0)).setCell ⟨nc, 4, none⟩ (.int .i64 d1)).setCell ⟨nc, 5, none⟩ (.int .i64 d2))) := (((FX.out.set (p := ⟨nc, 3, none⟩) Lc.out (.int .i64 d0)).set (p := ⟨nc, 4, none⟩) Lc.out (.int .i64 d1)).set (p := ⟨nc, 5, none⟩) Lc.out (.int .i64 d2))
          generalize (((u5.setCell ⟨nc, 3, none⟩ (.int .i64 d0)).setCell ⟨nc, 4, none⟩ (.int .i64 d1)).setCell ⟨nc, 5, none⟩ (.int .i64 d2)) = wx7 at *
          have qp19 : wx7.cell? ⟨np, 19, none⟩ = some (.int .i64 t) := Fp.out.c 19 rfl
          have qc6 : wx7.cell? ⟨nc, 6, none⟩ = some (.int .i64 0) := Fc.out.c 6 rfl
          have zc6 : wx7.frozen? ⟨nc, 6, none⟩ = false := Fc.out.f 6 rfl
          go_upto_region 18 with fail
          clear qp19 qc6 zc6
          have Fp : Hid (HV (wx7.setCell ⟨nc, 6, none⟩ (.int .i64 t)) np [.int .i64 (z 0), .int .i64 (z 1), .int .i64 (z 2), .int .i64 (z 3), .int .i64 (z 4), .int .i64 (z 5), .int .i64 (z 6), .int .i64 (z 7), .int .i64 (z 8), .int .i64 (z 9), .int .i64 (z 10), .int .i64 (z 11), .int .i64 (z 12), .int .i64 (z 13), .int .i64 (z 14), .int .i64 (z 15), .int .i64 x, .int .i64 y, .int .i64 v, .int .i64 t]) := (Fp.out.far (by omega))
          have Fi : Hid (HV (wx7.setCell ⟨nc, 6, none⟩ (.int .i64 t)) ni [.int .i64 (1024 * x), .int .i64 (1024 * y), .int .i64 (1024 * v)]) := (Fi.out.far (by omega))
          have Fa : Hid (HV (wx7.setCell ⟨nc, 6, none⟩ (.int .i64 t)) na [.int .i64 (1024 * x), .int .i64 (1024 * y), .int .i64 (1024 * v)]) := (Fa.out.far (by omega))
          have Fb : Hid (HV (wx7.setCell ⟨nc, 6, none⟩ (.int .i64 t)) nb [.int .i64 g0, .int .i64 g1, .int .i64 g2]) := (Fb.out.far (by omega))
          have Fv : Hid (HV (wx7.setCell ⟨nc, 6, none⟩ (.int .i64 t)) nv [.int .i64 (1024 * x - g0), .int .i64 (1024 * y - g1), .int .i64 (1024 * v - g2)]) := (Fv.out.far (by omega))
          have Fc : Hid (HV (wx7.setCell ⟨nc, 6, none⟩ (.int .i64 t)) nc [.int .i64 g0, .int .i64 g1, .int .i64 g2, .int .i64 d0, .int .i64 d1, .int .i64 d2, .int .i64 t, .int .i64 1073741824, .int .i64 0, .int .i64 0, .int .i64 0, .int .i64 1073741824, .int .i64 0, .int .i64 0, .int .i64 0, .int .i64 1073741824]) := (Fc.out.set 6 (.int .i64 t))
          have FX : Hid (Ext w (wx7.setCell ⟨nc, 6, none⟩ (.int .i64 t))) := (FX.out.set (p := ⟨nc, 6, none⟩) Lc.out (.int .i64 t))
          generalize (wx7.setCell ⟨nc, 6, none⟩ (.int .i64 t)) = wx8 at *
          have qp16 : wx8.cell? ⟨np, 16, none⟩ = some (.int .i64 x) := Fp.out.c 16 rfl
          have qp17 : wx8.cell? ⟨np, 17, none⟩ = some (.int .i64 y) := Fp.out.c 17 rfl
          have qp18 : wx8.cell? ⟨np, 18, none⟩ = some (.int .i64 v) := Fp.out.c 18 rfl
          have qp19 : wx8.cell? ⟨np, 19, none⟩ = some (.int .i64 t) := Fp.out.c 19 rfl
          have Rc : wx8.rangeAt nc 0 [.int .i64 g0, .int .i64 g1, .int .i64 g2, .int .i64 d0, .int .i64 d1, .int .i64 d2, .int .i64 t, .int .i64 1073741824, .int .i64 0, .int .i64 0, .int .i64 0, .int .i64 1073741824, .int .i64 0, .int .i64 0, .int .i64 0, .int .i64 1073741824] := Fc.out.rng 0
          go_upto_region 19 with (first | ((with_reducible show wpList _ _ _ (_ :: _) _ _); refine wpList_load_mid rfl 27 (.tmp 5) rfl nc 0 rfl [.int .i64 g0, .int .i64 g1, .int .i64 g2, .int .i64 d0, .int .i64 d1, .int .i64 d2, .int .i64 t, .int .i64 1073741824, .int .i64 0, .int .i64 0, .int .i64 0, .int .i64 1073741824, .int .i64 0, .int .i64 0, .int .i64 0, .int .i64 1073741824] _ Rc Try.underlying27 rfl hsC ?_) | (go_at_call 10; refine (A3.out _).mono ?_; rintro e u6 ⟨rfl, x6⟩))
          have Fp : Hid (HV u6 np [.int .i64 (z 0), .int .i64 (z 1), .int .i64 (z 2), .int .i64 (z 3), .int .i64 (z 4), .int .i64 (z 5), .int .i64 (z 6), .int .i64 (z 7), .int .i64 (z 8), .int .i64 (z 9), .int .i64 (z 10), .int .i64 (z 11), .int .i64 (z 12), .int .i64 (z 13), .int .i64 (z 14), .int .i64 (z 15), .int .i64 x, .int .i64 y, .int .i64 v, .int .i64 t]) := Fp.out.ext x6
          have Fc : Hid (HV u6 nc [.int .i64 g0, .int .i64 g1, .int .i64 g2, .int .i64 d0, .int .i64 d1, .int .i64 d2, .int .i64 t, .int .i64 1073741824, .int .i64 0, .int .i64 0, .int .i64 0, .int .i64 1073741824, .int .i64 0, .int .i64 0, .int .i64 0, .int .i64 1073741824]) := Fc.out.ext x6
          have Fi : Hid (HV u6 ni [.int .i64 (1024 * x), .int .i64 (1024 * y), .int .i64 (1024 * v)]) := Fi.out.ext x6
          have Fa : Hid (HV u6 na [.int .i64 (1024 * x), .int .i64 (1024 * y), .int .i64 (1024 * v)]) := Fa.out.ext x6
          have Fb : Hid (HV u6 nb [.int .i64 g0, .int .i64 g1, .int .i64 g2]) := Fb.out.ext x6
          have Fv : Hid (HV u6 nv [.int .i64 (1024 * x - g0), .int .i64 (1024 * y - g1), .int .i64 (1024 * v - g2)]) := Fv.out.ext x6
          have FX : Hid (Ext w u6) := FX.out.trans x6
          clear qp16 qp17 qp18 qp19 Rc x6 A3
          have ltpu : np < u6.heap.size := Fp.out.1
          have ltcu : nc < u6.heap.size := Fc.out.1
          have ltiu : ni < u6.heap.size := Fi.out.1
          have ltau : na < u6.heap.size := Fa.out.1
          have ltbu : nb < u6.heap.size := Fb.out.1
          have ltvu : nv < u6.heap.size := Fv.out.1
          have Lu : Hid (w.heap.size ≤ u6.heap.size) := FX.out.size
          have Fp : Hid (HV (u6.alloc (.cells #[.int .i64 (1024 * x - g0), .int .i64 (1024 * y - g1), .int .i64 (1024 * v - g2)] 24)) np [.int .i64 (z 0), .int .i64 (z 1), .int .i64 (z 2), .int .i64 (z 3), .int .i64 (z 4), .int .i64 (z 5), .int .i64 (z 6), .int .i64 (z 7), .int .i64 (z 8), .int .i64 (z 9), .int .i64 (z 10), .int .i64 (z 11), .int .i64 (z 12), .int .i64 (z 13), .int .i64 (z 14), .int .i64 (z 15), .int .i64 x, .int .i64 y, .int .i64 v, .int .i64 t]) := Fp.out.alloc _
          have Fc : Hid (HV (u6.alloc (.cells #[.int .i64 (1024 * x - g0), .int .i64 (1024 * y - g1), .int .i64 (1024 * v - g2)] 24)) nc [.int .i64 g0, .int .i64 g1, .int .i64 g2, .int .i64 d0, .int .i64 d1, .int .i64 d2, .int .i64 t, .int .i64 1073741824, .int .i64 0, .int .i64 0, .int .i64 0, .int .i64 1073741824, .int .i64 0, .int .i64 0, .int .i64 0, .int .i64 1073741824]) := Fc.out.alloc _
          have Fi : Hid (HV (u6.alloc (.cells #[.int .i64 (1024 * x - g0), .int .i64 (1024 * y - g1), .int .i64 (1024 * v - g2)] 24)) ni [.int .i64 (1024 * x), .int .i64 (1024 * y), .int .i64 (1024 * v)]) := Fi.out.alloc _
          have Fa : Hid (HV (u6.alloc (.cells #[.int .i64 (1024 * x - g0), .int .i64 (1024 * y - g1), .int .i64 (1024 * v - g2)] 24)) na [.int .i64 (1024 * x), .int .i64 (1024 * y), .int .i64 (1024 * v)]) := Fa.out.alloc _
          have Fb : Hid (HV (u6.alloc (.cells #[.int .i64 (1024 * x - g0), .int .i64 (1024 * y - g1), .int .i64 (1024 * v - g2)] 24)) nb [.int .i64 g0, .int .i64 g1, .int .i64 g2]) := Fb.out.alloc _
          have Fv : Hid (HV (u6.alloc (.cells #[.int .i64 (1024 * x - g0), .int .i64 (1024 * y - g1), .int .i64 (1024 * v - g2)] 24)) nv [.int .i64 (1024 * x - g0), .int .i64 (1024 * y - g1), .int .i64 (1024 * v - g2)]) := Fv.out.alloc _
          have Fu : Hid (HV (u6.alloc (.cells #[.int .i64 (1024 * x - g0), .int .i64 (1024 * y - g1), .int .i64 (1024 * v - g2)] 24)) u6.heap.size [.int .i64 (1024 * x - g0), .int .i64 (1024 * y - g1), .int .i64 (1024 * v - g2)]) := hv_at rfl
          have FX : Hid (Ext w (u6.alloc (.cells #[.int .i64 (1024 * x - g0), .int .i64 (1024 * y - g1), .int .i64 (1024 * v - g2)] 24))) := FX.out.alloc _
          generalize (u6.alloc (.cells #[.int .i64 (1024 * x - g0), .int .i64 (1024 * y - g1), .int .i64 (1024 * v - g2)] 24)) = wx9 at *
          generalize u6.heap.size = nu at *
          have qu0 : wx9.cell? ⟨nu, 0, none⟩ = some (.int .i64 (1024 * x - g0)) := Fu.out.c 0 rfl
          have qu1 : wx9.cell? ⟨nu, 1, none⟩ = some (.int .i64 (1024 * y - g1)) := Fu.out.c 1 rfl
          have qu2 : wx9.cell? ⟨nu, 2, none⟩ = some (.int .i64 (1024 * v - g2)) := Fu.out.c 2 rfl
          have qv0 : wx9.cell? ⟨nv, 0, none⟩ = some (.int .i64 (1024 * x - g0)) := Fv.out.c 0 rfl
          have qv1 : wx9.cell? ⟨nv, 1, none⟩ = some (.int .i64 (1024 * y - g1)) := Fv.out.c 1 rfl
          have qv2 : wx9.cell? ⟨nv, 2, none⟩ = some (.int .i64 (1024 * v - g2)) := Fv.out.c 2 rfl
          go_upto_region 21 with (first | (go_at_call 11; refine (num10_any _ _).mono ?_; rintro e wx ⟨rfl, hwx⟩; have hwy := hwx.symm; clear hwx; subst hwy))
          clear qu0 qu1 qu2 qv0 qv1 qv2
          have qc7 : wx9.cell? ⟨nc, 7, none⟩ = some (.int .i64 1073741824) := Fc.out.c 7 rfl
          have zc7 : wx9.frozen? ⟨nc, 7, none⟩ = false := Fc.out.f 7 rfl
          go_upto_region 22 with fail
          clear qc7 zc7
          have Fp : Hid (HV (wx9.setCell ⟨nc, 7, none⟩ (.int .i64 2147483648)) np [.int .i64 (z 0), .int .i64 (z 1), .int .i64 (z 2), .int .i64 (z 3), .int .i64 (z 4), .int .i64 (z 5), .int .i64 (z 6), .int .i64 (z 7), .int .i64 (z 8), .int .i64 (z 9), .int .i64 (z 10), .int .i64 (z 11), .int .i64 (z 12), .int .i64 (z 13), .int .i64 (z 14), .int .i64 (z 15), .int .i64 x, .int .i64 y, .int .i64 v, .int .i64 t]) := (Fp.out.far (by omega))
          have Fi : Hid (HV (wx9.setCell ⟨nc, 7, none⟩ (.int .i64 2147483648)) ni [.int .i64 (1024 * x), .int .i64 (1024 * y), .int .i64 (1024 * v)]) := (Fi.out.far (by omega))
          have Fa : Hid (HV (wx9.setCell ⟨nc, 7, none⟩ (.int .i64 2147483648)) na [.int .i64 (1024 * x), .int .i64 (1024 * y), .int .i64 (1024 * v)]) := (Fa.out.far (by omega))
          have Fb : Hid (HV (wx9.setCell ⟨nc, 7, none⟩ (.int .i64 2147483648)) nb [.int .i64 g0, .int .i64 g1, .int .i64 g2]) := (Fb.out.far (by omega))
          have Fv : Hid (HV (wx9.setCell ⟨nc, 7, none⟩ (.int .i64 2147483648)) nv [.int .i64 (1024 * x - g0), .int .i64 (1024 * y - g1), .int .i64 (1024 * v - g2)]) := (Fv.out.far (by omega))
          have Fu : Hid (HV (wx9.setCell ⟨nc, 7, none⟩ (.int .i64 2147483648)) nu [.int .i64 (1024 * x - g0), .int .i64 (1024 * y - g1), .int .i64 (1024 * v - g2)]) := (Fu.out.far (by omega))
          have Fc : Hid (HV (wx9.setCell ⟨nc, 7, none⟩ (.int .i64 2147483648)) nc [.int .i64 g0, .int .i64 g1, .int .i64 g2, .int .i64 d0, .int .i64 d1, .int .i64 d2, .int .i64 t, .int .i64 2147483648, .int .i64 0, .int .i64 0, .int .i64 0, .int .i64 1073741824, .int .i64 0, .int .i64 0, .int .i64 0, .int .i64 1073741824]) := (Fc.out.set 7 (.int .i64 2147483648))
          have FX : Hid (Ext w (wx9.setCell ⟨nc, 7, none⟩ (.int .i64 2147483648))) := (FX.out.set (p := ⟨nc, 7, none⟩) Lc.out (.int .i64 2147483648))
          generalize (wx9.setCell ⟨nc, 7, none⟩ (.int .i64 2147483648)) = wx10 at *
          have qc11 : wx10.cell? ⟨nc, 11, none⟩ = some (.int .i64 1073741824) := Fc.out.c 11 rfl
          have zc11 : wx10.frozen? ⟨nc, 11, none⟩ = false := Fc.out.f 11 rfl
          go_upto_region 23 with fail
          clear qc11 zc11
          have Fp : Hid (HV (wx10.setCell ⟨nc, 11, none⟩ (.int .i64 2147483648)) np [.int .i64 (z 0), .int .i64 (z 1), .int .i64 (z 2), .int .i64 (z 3), .int .i64 (z 4), .int .i64 (z 5), .int .i64 (z 6), .int .i64 (z 7), .int .i64 (z 8), .int .i64 (z 9), .int .i64 (z 10), .int .i64 (z 11), .int .i64 (z 12), .int .i64 (z 13), .int .i64 (z 14), .int .i64 (z 15), .int .i64 x, .int .i64 y, .int .i64 v, .int .i64 t]) := (Fp.out.far (by omega))
          have Fi : Hid (HV (wx10.setCell ⟨nc, 11, none⟩ (.int .i64 2147483648)) ni [.int .i64 (1024 * x), .int .i64 (1024 * y), .int .i64 (1024 * v)]) := (Fi.out.far (by omega))
          have Fa : Hid (HV (wx10.setCell ⟨nc, 11, none⟩ (.int .i64 2147483648)) na [.int .i64 (1024 * x), .int .i64 (1024 * y), .int .i64 (1024 * v)]) := (Fa.out.far (by omega))
          have Fb : Hid (HV (wx10.setCell ⟨nc, 11, none⟩ (.int .i64 2147483648)) nb [.int .i64 g0, .int .i64 g1, .int .i64 g2]) := (Fb.out.far (by omega))
          have Fv : Hid (HV (wx10.setCell ⟨nc, 11, none⟩ (.int .i64 2147483648)) nv [.int .i64 (1024 * x - g0), .int .i64 (1024 * y - g1), .int .i64 (1024 * v - g2)]) := (Fv.out.far (by omega))
          have Fu : Hid (HV (wx10.setCell ⟨nc, 11, none⟩ (.int .i64 2147483648)) nu [.int .i64 (1024 * x - g0), .int .i64 (1024 * y - g1), .int .i64 (1024 * v - g2)]) := (Fu.out.far (by omega))
          have Fc : Hid (HV (wx10.setCell ⟨nc, 11, none⟩ (.int .i64 2147483648)) nc [.int .i64 g0, .int .i64 g1, .int .i64 g2, .int .i64 d0, .int .i64 d1, .int .i64 d2, .int .i64 t, .int .i64 2147483648, .int .i64 0, .int .i64 0, .int .i64 0, .int .i64 2147483648, .int .i64 0, .int .i64 0, .int .i64 0, .int .i64 1073741824]) := (Fc.out.set 11 (.int .i64 2147483648))
          have FX : Hid (Ext w (wx10.setCell ⟨nc, 11, none⟩ (.int .i64 2147483648))) := (FX.out.set (p := ⟨nc, 11, none⟩) Lc.out (.int .i64 2147483648))
          generalize (wx10.setCell ⟨nc, 11, none⟩ (.int .i64 2147483648)) = wx11 at *
          have qc15 : wx11.cell? ⟨nc, 15, none⟩ = some (.int .i64 1073741824) := Fc.out.c 15 rfl
          have zc15 : wx11.frozen? ⟨nc, 15, none⟩ = false := Fc.out.f 15 rfl
          go_upto_region 24 with fail
          clear qc15 zc15
          have Fp : Hid (HV (wx11.setCell ⟨nc, 15, none⟩ (.int .i64 2147483648)) np [.int .i64 (z 0), .int .i64 (z 1), .int .i64 (z 2), .int .i64 (z 3), .int .i64 (z 4), .int .i64 (z 5), .int .i64 (z 6), .int .i64 (z 7), .int .i64 (z 8), .int .i64 (z 9), .int .i64 (z 10), .int .i64 (z 11), .int .i64 (z 12), .int .i64 (z 13), .int .i64 (z 14), .int .i64 (z 15), .int .i64 x, .int .i64 y, .int .i64 v, .int .i64 t]) := (Fp.out.far (by omega))
          have Fi : Hid (HV (wx11.setCell ⟨nc, 15, none⟩ (.int .i64 2147483648)) ni [.int .i64 (1024 * x), .int .i64 (1024 * y), .int .i64 (1024 * v)]) := (Fi.out.far (by omega))
          have Fa : Hid (HV (wx11.setCell ⟨nc, 15, none⟩ (.int .i64 2147483648)) na [.int .i64 (1024 * x), .int .i64 (1024 * y), .int .i64 (1024 * v)]) := (Fa.out.far (by omega))
          have Fb : Hid (HV (wx11.setCell ⟨nc, 15, none⟩ (.int .i64 2147483648)) nb [.int .i64 g0, .int .i64 g1, .int .i64 g2]) := (Fb.out.far (by omega))
          have Fv : Hid (HV (wx11.setCell ⟨nc, 15, none⟩ (.int .i64 2147483648)) nv [.int .i64 (1024 * x - g0), .int .i64 (1024 * y - g1), .int .i64 (1024 * v - g2)]) := (Fv.out.far (by omega))
          have Fu : Hid (HV (wx11.setCell ⟨nc, 15, none⟩ (.int .i64 2147483648)) nu [.int .i64 (1024 * x - g0), .int .i64 (1024 * y - g1), .int .i64 (1024 * v - g2)]) := (Fu.out.far (by omega))
          have Fc : Hid (HV (wx11.setCell ⟨nc, 15, none⟩ (.int .i64 2147483648)) nc [.int .i64 g0, .int .i64 g1, .int .i64 g2, .int .i64 d0, .int .i64 d1, .int .i64 d2, .int .i64 t, .int .i64 2147483648, .int .i64 0, .int .i64 0, .int .i64 0, .int .i64 2147483648, .int .i64 0, .int .i64 0, .int .i64 0, .int .i64 2147483648]) := (Fc.out.set 15 (.int .i64 2147483648))
          have FX : Hid (Ext w (wx11.setCell ⟨nc, 15, none⟩ (.int .i64 2147483648))) := (FX.out.set (p := ⟨nc, 15, none⟩) Lc.out (.int .i64 2147483648))
          generalize (wx11.setCell ⟨nc, 15, none⟩ (.int .i64 2147483648)) = wx12 at *
          have qp16 : wx12.cell? ⟨np, 16, none⟩ = some (.int .i64 x) := Fp.out.c 16 rfl
          have qp17 : wx12.cell? ⟨np, 17, none⟩ = some (.int .i64 y) := Fp.out.c 17 rfl
          have qp18 : wx12.cell? ⟨np, 18, none⟩ = some (.int .i64 v) := Fp.out.c 18 rfl
          have qp19 : wx12.cell? ⟨np, 19, none⟩ = some (.int .i64 t) := Fp.out.c 19 rfl
          have Rc : wx12.rangeAt nc 0 [.int .i64 g0, .int .i64 g1, .int .i64 g2, .int .i64 d0, .int .i64 d1, .int .i64 d2, .int .i64 t, .int .i64 2147483648, .int .i64 0, .int .i64 0, .int .i64 0, .int .i64 2147483648, .int .i64 0, .int .i64 0, .int .i64 0, .int .i64 2147483648] := Fc.out.rng 0
          go_upto_region 25 with (first | ((with_reducible show wpList _ _ _ (_ :: _) _ _); refine wpList_load_mid rfl 27 (.tmp 5) rfl nc 0 rfl [.int .i64 g0, .int .i64 g1, .int .i64 g2, .int .i64 d0, .int .i64 d1, .int .i64 d2, .int .i64 t, .int .i64 2147483648, .int .i64 0, .int .i64 0, .int .i64 0, .int .i64 2147483648, .int .i64 0, .int .i64 0, .int .i64 0, .int .i64 2147483648] _ Rc Try.underlying27 rfl hsC ?_) | (go_at_call 10; refine (A4.out _).mono ?_; rintro e u7 ⟨rfl, x7⟩))
          have Fp : Hid (HV u7 np [.int .i64 (z 0), .int .i64 (z 1), .int .i64 (z 2), .int .i64 (z 3), .int .i64 (z 4), .int .i64 (z 5), .int .i64 (z 6), .int .i64 (z 7), .int .i64 (z 8), .int .i64 (z 9), .int .i64 (z 10), .int .i64 (z 11), .int .i64 (z 12), .int .i64 (z 13), .int .i64 (z 14), .int .i64 (z 15), .int .i64 x, .int .i64 y, .int .i64 v, .int .i64 t]) := Fp.out.ext x7
          have Fc : Hid (HV u7 nc [.int .i64 g0, .int .i64 g1, .int .i64 g2, .int .i64 d0, .int .i64 d1, .int .i64 d2, .int .i64 t, .int .i64 2147483648, .int .i64 0, .int .i64 0, .int .i64 0, .int .i64 2147483648, .int .i64 0, .int .i64 0, .int .i64 0, .int .i64 2147483648]) := Fc.out.ext x7
          have Fi : Hid (HV u7 ni [.int .i64 (1024 * x), .int .i64 (1024 * y), .int .i64 (1024 * v)]) := Fi.out.ext x7
          have Fa : Hid (HV u7 na [.int .i64 (1024 * x), .int .i64 (1024 * y), .int .i64 (1024 * v)]) := Fa.out.ext x7
          have Fb : Hid (HV u7 nb [.int .i64 g0, .int .i64 g1, .int .i64 g2]) := Fb.out.ext x7
          have Fv : Hid (HV u7 nv [.int .i64 (1024 * x - g0), .int .i64 (1024 * y - g1), .int .i64 (1024 * v - g2)]) := Fv.out.ext x7
          have Fu : Hid (HV u7 nu [.int .i64 (1024 * x - g0), .int .i64 (1024 * y - g1), .int .i64 (1024 * v - g2)]) := Fu.out.ext x7
          have FX : Hid (Ext w u7) := FX.out.trans x7
          clear qp16 qp17 qp18 qp19 Rc x7 A4
          have ltpw : np < u7.heap.size := Fp.out.1
          have ltcw : nc < u7.heap.size := Fc.out.1
          have ltiw : ni < u7.heap.size := Fi.out.1
          have ltaw : na < u7.heap.size := Fa.out.1
          have ltbw : nb < u7.heap.size := Fb.out.1
          have ltvw : nv < u7.heap.size := Fv.out.1
          have ltuw : nu < u7.heap.size := Fu.out.1
          have Lw : Hid (w.heap.size ≤ u7.heap.size) := FX.out.size
          have Fp : Hid (HV (u7.alloc (.cells #[.int .i64 (2 * (1024 * x - g0)), .int .i64 (2 * (1024 * y - g1)), .int .i64 (2 * (1024 * v - g2))] 24)) np [.int .i64 (z 0), .int .i64 (z 1), .int .i64 (z 2), .int .i64 (z 3), .int .i64 (z 4), .int .i64 (z 5), .int .i64 (z 6), .int .i64 (z 7), .int .i64 (z 8), .int .i64 (z 9), .int .i64 (z 10), .int .i64 (z 11), .int .i64 (z 12), .int .i64 (z 13), .int .i64 (z 14), .int .i64 (z 15), .int .i64 x, .int .i64 y, .int .i64 v, .int .i64 t]) := Fp.out.alloc _
          have Fc : Hid (HV (u7.alloc (.cells #[.int .i64 (2 * (1024 * x - g0)), .int .i64 (2 * (1024 * y - g1)), .int .i64 (2 * (1024 * v - g2))] 24)) nc [.int .i64 g0, .int .i64 g1, .int .i64 g2, .int .i64 d0, .int .i64 d1, .int .i64 d2, .int .i64 t, .int .i64 2147483648, .int .i64 0, .int .i64 0, .int .i64 0, .int .i64 2147483648, .int .i64 0, .int .i64 0, .int .i64 0, .int .i64 2147483648]) := Fc.out.alloc _
          have Fi : Hid (HV (u7.alloc (.cells #[.int .i64 (2 * (1024 * x - g0)), .int .i64 (2 * (1024 * y - g1)), .int .i64 (2 * (1024 * v - g2))] 24)) ni [.int .i64 (1024 * x), .int .i64 (1024 * y), .int .i64 (1024 * v)]) := Fi.out.alloc _
          have Fa : Hid (HV (u7.alloc (.cells #[.int .i64 (2 * (1024 * x - g0)), .int .i64 (2 * (1024 * y - g1)), .int .i64 (2 * (1024 * v - g2))] 24)) na [.int .i64 (1024 * x), .int .i64 (1024 * y), .int .i64 (1024 * v)]) := Fa.out.alloc _
          have Fb : Hid (HV (u7.alloc (.cells #[.int .i64 (2 * (1024 * x - g0)), .int .i64 (2 * (1024 * y - g1)), .int .i64 (2 * (1024 * v - g2))] 24)) nb [.int .i64 g0, .int .i64 g1, .int .i64 g2]) := Fb.out.alloc _
          have Fv : Hid (HV (u7.alloc (.cells #[.int .i64 (2 * (1024 * x - g0)), .int .i64 (2 * (1024 * y - g1)), .int .i64 (2 * (1024 * v - g2))] 24)) nv [.int .i64 (1024 * x - g0), .int .i64 (1024 * y - g1), .int .i64 (1024 * v - g2)]) := Fv.out.alloc _
          have Fu : Hid (HV (u7.alloc (.cells #[.int .i64 (2 * (1024 * x - g0)), .int .i64 (2 * (1024 * y - g1)), .int .i64 (2 * (1024 * v - g2))] 24)) nu [.int .i64 (1024 * x - g0), .int .i64 (1024 * y - g1), .int .i64 (1024 * v - g2)]) := Fu.out.alloc _
          have Fw : Hid (HV (u7.alloc (.cells #[.int .i64 (2 * (1024 * x - g0)), .int .i64 (2 * (1024 * y - g1)), .int .i64 (2 * (1024 * v - g2))] 24)) u7.heap.size [.int .i64 (2 * (1024 * x - g0)), .int .i64 (2 * (1024 * y - g1)), .int .i64 (2 * (1024 * v - g2))]) := hv_at rfl
          have FX : Hid (Ext w (u7.alloc (.cells #[.int .i64 (2 * (1024 * x - g0)), .int .i64 (2 * (1024 * y - g1)), .int .i64 (2 * (1024 * v - g2))] 24))) := FX.out.alloc _
          generalize (u7.alloc (.cells #[.int .i64 (2 * (1024 * x - g0)), .int .i64 (2 * (1024 * y - g1)), .int .i64 (2 * (1024 * v - g2))] 24)) = wx13 at *
          generalize u7.heap.size = nw at *
          have qw0 : wx13.cell? ⟨nw, 0, none⟩ = some (.int .i64 (2 * (1024 * x - g0))) := Fw.out.c 0 rfl
          have qw1 : wx13.cell? ⟨nw, 1, none⟩ = some (.int .i64 (2 * (1024 * y - g1))) := Fw.out.c 1 rfl
          have qw2 : wx13.cell? ⟨nw, 2, none⟩ = some (.int .i64 (2 * (1024 * v - g2))) := Fw.out.c 2 rfl
          have qv0 : wx13.cell? ⟨nv, 0, none⟩ = some (.int .i64 (1024 * x - g0)) := Fv.out.c 0 rfl
          have qv1 : wx13.cell? ⟨nv, 1, none⟩ = some (.int .i64 (1024 * y - g1)) := Fv.out.c 1 rfl
          have qv2 : wx13.cell? ⟨nv, 2, none⟩ = some (.int .i64 (1024 * v - g2)) := Fv.out.c 2 rfl
          go_wp2_with (go_at_call 11; refine (num10_any _ _).mono ?_; rintro e wx ⟨rfl, hwx⟩; have hwy := hwx.symm; clear hwx; subst hwy)
          go_roundw
          case rel => exact ⟨k + 1, by omega, by go_num, FX.out⟩
          case measure => simp [intOf]; omega
      · go_wp2_with fail
        refine (wakes10_any _).mono ?_
        rintro e w1 ⟨rfl, x1⟩
        have E1 : Ext w w1 := HX.out.trans x1
        go_wp2_with fail
        go_ret
        exact ⟨rfl, E1⟩
    · have hk' : k = len := by omega
      subst hk'
      go_wp2_with fail
      refine (wakes10_any _).mono ?_
      rintro e w1 ⟨rfl, x1⟩
      have E1 : Ext w w1 := HX.out.trans x1
      go_wp2_with fail
      go_ret
      exact ⟨rfl, E1⟩
set_option maxHeartbeats 4000000 in
theorem calplain_none (a : Option Addr) (cap : Nat) (w : World) :
    Calls Try.prog 4 #[.slice a 0 cap] w fun e w' => e = .returned (.bool true) ∧ Ext w w' := by
  go_enter Try.func4, Try.ntmps4
  go_wp2_with fail
  go_loopw [3] (fun i wr => i = .int .i64 0 ∧ Ext w wr) (fun _ _ => 0)
  case atStart => exact ⟨rfl, Ext.refl _⟩
  case round =>
    obtain ⟨rfl, hx⟩ := hrel
    go_wp2_with fail
    refine (wakes10_any _).mono ?_
    rintro e w1 ⟨rfl, x1⟩
    have E1 : Ext w w1 := hx.trans x1
    go_wp2_with fail
    go_ret
    exact ⟨rfl, E1⟩
end Go.Proofs.Ytnilhamcojjloaa
