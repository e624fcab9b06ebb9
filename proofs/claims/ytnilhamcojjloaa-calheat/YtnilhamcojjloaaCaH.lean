/- CalHeat. -/
import Derived.Test.YtnilhamcojjloaaCa5
import Derived.Deep.Cut
import Derived.Deep.DeepCutAuto
namespace Go.Proofs.Ytnilhamcojjloaa
open Go.RowKit Go.Shelf
theorem heat_told (x y z t g0 g1 g2 f : Int) (hr : okR x y z t = true) (ht : t ≠ 127) (k0 : -1073741824 ≤ g0 ∧ g0 ≤ 1073741824) (k1 : -1073741824 ≤ g1 ∧ g1 ≤ 1073741824) (k2 : -1073741824 ≤ g2 ∧ g2 ≤ 1073741824) (hf : -128 ≤ f ∧ f ≤ 127) :
    ∃ A0 A1 A2 : Int, ((-1099511627776 ≤ A0 ∧ A0 ≤ 1099511627776) ∧ (-1099511627776 ≤ A1 ∧ A1 ≤ 1099511627776) ∧ (-1099511627776 ≤ A2 ∧ A2 ≤ 1099511627776)) ∧
      (∀ w, Calls Try.prog 10 #[.agg #[.int .i64 0, .int .i64 0, .int .i64 0, .int .i64 g0, .int .i64 g1, .int .i64 g2, .int .i64 f, .int .i64 1073741824, .int .i64 0, .int .i64 0, .int .i64 0, .int .i64 1073741824, .int .i64 0, .int .i64 0, .int .i64 0, .int .i64 1073741824], .agg #[.int .i64 x, .int .i64 y, .int .i64 z, .int .i64 t]] w fun e w' => e = .returned (.tuple #[.agg #[.int .i64 A0, .int .i64 A1, .int .i64 A2], .int .i64 0]) ∧ Ext w w') ∧
      (∀ w, Calls Try.prog 10 #[.agg #[.int .i64 0, .int .i64 0, .int .i64 0, .int .i64 g0, .int .i64 g1, .int .i64 g2, .int .i64 f, .int .i64 1073741824, .int .i64 0, .int .i64 0, .int .i64 0, .int .i64 1073741824, .int .i64 0, .int .i64 0, .int .i64 0, .int .i64 1073741824], .agg #[.int .i64 x, .int .i64 y, .int .i64 z, .int .i64 (t + 1)]] w fun e w' => e = .returned (.tuple #[.agg #[.int .i64 (A0 - g0), .int .i64 (A1 - g1), .int .i64 (A2 - g2)], .int .i64 0]) ∧ Ext w w') := by
  obtain ⟨bx, b_y, bz, bt⟩ := okR_bounds hr
  have hr' : okR x y z (t + 1) = true := okR_of bx b_y bz (by omega)
  have d : -255 ≤ t - f ∧ t - f ≤ 255 := by omega
  have p0 := mul_bound (a := g0) (b := t - f) (A := 1073741824) (B := 255) k0.1 k0.2 d.1 d.2
  have p1 := mul_bound (a := g1) (b := t - f) (A := 1073741824) (B := 255) k1.1 k1.2 d.1 d.2
  have p2 := mul_bound (a := g2) (b := t - f) (A := 1073741824) (B := 255) k2.1 k2.2 d.1 d.2
  have e : ∀ v g : Int, 1 * clr v 0 g (t + 1 - f) = clr v 0 g (t - f) - g := fun v g => by
    unfold clr
    rw [show t + 1 - f = (t - f) + 1 by omega, Int.mul_add, Int.mul_one]; omega
  have e1 : ∀ v g : Int, 1 * clr v 0 g (t - f) = clr v 0 g (t - f) := fun v g => Int.one_mul _
  have b0 : -1099511627776 ≤ clr x 0 g0 (t - f) ∧ clr x 0 g0 (t - f) ≤ 1099511627776 := by unfold clr; omega
  have b1 : -1099511627776 ≤ clr y 0 g1 (t - f) ∧ clr y 0 g1 (t - f) ≤ 1099511627776 := by unfold clr; omega
  have b2 : -1099511627776 ≤ clr z 0 g2 (t - f) ∧ clr z 0 g2 (t - f) ≤ 1099511627776 := by unfold clr; omega
  have hh : ok3 g0 g1 g2 = true := by unfold ok3; rw [okW_of (by omega) (by omega), okW_of (by omega) (by omega), okW_of (by omega) (by omega)]; rfl
  refine ⟨_, _, _, ⟨b0, b1, b2⟩, fun w => ?_, fun w => ?_⟩
  · have h := cApply_any 0 0 0 g0 g1 g2 f (dg (1 * 1073741824)) x y z t w
    rw [calR_dg 1 0 0 0 g0 g1 g2 f x y z t (.inl rfl) hr hf (by decide) hh (by rw [e1, e1, e1]; unfold ok3; rw [okW_of (by omega) (by omega), okW_of (by omega) (by omega), okW_of (by omega) (by omega)]; rfl), e1, e1, e1] at h
    exact h
  · have h := cApply_any 0 0 0 g0 g1 g2 f (dg (1 * 1073741824)) x y z (t + 1) w
    rw [calR_dg 1 0 0 0 g0 g1 g2 f x y z (t + 1) (.inl rfl) hr' hf (by decide) hh (by rw [e, e, e]; unfold ok3; rw [okW_of (by omega) (by omega), okW_of (by omega) (by omega), okW_of (by omega) (by omega)]; rfl), e, e, e] at h
    exact h

set_option maxHeartbeats 40000000 in
set_option maxRecDepth 20000 in
theorem calheat_any (b off len cap : Nat) (Z : Nat → Nat → Int) (w : World) (hl : len ≤ maxLen) (hc : Asks w b off len Z) :
    Calls Try.prog 5 #[.slice (some ⟨b, off, none⟩) len cap] w fun e w' => e = .returned (.bool true) ∧ Ext w w' := by
  have hl' : len ≤ 9223372036854775807 := by unfold maxLen at hl; omega
  clear hl
  go_enter Try.func5, Try.ntmps5
  go_wp2_with fail
  go_loopw [3] (fun i wr => ∃ k : Nat, k ≤ len ∧ i = .int .i64 k ∧ Ext w wr) (fun i _ => len - (intOf i).toNat)
  case atStart => exact ⟨0, Nat.zero_le _, rfl, Ext.refl _⟩
  case round =>
    obtain ⟨k, hk, rfl, hx⟩ := hrel
    have HX : Hid (Ext w wr) := hx
    clear hx
    by_cases hlt : k < len
    · by_cases h20 : k < 20
      · have RW := (hc.ext HX.out).row hlt
        have hlt' : (k : Int) < (len : Int) := by omega
        have HZ : Hid (∀ j, j < 20 → -9223372036854775808 ≤ Z k j ∧ Z k j ≤ 9223372036854775807) := fun j hj => (hc k hlt j hj).2
        clear hc
        generalize Z k = z at *
        have hs20 : (Try.prog.info? 31).map (·.size) = some ([.int .i64 (z 0), .int .i64 (z 1), .int .i64 (z 2), .int .i64 (z 3), .int .i64 (z 4), .int .i64 (z 5), .int .i64 (z 6), .int .i64 (z 7), .int .i64 (z 8), .int .i64 (z 9), .int .i64 (z 10), .int .i64 (z 11), .int .i64 (z 12), .int .i64 (z 13), .int .i64 (z 14), .int .i64 (z 15), .int .i64 (z 16), .int .i64 (z 17), .int .i64 (z 18), .int .i64 (z 19)] : List Value).length := by kernel_rfl
        have Fp : Hid (HV (wr.alloc (.cells #[.int .i64 (z 0), .int .i64 (z 1), .int .i64 (z 2), .int .i64 (z 3), .int .i64 (z 4), .int .i64 (z 5), .int .i64 (z 6), .int .i64 (z 7), .int .i64 (z 8), .int .i64 (z 9), .int .i64 (z 10), .int .i64 (z 11), .int .i64 (z 12), .int .i64 (z 13), .int .i64 (z 14), .int .i64 (z 15), .int .i64 (z 16), .int .i64 (z 17), .int .i64 (z 18), .int .i64 (z 19)] 31)) wr.heap.size [.int .i64 (z 0), .int .i64 (z 1), .int .i64 (z 2), .int .i64 (z 3), .int .i64 (z 4), .int .i64 (z 5), .int .i64 (z 6), .int .i64 (z 7), .int .i64 (z 8), .int .i64 (z 9), .int .i64 (z 10), .int .i64 (z 11), .int .i64 (z 12), .int .i64 (z 13), .int .i64 (z 14), .int .i64 (z 15), .int .i64 (z 16), .int .i64 (z 17), .int .i64 (z 18), .int .i64 (z 19)]) := hv_at rfl
        have FX : Hid (Ext w (wr.alloc (.cells #[.int .i64 (z 0), .int .i64 (z 1), .int .i64 (z 2), .int .i64 (z 3), .int .i64 (z 4), .int .i64 (z 5), .int .i64 (z 6), .int .i64 (z 7), .int .i64 (z 8), .int .i64 (z 9), .int .i64 (z 10), .int .i64 (z 11), .int .i64 (z 12), .int .i64 (z 13), .int .i64 (z 14), .int .i64 (z 15), .int .i64 (z 16), .int .i64 (z 17), .int .i64 (z 18), .int .i64 (z 19)] 31))) := HX.out.alloc _
        clear HX
        go_upto_region 5 with (first | ((with_reducible show wpList _ _ _ (_ :: _) _ _); refine wpList_load_mid rfl 31 (.tmp 23) rfl b (off + k * 20) rfl [.int .i64 (z 0), .int .i64 (z 1), .int .i64 (z 2), .int .i64 (z 3), .int .i64 (z 4), .int .i64 (z 5), .int .i64 (z 6), .int .i64 (z 7), .int .i64 (z 8), .int .i64 (z 9), .int .i64 (z 10), .int .i64 (z 11), .int .i64 (z 12), .int .i64 (z 13), .int .i64 (z 14), .int .i64 (z 15), .int .i64 (z 16), .int .i64 (z 17), .int .i64 (z 18), .int .i64 (z 19)] _ RW Try.underlying31 rfl hs20 ?_) | ((with_reducible show wpList _ _ _ (_ :: _) _ _); refine wpList_store_new 31 [.int .i64 0, .int .i64 0, .int .i64 0, .int .i64 0, .int .i64 0, .int .i64 0, .int .i64 0, .int .i64 0, .int .i64 0, .int .i64 0, .int .i64 0, .int .i64 0, .int .i64 0, .int .i64 0, .int .i64 0, .int .i64 0, .int .i64 0, .int .i64 0, .int .i64 0, .int .i64 0] [.int .i64 (z 0), .int .i64 (z 1), .int .i64 (z 2), .int .i64 (z 3), .int .i64 (z 4), .int .i64 (z 5), .int .i64 (z 6), .int .i64 (z 7), .int .i64 (z 8), .int .i64 (z 9), .int .i64 (z 10), .int .i64 (z 11), .int .i64 (z 12), .int .i64 (z 13), .int .i64 (z 14), .int .i64 (z 15), .int .i64 (z 16), .int .i64 (z 17), .int .i64 (z 18), .int .i64 (z 19)] rfl 31 (.tmp 4) (.tmp 24) rfl rfl rfl rfl hs20 (by simp [Value.oneCell']) ?_))
        clear RW hs20
        generalize (wr.alloc (.cells #[.int .i64 (z 0), .int .i64 (z 1), .int .i64 (z 2), .int .i64 (z 3), .int .i64 (z 4), .int .i64 (z 5), .int .i64 (z 6), .int .i64 (z 7), .int .i64 (z 8), .int .i64 (z 9), .int .i64 (z 10), .int .i64 (z 11), .int .i64 (z 12), .int .i64 (z 13), .int .i64 (z 14), .int .i64 (z 15), .int .i64 (z 16), .int .i64 (z 17), .int .i64 (z 18), .int .i64 (z 19)] 31)) = w0 at *
        generalize hnp : wr.heap.size = np at *
        clear hnp
        have HR : Hid (∀ w, Calls Try.prog 8 #[.agg #[.int .i64 (z 16), .int .i64 (z 17), .int .i64 (z 18), .int .i64 (z 19)]] w fun e w' => e = .returned (.bool (okR (z 16) (z 17) (z 18) (z 19))) ∧ Ext w w') := mayraw_any _ _ _ _
        cases h1 : okR (z 16) (z 17) (z 18) (z 19)
        · rw [h1] at HR
          have qp16 : w0.cell? ⟨np, 16, none⟩ = some (.int .i64 (z 16)) := Fp.out.c 16 rfl
          have qp17 : w0.cell? ⟨np, 17, none⟩ = some (.int .i64 (z 17)) := Fp.out.c 17 rfl
          have qp18 : w0.cell? ⟨np, 18, none⟩ = some (.int .i64 (z 18)) := Fp.out.c 18 rfl
          have qp19 : w0.cell? ⟨np, 19, none⟩ = some (.int .i64 (z 19)) := Fp.out.c 19 rfl
          go_wp2_with (go_at_call 8; refine (HR.out _).mono ?_; rintro e u0 ⟨rfl, x0⟩; have kp19 : u0.cell? ⟨np, 19, none⟩ = some (.int .i64 (z 19)) := (Fp.out.ext x0).c 19 rfl)
          go_roundw
          case rel => exact ⟨k + 1, by omega, by go_num, FX.out.trans x0⟩
          case measure => simp [intOf]; omega
        · rw [h1] at HR
          by_cases ht : z 19 = 127
          · have ht' : (z 19 == 127) = true := by simp [ht]
            clear ht
            have qp16 : w0.cell? ⟨np, 16, none⟩ = some (.int .i64 (z 16)) := Fp.out.c 16 rfl
            have qp17 : w0.cell? ⟨np, 17, none⟩ = some (.int .i64 (z 17)) := Fp.out.c 17 rfl
            have qp18 : w0.cell? ⟨np, 18, none⟩ = some (.int .i64 (z 18)) := Fp.out.c 18 rfl
            have qp19 : w0.cell? ⟨np, 19, none⟩ = some (.int .i64 (z 19)) := Fp.out.c 19 rfl
            go_wp2_with (go_at_call 8; refine (HR.out _).mono ?_; rintro e u0 ⟨rfl, x0⟩; have kp19 : u0.cell? ⟨np, 19, none⟩ = some (.int .i64 (z 19)) := (Fp.out.ext x0).c 19 rfl)
            go_roundw
            case rel => exact ⟨k + 1, by omega, by go_num, FX.out.trans x0⟩
            case measure => simp [intOf]; omega
          · have ht' : (z 19 == 127) = false := by simp [ht]
            have qp16 : w0.cell? ⟨np, 16, none⟩ = some (.int .i64 (z 16)) := Fp.out.c 16 rfl
            have qp17 : w0.cell? ⟨np, 17, none⟩ = some (.int .i64 (z 17)) := Fp.out.c 17 rfl
            have qp18 : w0.cell? ⟨np, 18, none⟩ = some (.int .i64 (z 18)) := Fp.out.c 18 rfl
            have qp19 : w0.cell? ⟨np, 19, none⟩ = some (.int .i64 (z 19)) := Fp.out.c 19 rfl
            go_upto_region 6 with (first | (go_at_call 8; refine (HR.out _).mono ?_; rintro e u0 ⟨rfl, x0⟩; have kp19 : u0.cell? ⟨np, 19, none⟩ = some (.int .i64 (z 19)) := (Fp.out.ext x0).c 19 rfl))
            have Fp : Hid (HV u0 np [.int .i64 (z 0), .int .i64 (z 1), .int .i64 (z 2), .int .i64 (z 3), .int .i64 (z 4), .int .i64 (z 5), .int .i64 (z 6), .int .i64 (z 7), .int .i64 (z 8), .int .i64 (z 9), .int .i64 (z 10), .int .i64 (z 11), .int .i64 (z 12), .int .i64 (z 13), .int .i64 (z 14), .int .i64 (z 15), .int .i64 (z 16), .int .i64 (z 17), .int .i64 (z 18), .int .i64 (z 19)]) := Fp.out.ext x0
            have FX : Hid (Ext w u0) := FX.out.trans x0
            clear qp16 qp17 qp18 qp19 x0 HR kp19
            have ht1 : z 19 ≤ 126 ∧ -128 ≤ z 19 := by have := (okR_bounds h1).2.2.2; omega
            obtain ⟨ht1, ht2⟩ := ht1
            have hsC : (Try.prog.info? 27).map (·.size) = some ([.int .i64 0, .int .i64 0, .int .i64 0, .int .i64 0, .int .i64 0, .int .i64 0, .int .i64 0, .int .i64 1073741824, .int .i64 0, .int .i64 0, .int .i64 0, .int .i64 1073741824, .int .i64 0, .int .i64 0, .int .i64 0, .int .i64 1073741824] : List Value).length := by kernel_rfl
            go_upto_region 7 with (first | (go_at_call 13; refine (plain_any _).mono ?_; rintro e u1 ⟨rfl, x1⟩) | ((with_reducible show wpList _ _ _ (_ :: _) _ _); refine wpList_store_new 27 [.int .i64 0, .int .i64 0, .int .i64 0, .int .i64 0, .int .i64 0, .int .i64 0, .int .i64 0, .int .i64 0, .int .i64 0, .int .i64 0, .int .i64 0, .int .i64 0, .int .i64 0, .int .i64 0, .int .i64 0, .int .i64 0] [.int .i64 0, .int .i64 0, .int .i64 0, .int .i64 0, .int .i64 0, .int .i64 0, .int .i64 0, .int .i64 1073741824, .int .i64 0, .int .i64 0, .int .i64 0, .int .i64 1073741824, .int .i64 0, .int .i64 0, .int .i64 0, .int .i64 1073741824] rfl 27 (.tmp 5) (.tmp 35) rfl rfl rfl rfl hsC (by simp [Value.oneCell']) ?_))
            have Fp : Hid (HV u1 np [.int .i64 (z 0), .int .i64 (z 1), .int .i64 (z 2), .int .i64 (z 3), .int .i64 (z 4), .int .i64 (z 5), .int .i64 (z 6), .int .i64 (z 7), .int .i64 (z 8), .int .i64 (z 9), .int .i64 (z 10), .int .i64 (z 11), .int .i64 (z 12), .int .i64 (z 13), .int .i64 (z 14), .int .i64 (z 15), .int .i64 (z 16), .int .i64 (z 17), .int .i64 (z 18), .int .i64 (z 19)]) := Fp.out.ext x1
            have FX : Hid (Ext w u1) := FX.out.trans x1
            clear x1
            have ltpc : np < u1.heap.size := Fp.out.1
            have Lc : Hid (w.heap.size ≤ u1.heap.size) := FX.out.size
            have Fp : Hid (HV (u1.alloc (.cells #[.int .i64 0, .int .i64 0, .int .i64 0, .int .i64 0, .int .i64 0, .int .i64 0, .int .i64 0, .int .i64 1073741824, .int .i64 0, .int .i64 0, .int .i64 0, .int .i64 1073741824, .int .i64 0, .int .i64 0, .int .i64 0, .int .i64 1073741824] 27)) np [.int .i64 (z 0), .int .i64 (z 1), .int .i64 (z 2), .int .i64 (z 3), .int .i64 (z 4), .int .i64 (z 5), .int .i64 (z 6), .int .i64 (z 7), .int .i64 (z 8), .int .i64 (z 9), .int .i64 (z 10), .int .i64 (z 11), .int .i64 (z 12), .int .i64 (z 13), .int .i64 (z 14), .int .i64 (z 15), .int .i64 (z 16), .int .i64 (z 17), .int .i64 (z 18), .int .i64 (z 19)]) := Fp.out.alloc _
            have Fc : Hid (HV (u1.alloc (.cells #[.int .i64 0, .int .i64 0, .int .i64 0, .int .i64 0, .int .i64 0, .int .i64 0, .int .i64 0, .int .i64 1073741824, .int .i64 0, .int .i64 0, .int .i64 0, .int .i64 1073741824, .int .i64 0, .int .i64 0, .int .i64 0, .int .i64 1073741824] 27)) u1.heap.size [.int .i64 0, .int .i64 0, .int .i64 0, .int .i64 0, .int .i64 0, .int .i64 0, .int .i64 0, .int .i64 1073741824, .int .i64 0, .int .i64 0, .int .i64 0, .int .i64 1073741824, .int .i64 0, .int .i64 0, .int .i64 0, .int .i64 1073741824]) := hv_at rfl
            have FX : Hid (Ext w (u1.alloc (.cells #[.int .i64 0, .int .i64 0, .int .i64 0, .int .i64 0, .int .i64 0, .int .i64 0, .int .i64 0, .int .i64 1073741824, .int .i64 0, .int .i64 0, .int .i64 0, .int .i64 1073741824, .int .i64 0, .int .i64 0, .int .i64 0, .int .i64 1073741824] 27))) := FX.out.alloc _
            generalize (u1.alloc (.cells #[.int .i64 0, .int .i64 0, .int .i64 0, .int .i64 0, .int .i64 0, .int .i64 0, .int .i64 0, .int .i64 1073741824, .int .i64 0, .int .i64 0, .int .i64 0, .int .i64 1073741824, .int .i64 0, .int .i64 0, .int .i64 0, .int .i64 1073741824] 27)) = wx1 at *
            generalize u1.heap.size = nc at *
            have HB : Hid (∀ w, Calls Try.prog 16 #[.agg #[.int .i64 (z 3), .int .i64 (z 4), .int .i64 (z 5)], .int .i64 1073741824] w fun e w' => e = .returned (.agg #[.int .i64 (brt 1073741824 (z 3)), .int .i64 (brt 1073741824 (z 4)), .int .i64 (brt 1073741824 (z 5))]) ∧ Ext w w') := brvec_1073741824 _ _ _
            have gb0 := brt_bounds 1073741824 (z 3) (by omega)
            have gb1 := brt_bounds 1073741824 (z 4) (by omega)
            have gb2 := brt_bounds 1073741824 (z 5) (by omega)
            generalize brt 1073741824 (z 3) = g0 at *
            generalize brt 1073741824 (z 4) = g1 at *
            generalize brt 1073741824 (z 5) = g2 at *
            have qp3 : wx1.cell? ⟨np, 3, none⟩ = some (.int .i64 (z 3)) := Fp.out.c 3 rfl
            have qp4 : wx1.cell? ⟨np, 4, none⟩ = some (.int .i64 (z 4)) := Fp.out.c 4 rfl
            have qp5 : wx1.cell? ⟨np, 5, none⟩ = some (.int .i64 (z 5)) := Fp.out.c 5 rfl
            go_upto_region 8 with (first | (go_at_call 16; refine (HB.out _).mono ?_; rintro e u2 ⟨rfl, x2⟩; have kc3 : u2.cell? ⟨nc, 3, none⟩ = some (.int .i64 0) := (Fc.out.ext x2).c 3 rfl; have zc3 : u2.frozen? ⟨nc, 3, none⟩ = false := (Fc.out.ext x2).f 3 rfl; have kc4 : u2.cell? ⟨nc, 4, none⟩ = some (.int .i64 0) := (Fc.out.ext x2).c 4 rfl; have zc4 : u2.frozen? ⟨nc, 4, none⟩ = false := (Fc.out.ext x2).f 4 rfl; have kc5 : u2.cell? ⟨nc, 5, none⟩ = some (.int .i64 0) := (Fc.out.ext x2).c 5 rfl; have zc5 : u2.frozen? ⟨nc, 5, none⟩ = false := (Fc.out.ext x2).f 5 rfl))
            have Fp : Hid (HV u2 np [.int .i64 (z 0), .int .i64 (z 1), .int .i64 (z 2), .int .i64 (z 3), .int .i64 (z 4), .int .i64 (z 5), .int .i64 (z 6), .int .i64 (z 7), .int .i64 (z 8), .int .i64 (z 9), .int .i64 (z 10), .int .i64 (z 11), .int .i64 (z 12), .int .i64 (z 13), .int .i64 (z 14), .int .i64 (z 15), .int .i64 (z 16), .int .i64 (z 17), .int .i64 (z 18), .int .i64 (z 19)]) := Fp.out.ext x2
            have Fc : Hid (HV u2 nc [.int .i64 0, .int .i64 0, .int .i64 0, .int .i64 0, .int .i64 0, .int .i64 0, .int .i64 0, .int .i64 1073741824, .int .i64 0, .int .i64 0, .int .i64 0, .int .i64 1073741824, .int .i64 0, .int .i64 0, .int .i64 0, .int .i64 1073741824]) := Fc.out.ext x2
            have FX : Hid (Ext w u2) := FX.out.trans x2
            clear qp3 qp4 qp5 x2 HB kc3 kc4 kc5 zc3 zc4 zc5
            have Fp : Hid (HV (((u2.setCell ⟨nc, 3, none⟩ (.int .i64 g0)).setCell ⟨nc, 4, none⟩ (.int .i64 g1)).setCell ⟨nc, 5, none⟩ (.int .i64 g2)) np [.int .i64 (z 0), .int .i64 (z 1), .int .i64 (z 2), .int .i64 (z 3), .int .i64 (z 4), .int .i64 (z 5), .int .i64 (z 6), .int .i64 (z 7), .int .i64 (z 8), .int .i64 (z 9), .int .i64 (z 10), .int .i64 (z 11), .int .i64 (z 12), .int .i64 (z 13), .int .i64 (z 14), .int .i64 (z 15), .int .i64 (z 16), .int .i64 (z 17), .int .i64 (z 18), .int .i64 (z 19)]) := (((Fp.out.far (by omega)).far (by omega)).far (by omega))
            have Fc : Hid (HV (((u2.setCell ⟨nc, 3, none⟩ (.int .i64 g0)).setCell ⟨nc, 4, none⟩ (.int .i64 g1)).setCell ⟨nc, 5, none⟩ (.int .i64 g2)) nc [.int .i64 0, .int .i64 0, .int .i64 0, .int .i64 g0, .int .i64 g1, .int .i64 g2, .int .i64 0, .int .i64 1073741824, .int .i64 0, .int .i64 0, .int .i64 0, .int .i64 1073741824, .int .i64 0, .int .i64 0, .int .i64 0, .int .i64 1073741824]) := (((Fc.out.set 3 (.int .i64 g0)).set 4 (.int .i64 g1)).set 5 (.int .i64 g2))
            have FX : Hid (Ext w (((u2.setCell ⟨nc, 3, none⟩ (.int .i64 g0)).setCell ⟨nc, 4, none⟩ (.int .i64 g1)).setCell ⟨nc, 5, none⟩ (.int .i64 g2))) := (((FX.out.set (p := ⟨nc, 3, none⟩) Lc.out (.int .i64 g0)).set (p := ⟨nc, 4, none⟩) Lc.out (.int .i64 g1)).set (p := ⟨nc, 5, none⟩) Lc.out (.int .i64 g2))
            generalize (((u2.setCell ⟨nc, 3, none⟩ (.int .i64 g0)).setCell ⟨nc, 4, none⟩ (.int .i64 g1)).setCell ⟨nc, 5, none⟩ (.int .i64 g2)) = wx2 at *
            have HW : Hid (∀ w, Calls Try.prog 17 #[.int .i64 (z 6), .int .i64 256] w fun e w' => e = .returned (.int .i64 (z 6 % 256)) ∧ w' = w) := within_256 _
            have fb0 : 0 ≤ z 6 % 256 := by omega
            have fb1 : z 6 % 256 ≤ 255 := by omega
            generalize z 6 % 256 = q at *
            have qp6 : wx2.cell? ⟨np, 6, none⟩ = some (.int .i64 (z 6)) := Fp.out.c 6 rfl
            have qc6 : wx2.cell? ⟨nc, 6, none⟩ = some (.int .i64 0) := Fc.out.c 6 rfl
            have zc6 : wx2.frozen? ⟨nc, 6, none⟩ = false := Fc.out.f 6 rfl
            go_upto_region 9 with (first | (go_at_call 17; refine (HW.out _).mono ?_; rintro e wx ⟨rfl, hwx⟩; have hwy := hwx.symm; clear hwx; subst hwy))
            clear qp6 qc6 zc6 HW
            have Fp : Hid (HV (wx2.setCell ⟨nc, 6, none⟩ (.int .i64 (q - 128))) np [.int .i64 (z 0), .int .i64 (z 1), .int .i64 (z 2), .int .i64 (z 3), .int .i64 (z 4), .int .i64 (z 5), .int .i64 (z 6), .int .i64 (z 7), .int .i64 (z 8), .int .i64 (z 9), .int .i64 (z 10), .int .i64 (z 11), .int .i64 (z 12), .int .i64 (z 13), .int .i64 (z 14), .int .i64 (z 15), .int .i64 (z 16), .int .i64 (z 17), .int .i64 (z 18), .int .i64 (z 19)]) := (Fp.out.far (by omega))
            have Fc : Hid (HV (wx2.setCell ⟨nc, 6, none⟩ (.int .i64 (q - 128))) nc [.int .i64 0, .int .i64 0, .int .i64 0, .int .i64 g0, .int .i64 g1, .int .i64 g2, .int .i64 (q - 128), .int .i64 1073741824, .int .i64 0, .int .i64 0, .int .i64 0, .int .i64 1073741824, .int .i64 0, .int .i64 0, .int .i64 0, .int .i64 1073741824]) := (Fc.out.set 6 (.int .i64 (q - 128)))
            have FX : Hid (Ext w (wx2.setCell ⟨nc, 6, none⟩ (.int .i64 (q - 128)))) := (FX.out.set (p := ⟨nc, 6, none⟩) Lc.out (.int .i64 (q - 128)))
            generalize (wx2.setCell ⟨nc, 6, none⟩ (.int .i64 (q - 128))) = wx3 at *
            have hf : -128 ≤ q - 128 ∧ q - 128 ≤ 127 := by omega
            generalize q - 128 = f at *
            clear fb0 fb1
            have qp16 : wx3.cell? ⟨np, 16, none⟩ = some (.int .i64 (z 16)) := Fp.out.c 16 rfl
            have qp17 : wx3.cell? ⟨np, 17, none⟩ = some (.int .i64 (z 17)) := Fp.out.c 17 rfl
            have qp18 : wx3.cell? ⟨np, 18, none⟩ = some (.int .i64 (z 18)) := Fp.out.c 18 rfl
            have qp19 : wx3.cell? ⟨np, 19, none⟩ = some (.int .i64 (z 19)) := Fp.out.c 19 rfl
            go_upto_region 10 with fail
            clear qp16 qp17 qp18 qp19
            have ltpr : np < wx3.heap.size := Fp.out.1
            have ltcr : nc < wx3.heap.size := Fc.out.1
            have Lr : Hid (w.heap.size ≤ wx3.heap.size) := FX.out.size
            have Fp : Hid (HV (wx3.alloc (.cells #[.int .i64 (z 16), .int .i64 (z 17), .int .i64 (z 18), .int .i64 (z 19)] 29)) np [.int .i64 (z 0), .int .i64 (z 1), .int .i64 (z 2), .int .i64 (z 3), .int .i64 (z 4), .int .i64 (z 5), .int .i64 (z 6), .int .i64 (z 7), .int .i64 (z 8), .int .i64 (z 9), .int .i64 (z 10), .int .i64 (z 11), .int .i64 (z 12), .int .i64 (z 13), .int .i64 (z 14), .int .i64 (z 15), .int .i64 (z 16), .int .i64 (z 17), .int .i64 (z 18), .int .i64 (z 19)]) := Fp.out.alloc _
            have Fc : Hid (HV (wx3.alloc (.cells #[.int .i64 (z 16), .int .i64 (z 17), .int .i64 (z 18), .int .i64 (z 19)] 29)) nc [.int .i64 0, .int .i64 0, .int .i64 0, .int .i64 g0, .int .i64 g1, .int .i64 g2, .int .i64 f, .int .i64 1073741824, .int .i64 0, .int .i64 0, .int .i64 0, .int .i64 1073741824, .int .i64 0, .int .i64 0, .int .i64 0, .int .i64 1073741824]) := Fc.out.alloc _
            have Fr : Hid (HV (wx3.alloc (.cells #[.int .i64 (z 16), .int .i64 (z 17), .int .i64 (z 18), .int .i64 (z 19)] 29)) wx3.heap.size [.int .i64 (z 16), .int .i64 (z 17), .int .i64 (z 18), .int .i64 (z 19)]) := hv_at rfl
            have FX : Hid (Ext w (wx3.alloc (.cells #[.int .i64 (z 16), .int .i64 (z 17), .int .i64 (z 18), .int .i64 (z 19)] 29))) := FX.out.alloc _
            generalize (wx3.alloc (.cells #[.int .i64 (z 16), .int .i64 (z 17), .int .i64 (z 18), .int .i64 (z 19)] 29)) = wx4 at *
            generalize wx3.heap.size = nr at *
            have qr3 : wx4.cell? ⟨nr, 3, none⟩ = some (.int .i64 (z 19)) := Fr.out.c 3 rfl
            have zr3 : wx4.frozen? ⟨nr, 3, none⟩ = false := Fr.out.f 3 rfl
            go_upto_region 11 with fail
            clear qr3 zr3
            have Fp : Hid (HV (wx4.setCell ⟨nr, 3, none⟩ (.int .i64 (z 19 + 1))) np [.int .i64 (z 0), .int .i64 (z 1), .int .i64 (z 2), .int .i64 (z 3), .int .i64 (z 4), .int .i64 (z 5), .int .i64 (z 6), .int .i64 (z 7), .int .i64 (z 8), .int .i64 (z 9), .int .i64 (z 10), .int .i64 (z 11), .int .i64 (z 12), .int .i64 (z 13), .int .i64 (z 14), .int .i64 (z 15), .int .i64 (z 16), .int .i64 (z 17), .int .i64 (z 18), .int .i64 (z 19)]) := (Fp.out.far (by omega))
            have Fc : Hid (HV (wx4.setCell ⟨nr, 3, none⟩ (.int .i64 (z 19 + 1))) nc [.int .i64 0, .int .i64 0, .int .i64 0, .int .i64 g0, .int .i64 g1, .int .i64 g2, .int .i64 f, .int .i64 1073741824, .int .i64 0, .int .i64 0, .int .i64 0, .int .i64 1073741824, .int .i64 0, .int .i64 0, .int .i64 0, .int .i64 1073741824]) := (Fc.out.far (by omega))
            have Fr : Hid (HV (wx4.setCell ⟨nr, 3, none⟩ (.int .i64 (z 19 + 1))) nr [.int .i64 (z 16), .int .i64 (z 17), .int .i64 (z 18), .int .i64 (z 19 + 1)]) := (Fr.out.set 3 (.int .i64 (z 19 + 1)))
            have FX : Hid (Ext w (wx4.setCell ⟨nr, 3, none⟩ (.int .i64 (z 19 + 1)))) := (FX.out.set (p := ⟨nr, 3, none⟩) Lr.out (.int .i64 (z 19 + 1)))
            generalize (wx4.setCell ⟨nr, 3, none⟩ (.int .i64 (z 19 + 1))) = wx5 at *
            obtain ⟨A0, A1, A2, ⟨ab0, ab1, ab2⟩, HA, HA2⟩ := heat_told (z 16) (z 17) (z 18) (z 19) g0 g1 g2 f h1 ht gb0 gb1 gb2 hf
            have HA : Hid (∀ w, Calls Try.prog 10 #[.agg #[.int .i64 0, .int .i64 0, .int .i64 0, .int .i64 g0, .int .i64 g1, .int .i64 g2, .int .i64 f, .int .i64 1073741824, .int .i64 0, .int .i64 0, .int .i64 0, .int .i64 1073741824, .int .i64 0, .int .i64 0, .int .i64 0, .int .i64 1073741824], .agg #[.int .i64 (z 16), .int .i64 (z 17), .int .i64 (z 18), .int .i64 (z 19)]] w fun e w' => e = .returned (.tuple #[.agg #[.int .i64 A0, .int .i64 A1, .int .i64 A2], .int .i64 0]) ∧ Ext w w') := HA
            have HA2 : Hid (∀ w, Calls Try.prog 10 #[.agg #[.int .i64 0, .int .i64 0, .int .i64 0, .int .i64 g0, .int .i64 g1, .int .i64 g2, .int .i64 f, .int .i64 1073741824, .int .i64 0, .int .i64 0, .int .i64 0, .int .i64 1073741824, .int .i64 0, .int .i64 0, .int .i64 0, .int .i64 1073741824], .agg #[.int .i64 (z 16), .int .i64 (z 17), .int .i64 (z 18), .int .i64 (z 19 + 1)]] w fun e w' => e = .returned (.tuple #[.agg #[.int .i64 (A0 - g0), .int .i64 (A1 - g1), .int .i64 (A2 - g2)], .int .i64 0]) ∧ Ext w w') := HA2
            have HM : Hid (okW A0 = true) := okW_of (by omega) (by omega)
            clear hf h1 ht ht' ht1 ht2
            have qp16 : wx5.cell? ⟨np, 16, none⟩ = some (.int .i64 (z 16)) := Fp.out.c 16 rfl
            have qp17 : wx5.cell? ⟨np, 17, none⟩ = some (.int .i64 (z 17)) := Fp.out.c 17 rfl
            have qp18 : wx5.cell? ⟨np, 18, none⟩ = some (.int .i64 (z 18)) := Fp.out.c 18 rfl
            have qp19 : wx5.cell? ⟨np, 19, none⟩ = some (.int .i64 (z 19)) := Fp.out.c 19 rfl
            have Rc : wx5.rangeAt nc 0 [.int .i64 0, .int .i64 0, .int .i64 0, .int .i64 g0, .int .i64 g1, .int .i64 g2, .int .i64 f, .int .i64 1073741824, .int .i64 0, .int .i64 0, .int .i64 0, .int .i64 1073741824, .int .i64 0, .int .i64 0, .int .i64 0, .int .i64 1073741824] := Fc.out.rng 0
            go_upto_region 12 with (first | ((with_reducible show wpList _ _ _ (_ :: _) _ _); refine wpList_load_mid rfl 27 (.tmp 5) rfl nc 0 rfl [.int .i64 0, .int .i64 0, .int .i64 0, .int .i64 g0, .int .i64 g1, .int .i64 g2, .int .i64 f, .int .i64 1073741824, .int .i64 0, .int .i64 0, .int .i64 0, .int .i64 1073741824, .int .i64 0, .int .i64 0, .int .i64 0, .int .i64 1073741824] _ Rc Try.underlying27 rfl hsC ?_) | (go_at_call 10; refine (HA.out _).mono ?_; rintro e u3 ⟨rfl, x3⟩))
            have Fp : Hid (HV u3 np [.int .i64 (z 0), .int .i64 (z 1), .int .i64 (z 2), .int .i64 (z 3), .int .i64 (z 4), .int .i64 (z 5), .int .i64 (z 6), .int .i64 (z 7), .int .i64 (z 8), .int .i64 (z 9), .int .i64 (z 10), .int .i64 (z 11), .int .i64 (z 12), .int .i64 (z 13), .int .i64 (z 14), .int .i64 (z 15), .int .i64 (z 16), .int .i64 (z 17), .int .i64 (z 18), .int .i64 (z 19)]) := Fp.out.ext x3
            have Fc : Hid (HV u3 nc [.int .i64 0, .int .i64 0, .int .i64 0, .int .i64 g0, .int .i64 g1, .int .i64 g2, .int .i64 f, .int .i64 1073741824, .int .i64 0, .int .i64 0, .int .i64 0, .int .i64 1073741824, .int .i64 0, .int .i64 0, .int .i64 0, .int .i64 1073741824]) := Fc.out.ext x3
            have Fr : Hid (HV u3 nr [.int .i64 (z 16), .int .i64 (z 17), .int .i64 (z 18), .int .i64 (z 19 + 1)]) := Fr.out.ext x3
            have FX : Hid (Ext w u3) := FX.out.trans x3
            clear qp16 qp17 qp18 qp19 Rc x3 HA
            have ltpa : np < u3.heap.size := Fp.out.1
            have ltca : nc < u3.heap.size := Fc.out.1
            have ltra : nr < u3.heap.size := Fr.out.1
            have La : Hid (w.heap.size ≤ u3.heap.size) := FX.out.size
            have Fp : Hid (HV (u3.alloc (.cells #[.int .i64 A0, .int .i64 A1, .int .i64 A2] 24)) np [.int .i64 (z 0), .int .i64 (z 1), .int .i64 (z 2), .int .i64 (z 3), .int .i64 (z 4), .int .i64 (z 5), .int .i64 (z 6), .int .i64 (z 7), .int .i64 (z 8), .int .i64 (z 9), .int .i64 (z 10), .int .i64 (z 11), .int .i64 (z 12), .int .i64 (z 13), .int .i64 (z 14), .int .i64 (z 15), .int .i64 (z 16), .int .i64 (z 17), .int .i64 (z 18), .int .i64 (z 19)]) := Fp.out.alloc _
            have Fc : Hid (HV (u3.alloc (.cells #[.int .i64 A0, .int .i64 A1, .int .i64 A2] 24)) nc [.int .i64 0, .int .i64 0, .int .i64 0, .int .i64 g0, .int .i64 g1, .int .i64 g2, .int .i64 f, .int .i64 1073741824, .int .i64 0, .int .i64 0, .int .i64 0, .int .i64 1073741824, .int .i64 0, .int .i64 0, .int .i64 0, .int .i64 1073741824]) := Fc.out.alloc _
            have Fr : Hid (HV (u3.alloc (.cells #[.int .i64 A0, .int .i64 A1, .int .i64 A2] 24)) nr [.int .i64 (z 16), .int .i64 (z 17), .int .i64 (z 18), .int .i64 (z 19 + 1)]) := Fr.out.alloc _
            have Fa : Hid (HV (u3.alloc (.cells #[.int .i64 A0, .int .i64 A1, .int .i64 A2] 24)) u3.heap.size [.int .i64 A0, .int .i64 A1, .int .i64 A2]) := hv_at rfl
            have FX : Hid (Ext w (u3.alloc (.cells #[.int .i64 A0, .int .i64 A1, .int .i64 A2] 24))) := FX.out.alloc _
            generalize (u3.alloc (.cells #[.int .i64 A0, .int .i64 A1, .int .i64 A2] 24)) = wx6 at *
            generalize u3.heap.size = na at *
            have qr0 : wx6.cell? ⟨nr, 0, none⟩ = some (.int .i64 (z 16)) := Fr.out.c 0 rfl
            have qr1 : wx6.cell? ⟨nr, 1, none⟩ = some (.int .i64 (z 17)) := Fr.out.c 1 rfl
            have qr2 : wx6.cell? ⟨nr, 2, none⟩ = some (.int .i64 (z 18)) := Fr.out.c 2 rfl
            have qr3 : wx6.cell? ⟨nr, 3, none⟩ = some (.int .i64 (z 19 + 1)) := Fr.out.c 3 rfl
            have Rc : wx6.rangeAt nc 0 [.int .i64 0, .int .i64 0, .int .i64 0, .int .i64 g0, .int .i64 g1, .int .i64 g2, .int .i64 f, .int .i64 1073741824, .int .i64 0, .int .i64 0, .int .i64 0, .int .i64 1073741824, .int .i64 0, .int .i64 0, .int .i64 0, .int .i64 1073741824] := Fc.out.rng 0
            go_upto_region 13 with (first | ((with_reducible show wpList _ _ _ (_ :: _) _ _); refine wpList_load_mid rfl 27 (.tmp 5) rfl nc 0 rfl [.int .i64 0, .int .i64 0, .int .i64 0, .int .i64 g0, .int .i64 g1, .int .i64 g2, .int .i64 f, .int .i64 1073741824, .int .i64 0, .int .i64 0, .int .i64 0, .int .i64 1073741824, .int .i64 0, .int .i64 0, .int .i64 0, .int .i64 1073741824] _ Rc Try.underlying27 rfl hsC ?_) | (go_at_call 10; refine (HA2.out _).mono ?_; rintro e u4 ⟨rfl, x4⟩))
            have Fp : Hid (HV u4 np [.int .i64 (z 0), .int .i64 (z 1), .int .i64 (z 2), .int .i64 (z 3), .int .i64 (z 4), .int .i64 (z 5), .int .i64 (z 6), .int .i64 (z 7), .int .i64 (z 8), .int .i64 (z 9), .int .i64 (z 10), .int .i64 (z 11), .int .i64 (z 12), .int .i64 (z 13), .int .i64 (z 14), .int .i64 (z 15), .int .i64 (z 16), .int .i64 (z 17), .int .i64 (z 18), .int .i64 (z 19)]) := Fp.out.ext x4
            have Fc : Hid (HV u4 nc [.int .i64 0, .int .i64 0, .int .i64 0, .int .i64 g0, .int .i64 g1, .int .i64 g2, .int .i64 f, .int .i64 1073741824, .int .i64 0, .int .i64 0, .int .i64 0, .int .i64 1073741824, .int .i64 0, .int .i64 0, .int .i64 0, .int .i64 1073741824]) := Fc.out.ext x4
            have Fr : Hid (HV u4 nr [.int .i64 (z 16), .int .i64 (z 17), .int .i64 (z 18), .int .i64 (z 19 + 1)]) := Fr.out.ext x4
            have Fa : Hid (HV u4 na [.int .i64 A0, .int .i64 A1, .int .i64 A2]) := Fa.out.ext x4
            have FX : Hid (Ext w u4) := FX.out.trans x4
            clear qr0 qr1 qr2 qr3 Rc x4 HA2
            have ltpb : np < u4.heap.size := Fp.out.1
            have ltcb : nc < u4.heap.size := Fc.out.1
            have ltrb : nr < u4.heap.size := Fr.out.1
            have ltab : na < u4.heap.size := Fa.out.1
            have Lb : Hid (w.heap.size ≤ u4.heap.size) := FX.out.size
            have Fp : Hid (HV (u4.alloc (.cells #[.int .i64 (A0 - g0), .int .i64 (A1 - g1), .int .i64 (A2 - g2)] 24)) np [.int .i64 (z 0), .int .i64 (z 1), .int .i64 (z 2), .int .i64 (z 3), .int .i64 (z 4), .int .i64 (z 5), .int .i64 (z 6), .int .i64 (z 7), .int .i64 (z 8), .int .i64 (z 9), .int .i64 (z 10), .int .i64 (z 11), .int .i64 (z 12), .int .i64 (z 13), .int .i64 (z 14), .int .i64 (z 15), .int .i64 (z 16), .int .i64 (z 17), .int .i64 (z 18), .int .i64 (z 19)]) := Fp.out.alloc _
            have Fc : Hid (HV (u4.alloc (.cells #[.int .i64 (A0 - g0), .int .i64 (A1 - g1), .int .i64 (A2 - g2)] 24)) nc [.int .i64 0, .int .i64 0, .int .i64 0, .int .i64 g0, .int .i64 g1, .int .i64 g2, .int .i64 f, .int .i64 1073741824, .int .i64 0, .int .i64 0, .int .i64 0, .int .i64 1073741824, .int .i64 0, .int .i64 0, .int .i64 0, .int .i64 1073741824]) := Fc.out.alloc _
            have Fr : Hid (HV (u4.alloc (.cells #[.int .i64 (A0 - g0), .int .i64 (A1 - g1), .int .i64 (A2 - g2)] 24)) nr [.int .i64 (z 16), .int .i64 (z 17), .int .i64 (z 18), .int .i64 (z 19 + 1)]) := Fr.out.alloc _
            have Fa : Hid (HV (u4.alloc (.cells #[.int .i64 (A0 - g0), .int .i64 (A1 - g1), .int .i64 (A2 - g2)] 24)) na [.int .i64 A0, .int .i64 A1, .int .i64 A2]) := Fa.out.alloc _
            have Fb : Hid (HV (u4.alloc (.cells #[.int .i64 (A0 - g0), .int .i64 (A1 - g1), .int .i64 (A2 - g2)] 24)) u4.heap.size [.int .i64 (A0 - g0), .int .i64 (A1 - g1), .int .i64 (A2 - g2)]) := hv_at rfl
            have FX : Hid (Ext w (u4.alloc (.cells #[.int .i64 (A0 - g0), .int .i64 (A1 - g1), .int .i64 (A2 - g2)] 24))) := FX.out.alloc _
            generalize (u4.alloc (.cells #[.int .i64 (A0 - g0), .int .i64 (A1 - g1), .int .i64 (A2 - g2)] 24)) = wx7 at *
            generalize u4.heap.size = nb at *
            have qa0 : wx7.cell? ⟨na, 0, none⟩ = some (.int .i64 A0) := Fa.out.c 0 rfl
            have qa1 : wx7.cell? ⟨na, 1, none⟩ = some (.int .i64 A1) := Fa.out.c 1 rfl
            have qa2 : wx7.cell? ⟨na, 2, none⟩ = some (.int .i64 A2) := Fa.out.c 2 rfl
            have qb0 : wx7.cell? ⟨nb, 0, none⟩ = some (.int .i64 (A0 - g0)) := Fb.out.c 0 rfl
            have qb1 : wx7.cell? ⟨nb, 1, none⟩ = some (.int .i64 (A1 - g1)) := Fb.out.c 1 rfl
            have qb2 : wx7.cell? ⟨nb, 2, none⟩ = some (.int .i64 (A2 - g2)) := Fb.out.c 2 rfl
            have qc3 : wx7.cell? ⟨nc, 3, none⟩ = some (.int .i64 g0) := Fc.out.c 3 rfl
            have qc4 : wx7.cell? ⟨nc, 4, none⟩ = some (.int .i64 g1) := Fc.out.c 4 rfl
            have qc5 : wx7.cell? ⟨nc, 5, none⟩ = some (.int .i64 g2) := Fc.out.c 5 rfl
            obtain ⟨a01, a02⟩ := ab0
            obtain ⟨a11, a12⟩ := ab1
            obtain ⟨a21, a22⟩ := ab2
            obtain ⟨g01, g02⟩ := gb0
            obtain ⟨g11, g12⟩ := gb1
            obtain ⟨g21, g22⟩ := gb2
            have HY : Hid (∀ w', Calls Try.prog 18 #[.int .i64 A0] w' fun e w'' => e = .returned (.bool true) ∧ w'' = w') := fun w' => by have h := may_any A0 w'; rw [HM.out] at h; exact h
            go_wp2_with (first | (go_at_call 11; refine (num10_any _ _).mono ?_; rintro e wx ⟨rfl, hwx⟩; have hwy := hwx.symm; clear hwx; subst hwy) | (go_at_call 18; refine (HY.out _).mono ?_; rintro e wx ⟨rfl, hwx⟩; have hwy := hwx.symm; clear hwx; subst hwy))
            go_roundw
            case rel => exact ⟨k + 1, by omega, by go_num, FX.out⟩
            case measure => simp [intOf]; omega
      · go_wp2_with fail
        refine (wakes10_any _).mono ?_
        rintro e w1 ⟨rfl, x1⟩
        have E1 : Ext w w1 := HX.out.trans x1
        go_wp2_with fail
        go_ret
        exact ⟨rfl, E1⟩
    · have hk' : k = len := by omega
      subst hk'
      go_wp2_with fail
      refine (wakes10_any _).mono ?_
      rintro e w1 ⟨rfl, x1⟩
      have E1 : Ext w w1 := HX.out.trans x1
      go_wp2_with fail
      go_ret
      exact ⟨rfl, E1⟩
set_option maxHeartbeats 4000000 in
theorem calheat_none (a : Option Addr) (cap : Nat) (w : World) :
    Calls Try.prog 5 #[.slice a 0 cap] w fun e w' => e = .returned (.bool true) ∧ Ext w w' := by
  go_enter Try.func5, Try.ntmps5
  go_wp2_with fail
  go_loopw [3] (fun i wr => i = .int .i64 0 ∧ Ext w wr) (fun _ _ => 0)
  case atStart => exact ⟨rfl, Ext.refl _⟩
  case round =>
    obtain ⟨rfl, hx⟩ := hrel
    go_wp2_with fail
    refine (wakes10_any _).mono ?_
    rintro e w1 ⟨rfl, x1⟩
    have E1 : Ext w w1 := hx.trans x1
    go_wp2_with fail
    go_ret
    exact ⟨rfl, E1⟩
end Go.Proofs.Ytnilhamcojjloaa
