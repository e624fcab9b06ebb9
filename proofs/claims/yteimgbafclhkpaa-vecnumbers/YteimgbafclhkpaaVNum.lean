/- VecNumbers. -/
import Derived.Test.YteimgbafclhkpaaR3gm
import Derived.Test.YteimgbafclhkpaaMl
import Derived.Test.YteimgbafclhkpaaV7m
import Derived.Test.YteimgbafclhkpaaV8m
import Derived.Deep.Cut
import Derived.Deep.DeepCutAuto
namespace Go.Proofs.Yteimgbafclhkpaa
open Go.RowKit Go.Shelf
theorem may_told (a0 a1 a2 : Int) (b : Bool) (h : ok3 a0 a1 a2 = b) : (∀ w, Calls Try.prog 6 #[.agg #[.int .i64 a0, .int .i64 a1, .int .i64 a2]] w fun e w' => e = .returned (.bool b) ∧ Ext w w') := fun w => by have H := mayv_any a0 a1 a2 w; rw [h] at H; exact H
theorem norm_told (a0 a1 a2 : Int) (h : ok3 a0 a1 a2 = true) : ∃ n er : Int, (∀ w, Calls Try.prog 13 #[.agg #[.int .i64 a0, .int .i64 a1, .int .i64 a2]] w fun e w' => e = .returned (.tuple #[.int .i64 n, .int .i64 er]) ∧ Ext w w') ∧ (∀ w, Calls Try.prog 11 #[.agg #[.int .i64 a0, .int .i64 a1, .int .i64 a2]] w fun e w' => e = .returned (.tuple #[.int .i64 n, .int .i64 er]) ∧ Ext w w') := by
  obtain ⟨k, hk⟩ := rootQ_exists (sq3 a0 a1 a2) 1 (by decide)
  exact ⟨_, _, fun w => vNorm_yes a0 a1 a2 k w h hk, fun w => rnorm_any a0 a1 a2 k w h hk⟩
theorem dot_told (a0 a1 a2 b0 b1 b2 : Int) (h : ok3 a0 a1 a2 = true) (k : ok3 b0 b1 b2 = true) : ∃ n er : Int, (∀ w, Calls Try.prog 12 #[.agg #[.int .i64 a0, .int .i64 a1, .int .i64 a2], .agg #[.int .i64 b0, .int .i64 b1, .int .i64 b2]] w fun e w' => e = .returned (.tuple #[.int .i64 n, .int .i64 er]) ∧ Ext w w') ∧ (∀ w, Calls Try.prog 10 #[.agg #[.int .i64 a0, .int .i64 a1, .int .i64 a2], .agg #[.int .i64 b0, .int .i64 b1, .int .i64 b2]] w fun e w' => e = .returned (.tuple #[.int .i64 n, .int .i64 er]) ∧ Ext w w') :=
  ⟨_, _, fun w => vDot_yes a0 a1 a2 b0 b1 b2 w h k, fun w => rDot_any a0 a1 a2 b0 b1 b2 w h k⟩
set_option maxRecDepth 20000 in
set_option maxHeartbeats 40000000 in
theorem numbers_any (b off len cap : Nat) (Z : Nat → Nat → Int) (w : World) (hl : len ≤ maxLen) (hc : Twos3 w b off len Z) :
    Calls Try.prog 4 #[.slice (some ⟨b, off, none⟩) len cap] w fun e w' => e = .returned (.bool true) ∧ Ext w w' := by
  have hl' : len ≤ 9223372036854775807 := by unfold maxLen at hl; omega
  clear hl
  go_enter Try.func4, Try.ntmps4
  go_wp2_with fail
  go_loopw [3] (fun i wr => ∃ k : Nat, k ≤ len ∧ i = .int .i64 k ∧ Hid (Ext w wr)) (fun i _ => len - (intOf i).toNat)
  case atStart => exact ⟨0, Nat.zero_le _, rfl, Ext.refl _⟩
  case round =>
    obtain ⟨k, hk, rfl, FX⟩ := hrel
    by_cases hlt : k < len
    · by_cases h5 : k < 20
      · skip
        obtain ⟨c0, n0a, n0b⟩ := (hc.ext FX.out) k hlt 0 (by omega)
        obtain ⟨c1, n1a, n1b⟩ := (hc.ext FX.out) k hlt 1 (by omega)
        obtain ⟨c2, n2a, n2b⟩ := (hc.ext FX.out) k hlt 2 (by omega)
        obtain ⟨c3, n3a, n3b⟩ := (hc.ext FX.out) k hlt 3 (by omega)
        obtain ⟨c4, n4a, n4b⟩ := (hc.ext FX.out) k hlt 4 (by omega)
        obtain ⟨c5, n5a, n5b⟩ := (hc.ext FX.out) k hlt 5 (by omega)
        obtain ⟨c6, n6a, n6b⟩ := (hc.ext FX.out) k hlt 6 (by omega)
        obtain ⟨c7, n7a, n7b⟩ := (hc.ext FX.out) k hlt 7 (by omega)
        obtain ⟨c8, n8a, n8b⟩ := (hc.ext FX.out) k hlt 8 (by omega)
        obtain ⟨c9, n9a, n9b⟩ := (hc.ext FX.out) k hlt 9 (by omega)
        obtain ⟨c10, n10a, n10b⟩ := (hc.ext FX.out) k hlt 10 (by omega)
        obtain ⟨c11, n11a, n11b⟩ := (hc.ext FX.out) k hlt 11 (by omega)
        obtain ⟨c12, n12a, n12b⟩ := (hc.ext FX.out) k hlt 12 (by omega)
        obtain ⟨c13, n13a, n13b⟩ := (hc.ext FX.out) k hlt 13 (by omega)
        obtain ⟨c14, n14a, n14b⟩ := (hc.ext FX.out) k hlt 14 (by omega)
        obtain ⟨c15, n15a, n15b⟩ := (hc.ext FX.out) k hlt 15 (by omega)
        rw [Nat.add_zero] at c0
        have hlt' : (k : Int) < (len : Int) := by omega
        clear hc n0a n0b n1a n1b n2a n2b n3a n3b n4a n4b n5a n5b n6a n6b n7a n7b n8a n8b n9a n9b n10a n10b n11a n11b n12a n12b n13a n13b n14a n14b n15a n15b
        generalize Z k 0 = a0 at *
        generalize Z k 1 = a1 at *
        generalize Z k 2 = a2 at *
        generalize Z k 3 = b0 at *
        generalize Z k 4 = b1 at *
        generalize Z k 5 = b2 at *
        generalize Z k 6 = y6 at *
        generalize Z k 7 = y7 at *
        generalize Z k 8 = y8 at *
        generalize Z k 9 = y9 at *
        generalize Z k 10 = y10 at *
        generalize Z k 11 = y11 at *
        generalize Z k 12 = y12 at *
        generalize Z k 13 = y13 at *
        generalize Z k 14 = y14 at *
        generalize Z k 15 = y15 at *
        go_upto_region 5 with fail
        clear c0 c1 c2 c3 c4 c5 c6 c7 c8 c9 c10 c11 c12 c13 c14 c15
        have Lp : Hid (w.heap.size ≤ wr.heap.size) := FX.out.size
        have Fp : Hid (HV (wr.alloc (.cells #[.int .i64 a0, .int .i64 a1, .int .i64 a2, .int .i64 b0, .int .i64 b1, .int .i64 b2, .int .i64 y6, .int .i64 y7, .int .i64 y8, .int .i64 y9, .int .i64 y10, .int .i64 y11, .int .i64 y12, .int .i64 y13, .int .i64 y14, .int .i64 y15] 27)) wr.heap.size [.int .i64 a0, .int .i64 a1, .int .i64 a2, .int .i64 b0, .int .i64 b1, .int .i64 b2, .int .i64 y6, .int .i64 y7, .int .i64 y8, .int .i64 y9, .int .i64 y10, .int .i64 y11, .int .i64 y12, .int .i64 y13, .int .i64 y14, .int .i64 y15]) := hv_at rfl
        have FX : Hid (Ext w (wr.alloc (.cells #[.int .i64 a0, .int .i64 a1, .int .i64 a2, .int .i64 b0, .int .i64 b1, .int .i64 b2, .int .i64 y6, .int .i64 y7, .int .i64 y8, .int .i64 y9, .int .i64 y10, .int .i64 y11, .int .i64 y12, .int .i64 y13, .int .i64 y14, .int .i64 y15] 27))) := FX.out.alloc _
        generalize (wr.alloc (.cells #[.int .i64 a0, .int .i64 a1, .int .i64 a2, .int .i64 b0, .int .i64 b1, .int .i64 b2, .int .i64 y6, .int .i64 y7, .int .i64 y8, .int .i64 y9, .int .i64 y10, .int .i64 y11, .int .i64 y12, .int .i64 y13, .int .i64 y14, .int .i64 y15] 27)) = wx1 at *
        generalize wr.heap.size = np at *
        cases g1 : ok3 a0 a1 a2
        · cases g2 : ok3 b0 b1 b2
          · have MA := may_told a0 a1 a2 _ g1
            have MB := may_told b0 b1 b2 _ g2
            have MA : Hid (∀ w, Calls Try.prog 6 #[.agg #[.int .i64 a0, .int .i64 a1, .int .i64 a2]] w fun e w' => e = .returned (.bool false) ∧ Ext w w') := MA
            have MB : Hid (∀ w, Calls Try.prog 6 #[.agg #[.int .i64 b0, .int .i64 b1, .int .i64 b2]] w fun e w' => e = .returned (.bool false) ∧ Ext w w') := MB
            have VD : Hid (∀ w, Calls Try.prog 12 #[.agg #[.int .i64 a0, .int .i64 a1, .int .i64 a2], .agg #[.int .i64 b0, .int .i64 b1, .int .i64 b2]] w fun e w' => e = .returned (.tuple #[.int .i64 0, .int .i64 1]) ∧ Ext w w') := fun w => vDot_no a0 a1 a2 b0 b1 b2 w (by rw [g1, g2]; rfl)
            have VN : Hid (∀ w, Calls Try.prog 13 #[.agg #[.int .i64 a0, .int .i64 a1, .int .i64 a2]] w fun e w' => e = .returned (.tuple #[.int .i64 0, .int .i64 1]) ∧ Ext w w') := fun w => vNorm_no a0 a1 a2 w g1
            clear g1 g2
            have qp0 : wx1.cell? ⟨np, 0, none⟩ = some (.int .i64 a0) := Fp.out.c 0 rfl
            have qp1 : wx1.cell? ⟨np, 1, none⟩ = some (.int .i64 a1) := Fp.out.c 1 rfl
            have qp2 : wx1.cell? ⟨np, 2, none⟩ = some (.int .i64 a2) := Fp.out.c 2 rfl
            go_upto_region 8 with (first | (go_at_call 6; refine (MA.out _).mono ?_; rintro e wc1 ⟨rfl, xc1⟩))
            have Fp : Hid (HV wc1 np [.int .i64 a0, .int .i64 a1, .int .i64 a2, .int .i64 b0, .int .i64 b1, .int .i64 b2, .int .i64 y6, .int .i64 y7, .int .i64 y8, .int .i64 y9, .int .i64 y10, .int .i64 y11, .int .i64 y12, .int .i64 y13, .int .i64 y14, .int .i64 y15]) := Fp.out.ext xc1
            have FX : Hid (Ext w wc1) := FX.out.trans xc1
            clear qp0 qp1 qp2 xc1
            have qp3 : wc1.cell? ⟨np, 3, none⟩ = some (.int .i64 b0) := Fp.out.c 3 rfl
            have qp4 : wc1.cell? ⟨np, 4, none⟩ = some (.int .i64 b1) := Fp.out.c 4 rfl
            have qp5 : wc1.cell? ⟨np, 5, none⟩ = some (.int .i64 b2) := Fp.out.c 5 rfl
            go_upto_region 11 with (first | (go_at_call 6; refine (MB.out _).mono ?_; rintro e wc2 ⟨rfl, xc2⟩))
            have Fp : Hid (HV wc2 np [.int .i64 a0, .int .i64 a1, .int .i64 a2, .int .i64 b0, .int .i64 b1, .int .i64 b2, .int .i64 y6, .int .i64 y7, .int .i64 y8, .int .i64 y9, .int .i64 y10, .int .i64 y11, .int .i64 y12, .int .i64 y13, .int .i64 y14, .int .i64 y15]) := Fp.out.ext xc2
            have FX : Hid (Ext w wc2) := FX.out.trans xc2
            clear qp3 qp4 qp5 xc2
            go_upto_region 14 with fail
            go_upto_region 16 with fail
            have qp0 : wc2.cell? ⟨np, 0, none⟩ = some (.int .i64 a0) := Fp.out.c 0 rfl
            have qp1 : wc2.cell? ⟨np, 1, none⟩ = some (.int .i64 a1) := Fp.out.c 1 rfl
            have qp2 : wc2.cell? ⟨np, 2, none⟩ = some (.int .i64 a2) := Fp.out.c 2 rfl
            have qp3 : wc2.cell? ⟨np, 3, none⟩ = some (.int .i64 b0) := Fp.out.c 3 rfl
            have qp4 : wc2.cell? ⟨np, 4, none⟩ = some (.int .i64 b1) := Fp.out.c 4 rfl
            have qp5 : wc2.cell? ⟨np, 5, none⟩ = some (.int .i64 b2) := Fp.out.c 5 rfl
            go_upto_region 17 with (first | (go_at_call 12; refine (VD.out _).mono ?_; rintro e wc3 ⟨rfl, xc3⟩))
            have Fp : Hid (HV wc3 np [.int .i64 a0, .int .i64 a1, .int .i64 a2, .int .i64 b0, .int .i64 b1, .int .i64 b2, .int .i64 y6, .int .i64 y7, .int .i64 y8, .int .i64 y9, .int .i64 y10, .int .i64 y11, .int .i64 y12, .int .i64 y13, .int .i64 y14, .int .i64 y15]) := Fp.out.ext xc3
            have FX : Hid (Ext w wc3) := FX.out.trans xc3
            clear qp0 qp1 qp2 qp3 qp4 qp5 xc3 VD
            have qp0 : wc3.cell? ⟨np, 0, none⟩ = some (.int .i64 a0) := Fp.out.c 0 rfl
            have qp1 : wc3.cell? ⟨np, 1, none⟩ = some (.int .i64 a1) := Fp.out.c 1 rfl
            have qp2 : wc3.cell? ⟨np, 2, none⟩ = some (.int .i64 a2) := Fp.out.c 2 rfl
            go_upto_region 18 with (first | (go_at_call 13; refine (VN.out _).mono ?_; rintro e wc4 ⟨rfl, xc4⟩))
            have Fp : Hid (HV wc4 np [.int .i64 a0, .int .i64 a1, .int .i64 a2, .int .i64 b0, .int .i64 b1, .int .i64 b2, .int .i64 y6, .int .i64 y7, .int .i64 y8, .int .i64 y9, .int .i64 y10, .int .i64 y11, .int .i64 y12, .int .i64 y13, .int .i64 y14, .int .i64 y15]) := Fp.out.ext xc4
            have FX : Hid (Ext w wc4) := FX.out.trans xc4
            clear qp0 qp1 qp2 xc4 VN
            go_wp2_with (first | (go_at_call 14; refine (num3_any _ _).mono ?_; rintro e wx ⟨rfl, hwx⟩; have hwy := hwx.symm; clear hwx; subst hwy))
            go_roundw
            case rel => exact ⟨k + 1, by omega, by go_num, FX⟩
            case measure => simp [intOf]; omega
          · have MA := may_told a0 a1 a2 _ g1
            have MB := may_told b0 b1 b2 _ g2
            have MA : Hid (∀ w, Calls Try.prog 6 #[.agg #[.int .i64 a0, .int .i64 a1, .int .i64 a2]] w fun e w' => e = .returned (.bool false) ∧ Ext w w') := MA
            have MB : Hid (∀ w, Calls Try.prog 6 #[.agg #[.int .i64 b0, .int .i64 b1, .int .i64 b2]] w fun e w' => e = .returned (.bool true) ∧ Ext w w') := MB
            have VD : Hid (∀ w, Calls Try.prog 12 #[.agg #[.int .i64 a0, .int .i64 a1, .int .i64 a2], .agg #[.int .i64 b0, .int .i64 b1, .int .i64 b2]] w fun e w' => e = .returned (.tuple #[.int .i64 0, .int .i64 1]) ∧ Ext w w') := fun w => vDot_no a0 a1 a2 b0 b1 b2 w (by rw [g1, g2]; rfl)
            have VN : Hid (∀ w, Calls Try.prog 13 #[.agg #[.int .i64 a0, .int .i64 a1, .int .i64 a2]] w fun e w' => e = .returned (.tuple #[.int .i64 0, .int .i64 1]) ∧ Ext w w') := fun w => vNorm_no a0 a1 a2 w g1
            clear g1 g2
            have qp0 : wx1.cell? ⟨np, 0, none⟩ = some (.int .i64 a0) := Fp.out.c 0 rfl
            have qp1 : wx1.cell? ⟨np, 1, none⟩ = some (.int .i64 a1) := Fp.out.c 1 rfl
            have qp2 : wx1.cell? ⟨np, 2, none⟩ = some (.int .i64 a2) := Fp.out.c 2 rfl
            go_upto_region 8 with (first | (go_at_call 6; refine (MA.out _).mono ?_; rintro e wc1 ⟨rfl, xc1⟩))
            have Fp : Hid (HV wc1 np [.int .i64 a0, .int .i64 a1, .int .i64 a2, .int .i64 b0, .int .i64 b1, .int .i64 b2, .int .i64 y6, .int .i64 y7, .int .i64 y8, .int .i64 y9, .int .i64 y10, .int .i64 y11, .int .i64 y12, .int .i64 y13, .int .i64 y14, .int .i64 y15]) := Fp.out.ext xc1
            have FX : Hid (Ext w wc1) := FX.out.trans xc1
            clear qp0 qp1 qp2 xc1
            have qp3 : wc1.cell? ⟨np, 3, none⟩ = some (.int .i64 b0) := Fp.out.c 3 rfl
            have qp4 : wc1.cell? ⟨np, 4, none⟩ = some (.int .i64 b1) := Fp.out.c 4 rfl
            have qp5 : wc1.cell? ⟨np, 5, none⟩ = some (.int .i64 b2) := Fp.out.c 5 rfl
            go_upto_region 11 with (first | (go_at_call 6; refine (MB.out _).mono ?_; rintro e wc2 ⟨rfl, xc2⟩))
            have Fp : Hid (HV wc2 np [.int .i64 a0, .int .i64 a1, .int .i64 a2, .int .i64 b0, .int .i64 b1, .int .i64 b2, .int .i64 y6, .int .i64 y7, .int .i64 y8, .int .i64 y9, .int .i64 y10, .int .i64 y11, .int .i64 y12, .int .i64 y13, .int .i64 y14, .int .i64 y15]) := Fp.out.ext xc2
            have FX : Hid (Ext w wc2) := FX.out.trans xc2
            clear qp3 qp4 qp5 xc2
            go_upto_region 14 with fail
            go_upto_region 16 with fail
            have qp0 : wc2.cell? ⟨np, 0, none⟩ = some (.int .i64 a0) := Fp.out.c 0 rfl
            have qp1 : wc2.cell? ⟨np, 1, none⟩ = some (.int .i64 a1) := Fp.out.c 1 rfl
            have qp2 : wc2.cell? ⟨np, 2, none⟩ = some (.int .i64 a2) := Fp.out.c 2 rfl
            have qp3 : wc2.cell? ⟨np, 3, none⟩ = some (.int .i64 b0) := Fp.out.c 3 rfl
            have qp4 : wc2.cell? ⟨np, 4, none⟩ = some (.int .i64 b1) := Fp.out.c 4 rfl
            have qp5 : wc2.cell? ⟨np, 5, none⟩ = some (.int .i64 b2) := Fp.out.c 5 rfl
            go_upto_region 17 with (first | (go_at_call 12; refine (VD.out _).mono ?_; rintro e wc3 ⟨rfl, xc3⟩))
            have Fp : Hid (HV wc3 np [.int .i64 a0, .int .i64 a1, .int .i64 a2, .int .i64 b0, .int .i64 b1, .int .i64 b2, .int .i64 y6, .int .i64 y7, .int .i64 y8, .int .i64 y9, .int .i64 y10, .int .i64 y11, .int .i64 y12, .int .i64 y13, .int .i64 y14, .int .i64 y15]) := Fp.out.ext xc3
            have FX : Hid (Ext w wc3) := FX.out.trans xc3
            clear qp0 qp1 qp2 qp3 qp4 qp5 xc3 VD
            have qp0 : wc3.cell? ⟨np, 0, none⟩ = some (.int .i64 a0) := Fp.out.c 0 rfl
            have qp1 : wc3.cell? ⟨np, 1, none⟩ = some (.int .i64 a1) := Fp.out.c 1 rfl
            have qp2 : wc3.cell? ⟨np, 2, none⟩ = some (.int .i64 a2) := Fp.out.c 2 rfl
            go_upto_region 18 with (first | (go_at_call 13; refine (VN.out _).mono ?_; rintro e wc4 ⟨rfl, xc4⟩))
            have Fp : Hid (HV wc4 np [.int .i64 a0, .int .i64 a1, .int .i64 a2, .int .i64 b0, .int .i64 b1, .int .i64 b2, .int .i64 y6, .int .i64 y7, .int .i64 y8, .int .i64 y9, .int .i64 y10, .int .i64 y11, .int .i64 y12, .int .i64 y13, .int .i64 y14, .int .i64 y15]) := Fp.out.ext xc4
            have FX : Hid (Ext w wc4) := FX.out.trans xc4
            clear qp0 qp1 qp2 xc4 VN
            go_wp2_with (first | (go_at_call 14; refine (num3_any _ _).mono ?_; rintro e wx ⟨rfl, hwx⟩; have hwy := hwx.symm; clear hwx; subst hwy))
            go_roundw
            case rel => exact ⟨k + 1, by omega, by go_num, FX⟩
            case measure => simp [intOf]; omega
        · cases g2 : ok3 b0 b1 b2
          · have MA := may_told a0 a1 a2 _ g1
            have MB := may_told b0 b1 b2 _ g2
            have MA : Hid (∀ w, Calls Try.prog 6 #[.agg #[.int .i64 a0, .int .i64 a1, .int .i64 a2]] w fun e w' => e = .returned (.bool true) ∧ Ext w w') := MA
            have MB : Hid (∀ w, Calls Try.prog 6 #[.agg #[.int .i64 b0, .int .i64 b1, .int .i64 b2]] w fun e w' => e = .returned (.bool false) ∧ Ext w w') := MB
            have VD : Hid (∀ w, Calls Try.prog 12 #[.agg #[.int .i64 a0, .int .i64 a1, .int .i64 a2], .agg #[.int .i64 b0, .int .i64 b1, .int .i64 b2]] w fun e w' => e = .returned (.tuple #[.int .i64 0, .int .i64 1]) ∧ Ext w w') := fun w => vDot_no a0 a1 a2 b0 b1 b2 w (by rw [g1, g2]; rfl)
            obtain ⟨nv, ne, VN, RN⟩ := norm_told a0 a1 a2 g1
            have VN : Hid (∀ w, Calls Try.prog 13 #[.agg #[.int .i64 a0, .int .i64 a1, .int .i64 a2]] w fun e w' => e = .returned (.tuple #[.int .i64 nv, .int .i64 ne]) ∧ Ext w w') := VN
            have RN : Hid (∀ w, Calls Try.prog 11 #[.agg #[.int .i64 a0, .int .i64 a1, .int .i64 a2]] w fun e w' => e = .returned (.tuple #[.int .i64 nv, .int .i64 ne]) ∧ Ext w w') := RN
            clear g1 g2
            have qp0 : wx1.cell? ⟨np, 0, none⟩ = some (.int .i64 a0) := Fp.out.c 0 rfl
            have qp1 : wx1.cell? ⟨np, 1, none⟩ = some (.int .i64 a1) := Fp.out.c 1 rfl
            have qp2 : wx1.cell? ⟨np, 2, none⟩ = some (.int .i64 a2) := Fp.out.c 2 rfl
            go_upto_region 8 with (first | (go_at_call 6; refine (MA.out _).mono ?_; rintro e wc1 ⟨rfl, xc1⟩))
            have Fp : Hid (HV wc1 np [.int .i64 a0, .int .i64 a1, .int .i64 a2, .int .i64 b0, .int .i64 b1, .int .i64 b2, .int .i64 y6, .int .i64 y7, .int .i64 y8, .int .i64 y9, .int .i64 y10, .int .i64 y11, .int .i64 y12, .int .i64 y13, .int .i64 y14, .int .i64 y15]) := Fp.out.ext xc1
            have FX : Hid (Ext w wc1) := FX.out.trans xc1
            clear qp0 qp1 qp2 xc1
            have qp3 : wc1.cell? ⟨np, 3, none⟩ = some (.int .i64 b0) := Fp.out.c 3 rfl
            have qp4 : wc1.cell? ⟨np, 4, none⟩ = some (.int .i64 b1) := Fp.out.c 4 rfl
            have qp5 : wc1.cell? ⟨np, 5, none⟩ = some (.int .i64 b2) := Fp.out.c 5 rfl
            go_upto_region 11 with (first | (go_at_call 6; refine (MB.out _).mono ?_; rintro e wc2 ⟨rfl, xc2⟩))
            have Fp : Hid (HV wc2 np [.int .i64 a0, .int .i64 a1, .int .i64 a2, .int .i64 b0, .int .i64 b1, .int .i64 b2, .int .i64 y6, .int .i64 y7, .int .i64 y8, .int .i64 y9, .int .i64 y10, .int .i64 y11, .int .i64 y12, .int .i64 y13, .int .i64 y14, .int .i64 y15]) := Fp.out.ext xc2
            have FX : Hid (Ext w wc2) := FX.out.trans xc2
            clear qp3 qp4 qp5 xc2
            go_upto_region 14 with fail
            have qp0 : wc2.cell? ⟨np, 0, none⟩ = some (.int .i64 a0) := Fp.out.c 0 rfl
            have qp1 : wc2.cell? ⟨np, 1, none⟩ = some (.int .i64 a1) := Fp.out.c 1 rfl
            have qp2 : wc2.cell? ⟨np, 2, none⟩ = some (.int .i64 a2) := Fp.out.c 2 rfl
            go_upto_region 16 with (first | (go_at_call 11; refine (RN.out _).mono ?_; rintro e wc3 ⟨rfl, xc3⟩))
            have Fp : Hid (HV wc3 np [.int .i64 a0, .int .i64 a1, .int .i64 a2, .int .i64 b0, .int .i64 b1, .int .i64 b2, .int .i64 y6, .int .i64 y7, .int .i64 y8, .int .i64 y9, .int .i64 y10, .int .i64 y11, .int .i64 y12, .int .i64 y13, .int .i64 y14, .int .i64 y15]) := Fp.out.ext xc3
            have FX : Hid (Ext w wc3) := FX.out.trans xc3
            clear qp0 qp1 qp2 xc3 RN
            have qp0 : wc3.cell? ⟨np, 0, none⟩ = some (.int .i64 a0) := Fp.out.c 0 rfl
            have qp1 : wc3.cell? ⟨np, 1, none⟩ = some (.int .i64 a1) := Fp.out.c 1 rfl
            have qp2 : wc3.cell? ⟨np, 2, none⟩ = some (.int .i64 a2) := Fp.out.c 2 rfl
            have qp3 : wc3.cell? ⟨np, 3, none⟩ = some (.int .i64 b0) := Fp.out.c 3 rfl
            have qp4 : wc3.cell? ⟨np, 4, none⟩ = some (.int .i64 b1) := Fp.out.c 4 rfl
            have qp5 : wc3.cell? ⟨np, 5, none⟩ = some (.int .i64 b2) := Fp.out.c 5 rfl
            go_upto_region 17 with (first | (go_at_call 12; refine (VD.out _).mono ?_; rintro e wc4 ⟨rfl, xc4⟩))
            have Fp : Hid (HV wc4 np [.int .i64 a0, .int .i64 a1, .int .i64 a2, .int .i64 b0, .int .i64 b1, .int .i64 b2, .int .i64 y6, .int .i64 y7, .int .i64 y8, .int .i64 y9, .int .i64 y10, .int .i64 y11, .int .i64 y12, .int .i64 y13, .int .i64 y14, .int .i64 y15]) := Fp.out.ext xc4
            have FX : Hid (Ext w wc4) := FX.out.trans xc4
            clear qp0 qp1 qp2 qp3 qp4 qp5 xc4 VD
            have qp0 : wc4.cell? ⟨np, 0, none⟩ = some (.int .i64 a0) := Fp.out.c 0 rfl
            have qp1 : wc4.cell? ⟨np, 1, none⟩ = some (.int .i64 a1) := Fp.out.c 1 rfl
            have qp2 : wc4.cell? ⟨np, 2, none⟩ = some (.int .i64 a2) := Fp.out.c 2 rfl
            go_upto_region 18 with (first | (go_at_call 13; refine (VN.out _).mono ?_; rintro e wc5 ⟨rfl, xc5⟩))
            have Fp : Hid (HV wc5 np [.int .i64 a0, .int .i64 a1, .int .i64 a2, .int .i64 b0, .int .i64 b1, .int .i64 b2, .int .i64 y6, .int .i64 y7, .int .i64 y8, .int .i64 y9, .int .i64 y10, .int .i64 y11, .int .i64 y12, .int .i64 y13, .int .i64 y14, .int .i64 y15]) := Fp.out.ext xc5
            have FX : Hid (Ext w wc5) := FX.out.trans xc5
            clear qp0 qp1 qp2 xc5 VN
            go_wp2_with (first | (go_at_call 14; refine (num3_any _ _).mono ?_; rintro e wx ⟨rfl, hwx⟩; have hwy := hwx.symm; clear hwx; subst hwy))
            go_roundw
            case rel => exact ⟨k + 1, by omega, by go_num, FX⟩
            case measure => simp [intOf]; omega
          · have MA := may_told a0 a1 a2 _ g1
            have MB := may_told b0 b1 b2 _ g2
            have MA : Hid (∀ w, Calls Try.prog 6 #[.agg #[.int .i64 a0, .int .i64 a1, .int .i64 a2]] w fun e w' => e = .returned (.bool true) ∧ Ext w w') := MA
            have MB : Hid (∀ w, Calls Try.prog 6 #[.agg #[.int .i64 b0, .int .i64 b1, .int .i64 b2]] w fun e w' => e = .returned (.bool true) ∧ Ext w w') := MB
            obtain ⟨dv, de, VD, RD⟩ := dot_told a0 a1 a2 b0 b1 b2 g1 g2
            have VD : Hid (∀ w, Calls Try.prog 12 #[.agg #[.int .i64 a0, .int .i64 a1, .int .i64 a2], .agg #[.int .i64 b0, .int .i64 b1, .int .i64 b2]] w fun e w' => e = .returned (.tuple #[.int .i64 dv, .int .i64 de]) ∧ Ext w w') := VD
            have RD : Hid (∀ w, Calls Try.prog 10 #[.agg #[.int .i64 a0, .int .i64 a1, .int .i64 a2], .agg #[.int .i64 b0, .int .i64 b1, .int .i64 b2]] w fun e w' => e = .returned (.tuple #[.int .i64 dv, .int .i64 de]) ∧ Ext w w') := RD
            obtain ⟨nv, ne, VN, RN⟩ := norm_told a0 a1 a2 g1
            have VN : Hid (∀ w, Calls Try.prog 13 #[.agg #[.int .i64 a0, .int .i64 a1, .int .i64 a2]] w fun e w' => e = .returned (.tuple #[.int .i64 nv, .int .i64 ne]) ∧ Ext w w') := VN
            have RN : Hid (∀ w, Calls Try.prog 11 #[.agg #[.int .i64 a0, .int .i64 a1, .int .i64 a2]] w fun e w' => e = .returned (.tuple #[.int .i64 nv, .int .i64 ne]) ∧ Ext w w') := RN
            clear g1 g2
            have qp0 : wx1.cell? ⟨np, 0, none⟩ = some (.int .i64 a0) := Fp.out.c 0 rfl
            have qp1 : wx1.cell? ⟨np, 1, none⟩ = some (.int .i64 a1) := Fp.out.c 1 rfl
            have qp2 : wx1.cell? ⟨np, 2, none⟩ = some (.int .i64 a2) := Fp.out.c 2 rfl
            go_upto_region 8 with (first | (go_at_call 6; refine (MA.out _).mono ?_; rintro e wc1 ⟨rfl, xc1⟩))
            have Fp : Hid (HV wc1 np [.int .i64 a0, .int .i64 a1, .int .i64 a2, .int .i64 b0, .int .i64 b1, .int .i64 b2, .int .i64 y6, .int .i64 y7, .int .i64 y8, .int .i64 y9, .int .i64 y10, .int .i64 y11, .int .i64 y12, .int .i64 y13, .int .i64 y14, .int .i64 y15]) := Fp.out.ext xc1
            have FX : Hid (Ext w wc1) := FX.out.trans xc1
            clear qp0 qp1 qp2 xc1
            have qp3 : wc1.cell? ⟨np, 3, none⟩ = some (.int .i64 b0) := Fp.out.c 3 rfl
            have qp4 : wc1.cell? ⟨np, 4, none⟩ = some (.int .i64 b1) := Fp.out.c 4 rfl
            have qp5 : wc1.cell? ⟨np, 5, none⟩ = some (.int .i64 b2) := Fp.out.c 5 rfl
            go_upto_region 11 with (first | (go_at_call 6; refine (MB.out _).mono ?_; rintro e wc2 ⟨rfl, xc2⟩))
            have Fp : Hid (HV wc2 np [.int .i64 a0, .int .i64 a1, .int .i64 a2, .int .i64 b0, .int .i64 b1, .int .i64 b2, .int .i64 y6, .int .i64 y7, .int .i64 y8, .int .i64 y9, .int .i64 y10, .int .i64 y11, .int .i64 y12, .int .i64 y13, .int .i64 y14, .int .i64 y15]) := Fp.out.ext xc2
            have FX : Hid (Ext w wc2) := FX.out.trans xc2
            clear qp3 qp4 qp5 xc2
            have qp0 : wc2.cell? ⟨np, 0, none⟩ = some (.int .i64 a0) := Fp.out.c 0 rfl
            have qp1 : wc2.cell? ⟨np, 1, none⟩ = some (.int .i64 a1) := Fp.out.c 1 rfl
            have qp2 : wc2.cell? ⟨np, 2, none⟩ = some (.int .i64 a2) := Fp.out.c 2 rfl
            have qp3 : wc2.cell? ⟨np, 3, none⟩ = some (.int .i64 b0) := Fp.out.c 3 rfl
            have qp4 : wc2.cell? ⟨np, 4, none⟩ = some (.int .i64 b1) := Fp.out.c 4 rfl
            have qp5 : wc2.cell? ⟨np, 5, none⟩ = some (.int .i64 b2) := Fp.out.c 5 rfl
            go_upto_region 14 with (first | (go_at_call 10; refine (RD.out _).mono ?_; rintro e wc3 ⟨rfl, xc3⟩))
            have Fp : Hid (HV wc3 np [.int .i64 a0, .int .i64 a1, .int .i64 a2, .int .i64 b0, .int .i64 b1, .int .i64 b2, .int .i64 y6, .int .i64 y7, .int .i64 y8, .int .i64 y9, .int .i64 y10, .int .i64 y11, .int .i64 y12, .int .i64 y13, .int .i64 y14, .int .i64 y15]) := Fp.out.ext xc3
            have FX : Hid (Ext w wc3) := FX.out.trans xc3
            clear qp0 qp1 qp2 qp3 qp4 qp5 xc3 RD
            have qp0 : wc3.cell? ⟨np, 0, none⟩ = some (.int .i64 a0) := Fp.out.c 0 rfl
            have qp1 : wc3.cell? ⟨np, 1, none⟩ = some (.int .i64 a1) := Fp.out.c 1 rfl
            have qp2 : wc3.cell? ⟨np, 2, none⟩ = some (.int .i64 a2) := Fp.out.c 2 rfl
            go_upto_region 16 with (first | (go_at_call 11; refine (RN.out _).mono ?_; rintro e wc4 ⟨rfl, xc4⟩))
            have Fp : Hid (HV wc4 np [.int .i64 a0, .int .i64 a1, .int .i64 a2, .int .i64 b0, .int .i64 b1, .int .i64 b2, .int .i64 y6, .int .i64 y7, .int .i64 y8, .int .i64 y9, .int .i64 y10, .int .i64 y11, .int .i64 y12, .int .i64 y13, .int .i64 y14, .int .i64 y15]) := Fp.out.ext xc4
            have FX : Hid (Ext w wc4) := FX.out.trans xc4
            clear qp0 qp1 qp2 xc4 RN
            have qp0 : wc4.cell? ⟨np, 0, none⟩ = some (.int .i64 a0) := Fp.out.c 0 rfl
            have qp1 : wc4.cell? ⟨np, 1, none⟩ = some (.int .i64 a1) := Fp.out.c 1 rfl
            have qp2 : wc4.cell? ⟨np, 2, none⟩ = some (.int .i64 a2) := Fp.out.c 2 rfl
            have qp3 : wc4.cell? ⟨np, 3, none⟩ = some (.int .i64 b0) := Fp.out.c 3 rfl
            have qp4 : wc4.cell? ⟨np, 4, none⟩ = some (.int .i64 b1) := Fp.out.c 4 rfl
            have qp5 : wc4.cell? ⟨np, 5, none⟩ = some (.int .i64 b2) := Fp.out.c 5 rfl
            go_upto_region 17 with (first | (go_at_call 12; refine (VD.out _).mono ?_; rintro e wc5 ⟨rfl, xc5⟩))
            have Fp : Hid (HV wc5 np [.int .i64 a0, .int .i64 a1, .int .i64 a2, .int .i64 b0, .int .i64 b1, .int .i64 b2, .int .i64 y6, .int .i64 y7, .int .i64 y8, .int .i64 y9, .int .i64 y10, .int .i64 y11, .int .i64 y12, .int .i64 y13, .int .i64 y14, .int .i64 y15]) := Fp.out.ext xc5
            have FX : Hid (Ext w wc5) := FX.out.trans xc5
            clear qp0 qp1 qp2 qp3 qp4 qp5 xc5 VD
            have qp0 : wc5.cell? ⟨np, 0, none⟩ = some (.int .i64 a0) := Fp.out.c 0 rfl
            have qp1 : wc5.cell? ⟨np, 1, none⟩ = some (.int .i64 a1) := Fp.out.c 1 rfl
            have qp2 : wc5.cell? ⟨np, 2, none⟩ = some (.int .i64 a2) := Fp.out.c 2 rfl
            go_upto_region 18 with (first | (go_at_call 13; refine (VN.out _).mono ?_; rintro e wc6 ⟨rfl, xc6⟩))
            have Fp : Hid (HV wc6 np [.int .i64 a0, .int .i64 a1, .int .i64 a2, .int .i64 b0, .int .i64 b1, .int .i64 b2, .int .i64 y6, .int .i64 y7, .int .i64 y8, .int .i64 y9, .int .i64 y10, .int .i64 y11, .int .i64 y12, .int .i64 y13, .int .i64 y14, .int .i64 y15]) := Fp.out.ext xc6
            have FX : Hid (Ext w wc6) := FX.out.trans xc6
            clear qp0 qp1 qp2 xc6 VN
            go_wp2_with (first | (go_at_call 14; refine (num3_any _ _).mono ?_; rintro e wx ⟨rfl, hwx⟩; have hwy := hwx.symm; clear hwx; subst hwy))
            go_roundw
            case rel => exact ⟨k + 1, by omega, by go_num, FX⟩
            case measure => simp [intOf]; omega
      · go_wp2_with fail
        refine (wakes3_any _).mono ?_
        rintro e w1 ⟨rfl, x1⟩
        have E1 : Ext w w1 := FX.out.trans x1
        go_wp2_with fail
        go_ret
        exact ⟨rfl, E1⟩
    · have hk' : k = len := by omega
      subst hk'
      go_wp2_with fail
      refine (wakes3_any _).mono ?_
      rintro e w1 ⟨rfl, x1⟩
      have E1 : Ext w w1 := FX.out.trans x1
      go_wp2_with fail
      go_ret
      exact ⟨rfl, E1⟩
set_option maxHeartbeats 4000000 in
theorem numbers_none (a : Option Addr) (cap : Nat) (w : World) :
    Calls Try.prog 4 #[.slice a 0 cap] w fun e w' => e = .returned (.bool true) ∧ Ext w w' := by
  go_enter Try.func4, Try.ntmps4
  go_wp2_with fail
  go_loopw [3] (fun i wr => i = .int .i64 0 ∧ Hid (Ext w wr)) (fun _ _ => 0)
  case atStart => exact ⟨rfl, Ext.refl _⟩
  case round =>
    obtain ⟨rfl, FX⟩ := hrel
    go_wp2_with fail
    refine (wakes3_any _).mono ?_
    rintro e w1 ⟨rfl, x1⟩
    have E1 : Ext w w1 := FX.out.trans x1
    go_wp2_with fail
    go_ret
    exact ⟨rfl, E1⟩
end Go.Proofs.Yteimgbafclhkpaa
