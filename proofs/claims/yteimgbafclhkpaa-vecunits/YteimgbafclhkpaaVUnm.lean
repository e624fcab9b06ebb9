/- VecUnits. -/
import Derived.Test.YteimgbafclhkpaaR3fm
import Derived.Test.YteimgbafclhkpaaMl
import Derived.Test.YteimgbafclhkpaaMl2
import Derived.Test.YteimgbafclhkpaaMg20
import Derived.Deep.Cut
import Derived.Deep.DeepCutAuto
namespace Go.Proofs.Yteimgbafclhkpaa
open Go.RowKit Go.Shelf
/-- all that is told of one vector: what is no vector, and what is one -/
theorem unit_no_told (a0 a1 a2 : Int) (h : ok3 a0 a1 a2 = false) : (∀ w, Calls Try.prog 5 #[.agg #[.int .i64 a0, .int .i64 a1, .int .i64 a2]] w fun e w' => e = .returned (.tuple #[.agg #[.int .i64 0, .int .i64 0, .int .i64 0], .int .i64 1]) ∧ Ext w w') ∧ (∀ w, Calls Try.prog 6 #[.agg #[.int .i64 a0, .int .i64 a1, .int .i64 a2]] w fun e w' => e = .returned (.bool false) ∧ Ext w w') ∧ (∀ w, Calls Try.prog 8 #[.agg #[.int .i64 0, .int .i64 0, .int .i64 0], .int .i64 1, .agg #[.int .i64 0, .int .i64 0, .int .i64 0], .int .i64 1] w fun e w' => e = .returned (.bool true) ∧ Ext w w') :=
  ⟨fun w => vUnit_no a0 a1 a2 w h, fun w => by have H := mayv_any a0 a1 a2 w; rw [h] at H; exact H, fun w => is3_any 0 0 0 1 w (.inr ⟨rfl, rfl, rfl, by decide⟩)⟩
theorem unit_yes_told (a0 a1 a2 : Int) (h : ok3 a0 a1 a2 = true) : ∃ x y z er : Int, (∀ w, Calls Try.prog 5 #[.agg #[.int .i64 a0, .int .i64 a1, .int .i64 a2]] w fun e w' => e = .returned (.tuple #[.agg #[.int .i64 x, .int .i64 y, .int .i64 z], .int .i64 er]) ∧ Ext w w') ∧ (∀ w, Calls Try.prog 6 #[.agg #[.int .i64 a0, .int .i64 a1, .int .i64 a2]] w fun e w' => e = .returned (.bool true) ∧ Ext w w') ∧ (∀ w, Calls Try.prog 7 #[.agg #[.int .i64 a0, .int .i64 a1, .int .i64 a2]] w fun e w' => e = .returned (.tuple #[.agg #[.int .i64 x, .int .i64 y, .int .i64 z], .int .i64 er]) ∧ Ext w w') ∧ (∀ w, Calls Try.prog 8 #[.agg #[.int .i64 x, .int .i64 y, .int .i64 z], .int .i64 er, .agg #[.int .i64 x, .int .i64 y, .int .i64 z], .int .i64 er] w fun e w' => e = .returned (.bool true) ∧ Ext w w') := by
  have M : ∀ w, Calls Try.prog 6 #[.agg #[.int .i64 a0, .int .i64 a1, .int .i64 a2]] w fun e w' => e = .returned (.bool true) ∧ Ext w w' := fun w => by have H := mayv_any a0 a1 a2 w; rw [h] at H; exact H
  by_cases hz : a0 = 0 ∧ a1 = 0 ∧ a2 = 0
  · obtain ⟨rfl, rfl, rfl⟩ := hz
    exact ⟨0, 0, 0, 3, fun w => vUnit_zero w, M, fun w => runit_zero w, fun w => is3_any 0 0 0 3 w (.inr ⟨rfl, rfl, rfl, by decide⟩)⟩
  · have n0 := sq3_zero a0 a1 a2 hz
    obtain ⟨k0, h0⟩ := rootQ_exists (a0.natAbs * a0.natAbs * 1152921504606846976) (sq3 a0 a1 a2) n0
    obtain ⟨k1, h1⟩ := rootQ_exists (a1.natAbs * a1.natAbs * 1152921504606846976) (sq3 a0 a1 a2) n0
    obtain ⟨k2, h2⟩ := rootQ_exists (a2.natAbs * a2.natAbs * 1152921504606846976) (sq3 a0 a1 a2) n0
    have U := fun w => vUnit_yes a0 a1 a2 k0 k1 k2 w h hz h0 h1 h2
    have R := fun w => runit_any a0 a1 a2 k0 k1 k2 w h hz h0 h1 h2
    obtain ⟨x, y, z, er, hr, hq⟩ := vres_is (sgd a0 k0) (sgd a1 k1) (sgd a2 k2)
    rw [hr] at U R
    exact ⟨x, y, z, er, U, M, R, fun w => is3_any x y z er w hq⟩
set_option maxRecDepth 20000 in
set_option maxHeartbeats 40000000 in
theorem units_any (b off len cap : Nat) (Z : Nat → Nat → Int) (w : World) (hl : len ≤ maxLen) (hc : Twos3 w b off len Z) :
    Calls Try.prog 3 #[.slice (some ⟨b, off, none⟩) len cap] w fun e w' => e = .returned (.bool true) ∧ Ext w w' := by
  have hl' : len ≤ 9223372036854775807 := by unfold maxLen at hl; omega
  clear hl
  go_enter Try.func3, Try.ntmps3
  go_wp2_with fail
  go_loopw [3] (fun i wr => ∃ k : Nat, k ≤ len ∧ i = .int .i64 k ∧ Hid (Ext w wr)) (fun i _ => len - (intOf i).toNat)
  case atStart => exact ⟨0, Nat.zero_le _, rfl, Ext.refl _⟩
  case round =>
    obtain ⟨k, hk, rfl, FX⟩ := hrel
    by_cases hlt : k < len
    · by_cases h5 : k < 20
      · skip
        obtain ⟨c0, n0a, n0b⟩ := (hc.ext FX.out) k hlt 0 (by omega)
        obtain ⟨c1, n1a, n1b⟩ := (hc.ext FX.out) k hlt 1 (by omega)
        obtain ⟨c2, n2a, n2b⟩ := (hc.ext FX.out) k hlt 2 (by omega)
        rw [Nat.add_zero] at c0
        have hlt' : (k : Int) < (len : Int) := by omega
        clear hc n0a n0b n1a n1b n2a n2b
        generalize Z k 0 = a0 at *
        generalize Z k 1 = a1 at *
        generalize Z k 2 = a2 at *
        go_upto_region 5 with fail
        clear c0 c1 c2
        have La : Hid (w.heap.size ≤ wr.heap.size) := FX.out.size
        have Fa : Hid (HV (wr.alloc (.cells #[.int .i64 a0, .int .i64 a1, .int .i64 a2] 24)) wr.heap.size [.int .i64 a0, .int .i64 a1, .int .i64 a2]) := hv_at rfl
        have FX : Hid (Ext w (wr.alloc (.cells #[.int .i64 a0, .int .i64 a1, .int .i64 a2] 24))) := FX.out.alloc _
        generalize (wr.alloc (.cells #[.int .i64 a0, .int .i64 a1, .int .i64 a2] 24)) = wx1 at *
        generalize wr.heap.size = na at *
        cases g1 : ok3 a0 a1 a2
        · obtain ⟨HU, HM, HI⟩ := unit_no_told a0 a1 a2 g1
          have HU : Hid (∀ w, Calls Try.prog 5 #[.agg #[.int .i64 a0, .int .i64 a1, .int .i64 a2]] w fun e w' => e = .returned (.tuple #[.agg #[.int .i64 0, .int .i64 0, .int .i64 0], .int .i64 1]) ∧ Ext w w') := HU
          have HM : Hid (∀ w, Calls Try.prog 6 #[.agg #[.int .i64 a0, .int .i64 a1, .int .i64 a2]] w fun e w' => e = .returned (.bool false) ∧ Ext w w') := HM
          have HI : Hid (∀ w, Calls Try.prog 8 #[.agg #[.int .i64 0, .int .i64 0, .int .i64 0], .int .i64 1, .agg #[.int .i64 0, .int .i64 0, .int .i64 0], .int .i64 1] w fun e w' => e = .returned (.bool true) ∧ Ext w w') := HI
          clear g1
          have qa0 : wx1.cell? ⟨na, 0, none⟩ = some (.int .i64 a0) := Fa.out.c 0 rfl
          have qa1 : wx1.cell? ⟨na, 1, none⟩ = some (.int .i64 a1) := Fa.out.c 1 rfl
          have qa2 : wx1.cell? ⟨na, 2, none⟩ = some (.int .i64 a2) := Fa.out.c 2 rfl
          go_upto_region 6 with (first | (go_at_call 5; refine (HU.out _).mono ?_; rintro e w5 ⟨rfl, x5⟩))
          have Fa : Hid (HV w5 na [.int .i64 a0, .int .i64 a1, .int .i64 a2]) := Fa.out.ext x5
          have FX : Hid (Ext w w5) := FX.out.trans x5
          clear qa0 qa1 qa2 x5 HU
          have ltax : na < w5.heap.size := Fa.out.1
          have Lx : Hid (w.heap.size ≤ w5.heap.size) := FX.out.size
          have Fa : Hid (HV (w5.alloc (.cells #[.int .i64 0, .int .i64 0, .int .i64 0] 24)) na [.int .i64 a0, .int .i64 a1, .int .i64 a2]) := Fa.out.alloc _
          have Fx : Hid (HV (w5.alloc (.cells #[.int .i64 0, .int .i64 0, .int .i64 0] 24)) w5.heap.size [.int .i64 0, .int .i64 0, .int .i64 0]) := hv_at rfl
          have FX : Hid (Ext w (w5.alloc (.cells #[.int .i64 0, .int .i64 0, .int .i64 0] 24))) := FX.out.alloc _
          generalize (w5.alloc (.cells #[.int .i64 0, .int .i64 0, .int .i64 0] 24)) = wx12 at *
          generalize w5.heap.size = nx at *
          go_upto_region 7 with fail
          have ltas : na < wx12.heap.size := Fa.out.1
          have ltxs : nx < wx12.heap.size := Fx.out.1
          have Ls : Hid (w.heap.size ≤ wx12.heap.size) := FX.out.size
          have Fa : Hid (HV (wx12.alloc (.cells #[.int .i64 0, .int .i64 0, .int .i64 0] 24)) na [.int .i64 a0, .int .i64 a1, .int .i64 a2]) := Fa.out.alloc _
          have Fx : Hid (HV (wx12.alloc (.cells #[.int .i64 0, .int .i64 0, .int .i64 0] 24)) nx [.int .i64 0, .int .i64 0, .int .i64 0]) := Fx.out.alloc _
          have Fs : Hid (HV (wx12.alloc (.cells #[.int .i64 0, .int .i64 0, .int .i64 0] 24)) wx12.heap.size [.int .i64 0, .int .i64 0, .int .i64 0]) := hv_at rfl
          have FX : Hid (Ext w (wx12.alloc (.cells #[.int .i64 0, .int .i64 0, .int .i64 0] 24))) := FX.out.alloc _
          generalize (wx12.alloc (.cells #[.int .i64 0, .int .i64 0, .int .i64 0] 24)) = wx13 at *
          generalize wx12.heap.size = ns at *
          have qa0 : wx13.cell? ⟨na, 0, none⟩ = some (.int .i64 a0) := Fa.out.c 0 rfl
          have qa1 : wx13.cell? ⟨na, 1, none⟩ = some (.int .i64 a1) := Fa.out.c 1 rfl
          have qa2 : wx13.cell? ⟨na, 2, none⟩ = some (.int .i64 a2) := Fa.out.c 2 rfl
          go_upto_region 9 with (first | (go_at_call 6; refine (HM.out _).mono ?_; rintro e w7 ⟨rfl, x7⟩))
          have Fa : Hid (HV w7 na [.int .i64 a0, .int .i64 a1, .int .i64 a2]) := Fa.out.ext x7
          have Fx : Hid (HV w7 nx [.int .i64 0, .int .i64 0, .int .i64 0]) := Fx.out.ext x7
          have Fs : Hid (HV w7 ns [.int .i64 0, .int .i64 0, .int .i64 0]) := Fs.out.ext x7
          have FX : Hid (Ext w w7) := FX.out.trans x7
          clear qa0 qa1 qa2 x7 HM
          have qx0 : w7.cell? ⟨nx, 0, none⟩ = some (.int .i64 0) := Fx.out.c 0 rfl
          have qx1 : w7.cell? ⟨nx, 1, none⟩ = some (.int .i64 0) := Fx.out.c 1 rfl
          have qx2 : w7.cell? ⟨nx, 2, none⟩ = some (.int .i64 0) := Fx.out.c 2 rfl
          have qs0 : w7.cell? ⟨ns, 0, none⟩ = some (.int .i64 0) := Fs.out.c 0 rfl
          have qs1 : w7.cell? ⟨ns, 1, none⟩ = some (.int .i64 0) := Fs.out.c 1 rfl
          have qs2 : w7.cell? ⟨ns, 2, none⟩ = some (.int .i64 0) := Fs.out.c 2 rfl
          go_wp2_with (go_at_call 8; refine (HI.out _).mono ?_; rintro e w9 ⟨rfl, x9⟩)
          have Fa : Hid (HV w9 na [.int .i64 a0, .int .i64 a1, .int .i64 a2]) := Fa.out.ext x9
          have Fx : Hid (HV w9 nx [.int .i64 0, .int .i64 0, .int .i64 0]) := Fx.out.ext x9
          have Fs : Hid (HV w9 ns [.int .i64 0, .int .i64 0, .int .i64 0]) := Fs.out.ext x9
          have FX : Hid (Ext w w9) := FX.out.trans x9
          go_roundw
          case rel => exact ⟨k + 1, by omega, by go_num, FX⟩
          case measure => simp [intOf]; omega
        · obtain ⟨x, y, z, er, HU, HM, HR, HI⟩ := unit_yes_told a0 a1 a2 g1
          have HU : Hid (∀ w, Calls Try.prog 5 #[.agg #[.int .i64 a0, .int .i64 a1, .int .i64 a2]] w fun e w' => e = .returned (.tuple #[.agg #[.int .i64 x, .int .i64 y, .int .i64 z], .int .i64 er]) ∧ Ext w w') := HU
          have HM : Hid (∀ w, Calls Try.prog 6 #[.agg #[.int .i64 a0, .int .i64 a1, .int .i64 a2]] w fun e w' => e = .returned (.bool true) ∧ Ext w w') := HM
          have HI : Hid (∀ w, Calls Try.prog 8 #[.agg #[.int .i64 x, .int .i64 y, .int .i64 z], .int .i64 er, .agg #[.int .i64 x, .int .i64 y, .int .i64 z], .int .i64 er] w fun e w' => e = .returned (.bool true) ∧ Ext w w') := HI
          have HR : Hid (∀ w, Calls Try.prog 7 #[.agg #[.int .i64 a0, .int .i64 a1, .int .i64 a2]] w fun e w' => e = .returned (.tuple #[.agg #[.int .i64 x, .int .i64 y, .int .i64 z], .int .i64 er]) ∧ Ext w w') := HR
          clear g1
          have qa0 : wx1.cell? ⟨na, 0, none⟩ = some (.int .i64 a0) := Fa.out.c 0 rfl
          have qa1 : wx1.cell? ⟨na, 1, none⟩ = some (.int .i64 a1) := Fa.out.c 1 rfl
          have qa2 : wx1.cell? ⟨na, 2, none⟩ = some (.int .i64 a2) := Fa.out.c 2 rfl
          go_upto_region 6 with (first | (go_at_call 5; refine (HU.out _).mono ?_; rintro e w5 ⟨rfl, x5⟩))
          have Fa : Hid (HV w5 na [.int .i64 a0, .int .i64 a1, .int .i64 a2]) := Fa.out.ext x5
          have FX : Hid (Ext w w5) := FX.out.trans x5
          clear qa0 qa1 qa2 x5 HU
          have ltax : na < w5.heap.size := Fa.out.1
          have Lx : Hid (w.heap.size ≤ w5.heap.size) := FX.out.size
          have Fa : Hid (HV (w5.alloc (.cells #[.int .i64 x, .int .i64 y, .int .i64 z] 24)) na [.int .i64 a0, .int .i64 a1, .int .i64 a2]) := Fa.out.alloc _
          have Fx : Hid (HV (w5.alloc (.cells #[.int .i64 x, .int .i64 y, .int .i64 z] 24)) w5.heap.size [.int .i64 x, .int .i64 y, .int .i64 z]) := hv_at rfl
          have FX : Hid (Ext w (w5.alloc (.cells #[.int .i64 x, .int .i64 y, .int .i64 z] 24))) := FX.out.alloc _
          generalize (w5.alloc (.cells #[.int .i64 x, .int .i64 y, .int .i64 z] 24)) = wx22 at *
          generalize w5.heap.size = nx at *
          go_upto_region 7 with fail
          have ltas : na < wx22.heap.size := Fa.out.1
          have ltxs : nx < wx22.heap.size := Fx.out.1
          have Ls : Hid (w.heap.size ≤ wx22.heap.size) := FX.out.size
          have Fa : Hid (HV (wx22.alloc (.cells #[.int .i64 0, .int .i64 0, .int .i64 0] 24)) na [.int .i64 a0, .int .i64 a1, .int .i64 a2]) := Fa.out.alloc _
          have Fx : Hid (HV (wx22.alloc (.cells #[.int .i64 0, .int .i64 0, .int .i64 0] 24)) nx [.int .i64 x, .int .i64 y, .int .i64 z]) := Fx.out.alloc _
          have Fs : Hid (HV (wx22.alloc (.cells #[.int .i64 0, .int .i64 0, .int .i64 0] 24)) wx22.heap.size [.int .i64 0, .int .i64 0, .int .i64 0]) := hv_at rfl
          have FX : Hid (Ext w (wx22.alloc (.cells #[.int .i64 0, .int .i64 0, .int .i64 0] 24))) := FX.out.alloc _
          generalize (wx22.alloc (.cells #[.int .i64 0, .int .i64 0, .int .i64 0] 24)) = wx23 at *
          generalize wx22.heap.size = ns at *
          have qa0 : wx23.cell? ⟨na, 0, none⟩ = some (.int .i64 a0) := Fa.out.c 0 rfl
          have qa1 : wx23.cell? ⟨na, 1, none⟩ = some (.int .i64 a1) := Fa.out.c 1 rfl
          have qa2 : wx23.cell? ⟨na, 2, none⟩ = some (.int .i64 a2) := Fa.out.c 2 rfl
          go_upto_region 8 with (first | (go_at_call 6; refine (HM.out _).mono ?_; rintro e w7 ⟨rfl, x7⟩))
          have Fa : Hid (HV w7 na [.int .i64 a0, .int .i64 a1, .int .i64 a2]) := Fa.out.ext x7
          have Fx : Hid (HV w7 nx [.int .i64 x, .int .i64 y, .int .i64 z]) := Fx.out.ext x7
          have Fs : Hid (HV w7 ns [.int .i64 0, .int .i64 0, .int .i64 0]) := Fs.out.ext x7
          have FX : Hid (Ext w w7) := FX.out.trans x7
          clear qa0 qa1 qa2 x7 HM
          have qa0 : w7.cell? ⟨na, 0, none⟩ = some (.int .i64 a0) := Fa.out.c 0 rfl
          have qa1 : w7.cell? ⟨na, 1, none⟩ = some (.int .i64 a1) := Fa.out.c 1 rfl
          have qa2 : w7.cell? ⟨na, 2, none⟩ = some (.int .i64 a2) := Fa.out.c 2 rfl
          have qs0 : w7.cell? ⟨ns, 0, none⟩ = some (.int .i64 0) := Fs.out.c 0 rfl
          have zs0 : w7.frozen? ⟨ns, 0, none⟩ = false := Fs.out.f 0 rfl
          have qs1 : w7.cell? ⟨ns, 1, none⟩ = some (.int .i64 0) := Fs.out.c 1 rfl
          have zs1 : w7.frozen? ⟨ns, 1, none⟩ = false := Fs.out.f 1 rfl
          have qs2 : w7.cell? ⟨ns, 2, none⟩ = some (.int .i64 0) := Fs.out.c 2 rfl
          have zs2 : w7.frozen? ⟨ns, 2, none⟩ = false := Fs.out.f 2 rfl
          go_upto_region 9 with (first | (go_at_call 7; refine (HR.out _).mono ?_; rintro e w8 ⟨rfl, x8⟩; have ks0 : w8.cell? ⟨ns, 0, none⟩ = some (.int .i64 0) := (Fs.out.ext x8).c 0 rfl; have zs0 : w8.frozen? ⟨ns, 0, none⟩ = false := (Fs.out.ext x8).f 0 rfl; have ks1 : w8.cell? ⟨ns, 1, none⟩ = some (.int .i64 0) := (Fs.out.ext x8).c 1 rfl; have zs1 : w8.frozen? ⟨ns, 1, none⟩ = false := (Fs.out.ext x8).f 1 rfl; have ks2 : w8.cell? ⟨ns, 2, none⟩ = some (.int .i64 0) := (Fs.out.ext x8).c 2 rfl; have zs2 : w8.frozen? ⟨ns, 2, none⟩ = false := (Fs.out.ext x8).f 2 rfl))
          have Fa : Hid (HV w8 na [.int .i64 a0, .int .i64 a1, .int .i64 a2]) := Fa.out.ext x8
          have Fx : Hid (HV w8 nx [.int .i64 x, .int .i64 y, .int .i64 z]) := Fx.out.ext x8
          have Fs : Hid (HV w8 ns [.int .i64 0, .int .i64 0, .int .i64 0]) := Fs.out.ext x8
          have FX : Hid (Ext w w8) := FX.out.trans x8
          clear qa0 qa1 qa2 x8 HR qs0 qs1 qs2 ks0 ks1 ks2 zs0 zs1 zs2
          have Fa : Hid (HV (((w8.setCell ⟨ns, 0, none⟩ (.int .i64 x)).setCell ⟨ns, 1, none⟩ (.int .i64 y)).setCell ⟨ns, 2, none⟩ (.int .i64 z)) na [.int .i64 a0, .int .i64 a1, .int .i64 a2]) := (((Fa.out.far (by omega)).far (by omega)).far (by omega))
          have Fx : Hid (HV (((w8.setCell ⟨ns, 0, none⟩ (.int .i64 x)).setCell ⟨ns, 1, none⟩ (.int .i64 y)).setCell ⟨ns, 2, none⟩ (.int .i64 z)) nx [.int .i64 x, .int .i64 y, .int .i64 z]) := (((Fx.out.far (by omega)).far (by omega)).far (by omega))
          have Fs : Hid (HV (((w8.setCell ⟨ns, 0, none⟩ (.int .i64 x)).setCell ⟨ns, 1, none⟩ (.int .i64 y)).setCell ⟨ns, 2, none⟩ (.int .i64 z)) ns [.int .i64 x, .int .i64 y, .int .i64 z]) := (((Fs.out.set 0 (.int .i64 x)).set 1 (.int .i64 y)).set 2 (.int .i64 z))
          have FX : Hid (Ext w (((w8.setCell ⟨ns, 0, none⟩ (.int .i64 x)).setCell ⟨ns, 1, none⟩ (.int .i64 y)).setCell ⟨ns, 2, none⟩ (.int .i64 z))) := (((FX.out.set (p := ⟨ns, 0, none⟩) Ls.out (.int .i64 x)).set (p := ⟨ns, 1, none⟩) Ls.out (.int .i64 y)).set (p := ⟨ns, 2, none⟩) Ls.out (.int .i64 z))
          generalize (((w8.setCell ⟨ns, 0, none⟩ (.int .i64 x)).setCell ⟨ns, 1, none⟩ (.int .i64 y)).setCell ⟨ns, 2, none⟩ (.int .i64 z)) = wx24 at *
          have qx0 : wx24.cell? ⟨nx, 0, none⟩ = some (.int .i64 x) := Fx.out.c 0 rfl
          have qx1 : wx24.cell? ⟨nx, 1, none⟩ = some (.int .i64 y) := Fx.out.c 1 rfl
          have qx2 : wx24.cell? ⟨nx, 2, none⟩ = some (.int .i64 z) := Fx.out.c 2 rfl
          have qs0 : wx24.cell? ⟨ns, 0, none⟩ = some (.int .i64 x) := Fs.out.c 0 rfl
          have qs1 : wx24.cell? ⟨ns, 1, none⟩ = some (.int .i64 y) := Fs.out.c 1 rfl
          have qs2 : wx24.cell? ⟨ns, 2, none⟩ = some (.int .i64 z) := Fs.out.c 2 rfl
          go_wp2_with (go_at_call 8; refine (HI.out _).mono ?_; rintro e w9 ⟨rfl, x9⟩)
          have Fa : Hid (HV w9 na [.int .i64 a0, .int .i64 a1, .int .i64 a2]) := Fa.out.ext x9
          have Fx : Hid (HV w9 nx [.int .i64 x, .int .i64 y, .int .i64 z]) := Fx.out.ext x9
          have Fs : Hid (HV w9 ns [.int .i64 x, .int .i64 y, .int .i64 z]) := Fs.out.ext x9
          have FX : Hid (Ext w w9) := FX.out.trans x9
          go_roundw
          case rel => exact ⟨k + 1, by omega, by go_num, FX⟩
          case measure => simp [intOf]; omega
      · go_wp2_with fail
        refine (wakes3_any _).mono ?_
        rintro e w1 ⟨rfl, x1⟩
        have E1 : Ext w w1 := FX.out.trans x1
        go_wp2_with fail
        go_ret
        exact ⟨rfl, E1⟩
    · have hk' : k = len := by omega
      subst hk'
      go_wp2_with fail
      refine (wakes3_any _).mono ?_
      rintro e w1 ⟨rfl, x1⟩
      have E1 : Ext w w1 := FX.out.trans x1
      go_wp2_with fail
      go_ret
      exact ⟨rfl, E1⟩
set_option maxHeartbeats 4000000 in
theorem units_none (a : Option Addr) (cap : Nat) (w : World) :
    Calls Try.prog 3 #[.slice a 0 cap] w fun e w' => e = .returned (.bool true) ∧ Ext w w' := by
  go_enter Try.func3, Try.ntmps3
  go_wp2_with fail
  go_loopw [3] (fun i wr => i = .int .i64 0 ∧ Hid (Ext w wr)) (fun _ _ => 0)
  case atStart => exact ⟨rfl, Ext.refl _⟩
  case round =>
    obtain ⟨rfl, FX⟩ := hrel
    go_wp2_with fail
    refine (wakes3_any _).mono ?_
    rintro e w1 ⟨rfl, x1⟩
    have E1 : Ext w w1 := FX.out.trans x1
    go_wp2_with fail
    go_ret
    exact ⟨rfl, E1⟩
end Go.Proofs.Yteimgbafclhkpaa
