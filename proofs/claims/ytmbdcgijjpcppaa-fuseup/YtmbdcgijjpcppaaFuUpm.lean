/- FuseUp. -/
import Derived.Test.YtmbdcgijjpcppaaFuXm
import Derived.Deep.Cut
import Derived.Deep.DeepCutAuto
namespace Go.Proofs.Ytmbdcgijjpcppaa
open Go.RowKit Go.Shelf
theorem vunit_some {x y z : Int} (h : ok3 x y z = true) : ∃ r0 r1 r2 er : Int, (∀ w, Calls Try.prog 7 #[.agg #[.int .i64 x, .int .i64 y, .int .i64 z]] w fun e w' => e = .returned (.tuple #[.agg #[.int .i64 r0, .int .i64 r1, .int .i64 r2], .int .i64 er]) ∧ Ext w w') := by
  by_cases hz : x = 0 ∧ y = 0 ∧ z = 0
  · obtain ⟨rfl, rfl, rfl⟩ := hz
    exact ⟨0, 0, 0, 3, fun w => vUnit_zero w⟩
  · obtain ⟨u0, u1, u2, hu⟩ := unitv_ex hz
    exact ⟨u0, u1, u2, 0, fun w => vunit_told w h hz hu⟩
set_option maxRecDepth 20000 in
set_option maxHeartbeats 40000000 in
theorem fuseup_any (b off len cap : Nat) (Z : Nat → Nat → Int) (w : World) (hl : len ≤ maxLen) (hc : NL 8 w b off len Z) :
    Calls Try.prog 3 #[.slice (some ⟨b, off, none⟩) len cap] w fun e w' => e = .returned (.bool true) ∧ Ext w w' := by
  have hl' : len ≤ 9223372036854775807 := by unfold maxLen at hl; omega
  clear hl
  go_enter Try.func3, Try.ntmps3
  go_wp2_with fail
  go_loopw [3] (fun i wr => ∃ k : Nat, k ≤ len ∧ i = .int .i64 k ∧ Hid (Ext w wr)) (fun i _ => len - (intOf i).toNat)
  case atStart => exact ⟨0, Nat.zero_le _, rfl, Ext.refl _⟩
  case round =>
    obtain ⟨k, hk, rfl, FX⟩ := hrel
    by_cases hlt : k < len
    · by_cases h5 : k < 2
      · skip
        obtain ⟨c0, n0a, n0b⟩ := (hc.ext FX.out) k hlt 0 (by omega)
        obtain ⟨c1, n1a, n1b⟩ := (hc.ext FX.out) k hlt 1 (by omega)
        obtain ⟨c2, n2a, n2b⟩ := (hc.ext FX.out) k hlt 2 (by omega)
        obtain ⟨c3, n3a, n3b⟩ := (hc.ext FX.out) k hlt 3 (by omega)
        obtain ⟨c4, n4a, n4b⟩ := (hc.ext FX.out) k hlt 4 (by omega)
        obtain ⟨c5, n5a, n5b⟩ := (hc.ext FX.out) k hlt 5 (by omega)
        obtain ⟨c6, n6a, n6b⟩ := (hc.ext FX.out) k hlt 6 (by omega)
        obtain ⟨c7, n7a, n7b⟩ := (hc.ext FX.out) k hlt 7 (by omega)
        rw [Nat.add_zero] at c0
        have hlt' : (k : Int) < (len : Int) := by omega
        clear hc n0a n0b n1a n1b n2a n2b n3a n3b n4a n4b n5a n5b n6a n6b n7a n7b
        generalize Z k 0 = y0 at *
        generalize Z k 1 = y1 at *
        generalize Z k 2 = y2 at *
        generalize Z k 3 = y3 at *
        generalize Z k 4 = y4 at *
        generalize Z k 5 = y5 at *
        generalize Z k 6 = y6 at *
        generalize Z k 7 = y7 at *
        obtain ⟨a0, a1, a2, a3, ok, HU, hok⟩ := lunit_any y0 y1 y2 y3
        have HU : Hid (∀ w, Calls Try.prog 5 #[.agg #[.int .i64 y0, .int .i64 y1, .int .i64 y2, .int .i64 y3]] w fun e w' => e = .returned (.tuple #[.agg #[.int .i64 a0, .int .i64 a1, .int .i64 a2, .int .i64 a3], .bool ok]) ∧ Ext w w') := HU
        have hok : Hid (ok = true → isU a0 a1 a2 a3 ∧ okO a0 a1 a2 a3 = true) := hok
        go_upto_region 5 with fail
        clear c0 c1 c2 c3 c4 c5 c6 c7
        have Lp : Hid (w.heap.size ≤ wr.heap.size) := FX.out.size
        have Fp : Hid (HV (wr.alloc (.cells #[.int .i64 y0, .int .i64 y1, .int .i64 y2, .int .i64 y3, .int .i64 y4, .int .i64 y5, .int .i64 y6, .int .i64 y7] 30)) wr.heap.size [.int .i64 y0, .int .i64 y1, .int .i64 y2, .int .i64 y3, .int .i64 y4, .int .i64 y5, .int .i64 y6, .int .i64 y7]) := hv_at rfl
        have FX : Hid (Ext w (wr.alloc (.cells #[.int .i64 y0, .int .i64 y1, .int .i64 y2, .int .i64 y3, .int .i64 y4, .int .i64 y5, .int .i64 y6, .int .i64 y7] 30))) := FX.out.alloc _
        generalize (wr.alloc (.cells #[.int .i64 y0, .int .i64 y1, .int .i64 y2, .int .i64 y3, .int .i64 y4, .int .i64 y5, .int .i64 y6, .int .i64 y7] 30)) = wx1 at *
        generalize wr.heap.size = np at *
        have qp0 : wx1.cell? ⟨np, 0, none⟩ = some (.int .i64 y0) := Fp.out.c 0 rfl
        have qp1 : wx1.cell? ⟨np, 1, none⟩ = some (.int .i64 y1) := Fp.out.c 1 rfl
        have qp2 : wx1.cell? ⟨np, 2, none⟩ = some (.int .i64 y2) := Fp.out.c 2 rfl
        have qp3 : wx1.cell? ⟨np, 3, none⟩ = some (.int .i64 y3) := Fp.out.c 3 rfl
        go_upto_region 6 with (first | (go_at_call 5; refine (HU.out _).mono ?_; rintro e w5 ⟨rfl, x5⟩))
        have Fp : Hid (HV w5 np [.int .i64 y0, .int .i64 y1, .int .i64 y2, .int .i64 y3, .int .i64 y4, .int .i64 y5, .int .i64 y6, .int .i64 y7]) := Fp.out.ext x5
        have FX : Hid (Ext w w5) := FX.out.trans x5
        clear qp0 qp1 qp2 qp3 x5 HU
        have ltpf : np < w5.heap.size := Fp.out.1
        have Lf : Hid (w.heap.size ≤ w5.heap.size) := FX.out.size
        have Fp : Hid (HV (w5.alloc (.cells #[.int .i64 a0, .int .i64 a1, .int .i64 a2, .int .i64 a3] 26)) np [.int .i64 y0, .int .i64 y1, .int .i64 y2, .int .i64 y3, .int .i64 y4, .int .i64 y5, .int .i64 y6, .int .i64 y7]) := Fp.out.alloc _
        have Ff : Hid (HV (w5.alloc (.cells #[.int .i64 a0, .int .i64 a1, .int .i64 a2, .int .i64 a3] 26)) w5.heap.size [.int .i64 a0, .int .i64 a1, .int .i64 a2, .int .i64 a3]) := hv_at rfl
        have FX : Hid (Ext w (w5.alloc (.cells #[.int .i64 a0, .int .i64 a1, .int .i64 a2, .int .i64 a3] 26))) := FX.out.alloc _
        generalize (w5.alloc (.cells #[.int .i64 a0, .int .i64 a1, .int .i64 a2, .int .i64 a3] 26)) = wx2 at *
        generalize w5.heap.size = nf at *
        have bv0 := brt_bounds 9806650 y4 (by decide)
        have bv1 := brt_bounds 9806650 y5 (by decide)
        have bv2 := brt_bounds 9806650 y6 (by decide)
        have HB : Hid (∀ w, Calls Try.prog 6 #[.agg #[.int .i64 y4, .int .i64 y5, .int .i64 y6], .int .i64 9806650] w fun e w' => e = .returned (.agg #[.int .i64 (brt 9806650 y4), .int .i64 (brt 9806650 y5), .int .i64 (brt 9806650 y6)]) ∧ Ext w w') := brvec_9806650 _ _ _
        generalize brt 9806650 y4 = v0 at *
        generalize brt 9806650 y5 = v1 at *
        generalize brt 9806650 y6 = v2 at *
        have qp4 : wx2.cell? ⟨np, 4, none⟩ = some (.int .i64 y4) := Fp.out.c 4 rfl
        have qp5 : wx2.cell? ⟨np, 5, none⟩ = some (.int .i64 y5) := Fp.out.c 5 rfl
        have qp6 : wx2.cell? ⟨np, 6, none⟩ = some (.int .i64 y6) := Fp.out.c 6 rfl
        go_upto_region 7 with (first | (go_at_call 6; refine (HB.out _).mono ?_; rintro e w6 ⟨rfl, x6⟩))
        have Fp : Hid (HV w6 np [.int .i64 y0, .int .i64 y1, .int .i64 y2, .int .i64 y3, .int .i64 y4, .int .i64 y5, .int .i64 y6, .int .i64 y7]) := Fp.out.ext x6
        have Ff : Hid (HV w6 nf [.int .i64 a0, .int .i64 a1, .int .i64 a2, .int .i64 a3]) := Ff.out.ext x6
        have FX : Hid (Ext w w6) := FX.out.trans x6
        clear qp4 qp5 qp6 x6 HB
        have ltfv : nf < w6.heap.size := Ff.out.1
        have Lv : Hid (w.heap.size ≤ w6.heap.size) := FX.out.size
        have Ff : Hid (HV (w6.alloc (.cells #[.int .i64 v0, .int .i64 v1, .int .i64 v2] 28)) nf [.int .i64 a0, .int .i64 a1, .int .i64 a2, .int .i64 a3]) := Ff.out.alloc _
        have Fv : Hid (HV (w6.alloc (.cells #[.int .i64 v0, .int .i64 v1, .int .i64 v2] 28)) w6.heap.size [.int .i64 v0, .int .i64 v1, .int .i64 v2]) := hv_at rfl
        have FX : Hid (Ext w (w6.alloc (.cells #[.int .i64 v0, .int .i64 v1, .int .i64 v2] 28))) := FX.out.alloc _
        generalize (w6.alloc (.cells #[.int .i64 v0, .int .i64 v1, .int .i64 v2] 28)) = wx3 at *
        generalize w6.heap.size = nv at *
        have k3v : Hid (ok3 v0 v1 v2 = true) := ok3_of (by omega) (by omega) (by omega)
        cases ok
        · obtain ⟨r0, r1, r2, er, HR⟩ := vunit_some k3v.out
          have HR : Hid (∀ w, Calls Try.prog 7 #[.agg #[.int .i64 v0, .int .i64 v1, .int .i64 v2]] w fun e w' => e = .returned (.tuple #[.agg #[.int .i64 r0, .int .i64 r1, .int .i64 r2], .int .i64 er]) ∧ Ext w w') := HR
          clear hok k3v bv0 bv1 bv2
          have qv0 : wx3.cell? ⟨nv, 0, none⟩ = some (.int .i64 v0) := Fv.out.c 0 rfl
          have qv1 : wx3.cell? ⟨nv, 1, none⟩ = some (.int .i64 v1) := Fv.out.c 1 rfl
          have qv2 : wx3.cell? ⟨nv, 2, none⟩ = some (.int .i64 v2) := Fv.out.c 2 rfl
          go_upto_region 8 with (first | (go_at_call 7; refine (HR.out _).mono ?_; rintro e w7 ⟨rfl, x7⟩))
          have Ff : Hid (HV w7 nf [.int .i64 a0, .int .i64 a1, .int .i64 a2, .int .i64 a3]) := Ff.out.ext x7
          have Fv : Hid (HV w7 nv [.int .i64 v0, .int .i64 v1, .int .i64 v2]) := Fv.out.ext x7
          have FX : Hid (Ext w w7) := FX.out.trans x7
          clear qv0 qv1 qv2 x7 HR
          clear Fv Ff
          go_wp2_with (first | (go_at_call 8; refine (num15_any _ _).mono ?_; rintro e wx ⟨rfl, hwx⟩; have hwy := hwx.symm; clear hwx; subst hwy))
          go_roundw
          case rel => exact ⟨k + 1, by omega, by go_num, FX.out.alloc _⟩
          case measure => simp [intOf]; omega
        · obtain ⟨hU, hO⟩ := hok.out rfl
          clear hok hU
          by_cases hz : v0 = 0 ∧ v1 = 0 ∧ v2 = 0
          · obtain ⟨rfl, rfl, rfl⟩ := hz
            have HR : Hid (∀ w, Calls Try.prog 7 #[.agg #[.int .i64 0, .int .i64 0, .int .i64 0]] w fun e w' => e = .returned (.tuple #[.agg #[.int .i64 0, .int .i64 0, .int .i64 0], .int .i64 3]) ∧ Ext w w') := vUnit_zero
            clear hO k3v bv0 bv1 bv2
            have qv0 : wx3.cell? ⟨nv, 0, none⟩ = some (.int .i64 0) := Fv.out.c 0 rfl
            have qv1 : wx3.cell? ⟨nv, 1, none⟩ = some (.int .i64 0) := Fv.out.c 1 rfl
            have qv2 : wx3.cell? ⟨nv, 2, none⟩ = some (.int .i64 0) := Fv.out.c 2 rfl
            go_upto_region 8 with (first | (go_at_call 7; refine (HR.out _).mono ?_; rintro e w7 ⟨rfl, x7⟩))
            have Ff : Hid (HV w7 nf [.int .i64 a0, .int .i64 a1, .int .i64 a2, .int .i64 a3]) := Ff.out.ext x7
            have Fv : Hid (HV w7 nv [.int .i64 0, .int .i64 0, .int .i64 0]) := Fv.out.ext x7
            have FX : Hid (Ext w w7) := FX.out.trans x7
            clear qv0 qv1 qv2 x7 HR
            clear Fv Ff
            go_wp2_with (first | (go_at_call 8; refine (num15_any _ _).mono ?_; rintro e wx ⟨rfl, hwx⟩; have hwy := hwx.symm; clear hwx; subst hwy))
            go_roundw
            case rel => exact ⟨k + 1, by omega, by go_num, FX.out.alloc _⟩
            case measure => simp [intOf]; omega
          · obtain ⟨r0, r1, r2, g0, g1, g2, m0, m1, m2, HM, R1, R2, R3⟩ := meas_told bv0 bv1 bv2 hz
            have HM : Hid (Meas g0 g1 g2 m0 m1 m2) := HM
            have R1 : Hid (∀ w, Calls Try.prog 7 #[.agg #[.int .i64 v0, .int .i64 v1, .int .i64 v2]] w fun e w' => e = .returned (.tuple #[.agg #[.int .i64 r0, .int .i64 r1, .int .i64 r2], .int .i64 0]) ∧ Ext w w') := R1
            have R2 : Hid (∀ w, Calls Try.prog 9 #[.agg #[.int .i64 r0, .int .i64 r1, .int .i64 r2], .int .i64 9806650] w fun e w' => e = .returned (.tuple #[.agg #[.int .i64 g0, .int .i64 g1, .int .i64 g2], .int .i64 0]) ∧ Ext w w') := R2
            have R3 : Hid (∀ w, Calls Try.prog 7 #[.agg #[.int .i64 g0, .int .i64 g1, .int .i64 g2]] w fun e w' => e = .returned (.tuple #[.agg #[.int .i64 m0, .int .i64 m1, .int .i64 m2], .int .i64 0]) ∧ Ext w w') := R3
            have RB : Hid (∀ w, Calls Try.prog 10 #[.agg #[.int .i64 a0, .int .i64 a1, .int .i64 a2, .int .i64 a3], .agg #[.int .i64 0, .int .i64 0, .int .i64 1073741824]] w fun e w' => e = .returned (.tuple #[.agg #[.int .i64 (sh0 a0 a1 a2 a3), .int .i64 (sh1 a0 a1 a2 a3), .int .i64 (sh2 a0 a1 a2 a3)], .int .i64 0]) ∧ Ext w w') := fun w => back_told w hO
            have hO : Hid (okO a0 a1 a2 a3 = true) := hO
            clear hz k3v bv0 bv1 bv2
            have qv0 : wx3.cell? ⟨nv, 0, none⟩ = some (.int .i64 v0) := Fv.out.c 0 rfl
            have qv1 : wx3.cell? ⟨nv, 1, none⟩ = some (.int .i64 v1) := Fv.out.c 1 rfl
            have qv2 : wx3.cell? ⟨nv, 2, none⟩ = some (.int .i64 v2) := Fv.out.c 2 rfl
            go_upto_region 8 with (first | (go_at_call 7; refine (R1.out _).mono ?_; rintro e w7 ⟨rfl, x7⟩))
            have Ff : Hid (HV w7 nf [.int .i64 a0, .int .i64 a1, .int .i64 a2, .int .i64 a3]) := Ff.out.ext x7
            have Fv : Hid (HV w7 nv [.int .i64 v0, .int .i64 v1, .int .i64 v2]) := Fv.out.ext x7
            have FX : Hid (Ext w w7) := FX.out.trans x7
            clear qv0 qv1 qv2 x7 R1
            have ltfr : nf < w7.heap.size := Ff.out.1
            have Lr : Hid (w.heap.size ≤ w7.heap.size) := FX.out.size
            have Ff : Hid (HV (w7.alloc (.cells #[.int .i64 r0, .int .i64 r1, .int .i64 r2] 28)) nf [.int .i64 a0, .int .i64 a1, .int .i64 a2, .int .i64 a3]) := Ff.out.alloc _
            have Fr : Hid (HV (w7.alloc (.cells #[.int .i64 r0, .int .i64 r1, .int .i64 r2] 28)) w7.heap.size [.int .i64 r0, .int .i64 r1, .int .i64 r2]) := hv_at rfl
            have FX : Hid (Ext w (w7.alloc (.cells #[.int .i64 r0, .int .i64 r1, .int .i64 r2] 28))) := FX.out.alloc _
            generalize (w7.alloc (.cells #[.int .i64 r0, .int .i64 r1, .int .i64 r2] 28)) = wx4 at *
            generalize w7.heap.size = nr at *
            go_upto_region 9 with (first | (go_at_call 8; refine (num15_any _ _).mono ?_; rintro e wx ⟨rfl, hwx⟩; have hwy := hwx.symm; clear hwx; subst hwy))
            have qr0 : wx4.cell? ⟨nr, 0, none⟩ = some (.int .i64 r0) := Fr.out.c 0 rfl
            have qr1 : wx4.cell? ⟨nr, 1, none⟩ = some (.int .i64 r1) := Fr.out.c 1 rfl
            have qr2 : wx4.cell? ⟨nr, 2, none⟩ = some (.int .i64 r2) := Fr.out.c 2 rfl
            go_upto_region 10 with (first | (go_at_call 9; refine (R2.out _).mono ?_; rintro e w9 ⟨rfl, x9⟩))
            have Ff : Hid (HV w9 nf [.int .i64 a0, .int .i64 a1, .int .i64 a2, .int .i64 a3]) := Ff.out.ext x9
            have Fr : Hid (HV w9 nr [.int .i64 r0, .int .i64 r1, .int .i64 r2]) := Fr.out.ext x9
            have FX : Hid (Ext w w9) := FX.out.trans x9
            clear qr0 qr1 qr2 x9 R2
            have ltfg : nf < w9.heap.size := Ff.out.1
            have Lg : Hid (w.heap.size ≤ w9.heap.size) := FX.out.size
            have Ff : Hid (HV (w9.alloc (.cells #[.int .i64 g0, .int .i64 g1, .int .i64 g2] 28)) nf [.int .i64 a0, .int .i64 a1, .int .i64 a2, .int .i64 a3]) := Ff.out.alloc _
            have Fg : Hid (HV (w9.alloc (.cells #[.int .i64 g0, .int .i64 g1, .int .i64 g2] 28)) w9.heap.size [.int .i64 g0, .int .i64 g1, .int .i64 g2]) := hv_at rfl
            have FX : Hid (Ext w (w9.alloc (.cells #[.int .i64 g0, .int .i64 g1, .int .i64 g2] 28))) := FX.out.alloc _
            generalize (w9.alloc (.cells #[.int .i64 g0, .int .i64 g1, .int .i64 g2] 28)) = wx5 at *
            generalize w9.heap.size = ng at *
            go_upto_region 12 with (first | (go_at_call 8; refine (num15_any _ _).mono ?_; rintro e wx ⟨rfl, hwx⟩; have hwy := hwx.symm; clear hwx; subst hwy))
            have qg0 : wx5.cell? ⟨ng, 0, none⟩ = some (.int .i64 g0) := Fg.out.c 0 rfl
            have qg1 : wx5.cell? ⟨ng, 1, none⟩ = some (.int .i64 g1) := Fg.out.c 1 rfl
            have qg2 : wx5.cell? ⟨ng, 2, none⟩ = some (.int .i64 g2) := Fg.out.c 2 rfl
            go_upto_region 13 with (first | (go_at_call 7; refine (R3.out _).mono ?_; rintro e w12 ⟨rfl, x12⟩))
            have Ff : Hid (HV w12 nf [.int .i64 a0, .int .i64 a1, .int .i64 a2, .int .i64 a3]) := Ff.out.ext x12
            have Fg : Hid (HV w12 ng [.int .i64 g0, .int .i64 g1, .int .i64 g2]) := Fg.out.ext x12
            have FX : Hid (Ext w w12) := FX.out.trans x12
            clear qg0 qg1 qg2 x12 R3
            have ltfm : nf < w12.heap.size := Ff.out.1
            have ltgm : ng < w12.heap.size := Fg.out.1
            have Lm : Hid (w.heap.size ≤ w12.heap.size) := FX.out.size
            have Ff : Hid (HV (w12.alloc (.cells #[.int .i64 m0, .int .i64 m1, .int .i64 m2] 28)) nf [.int .i64 a0, .int .i64 a1, .int .i64 a2, .int .i64 a3]) := Ff.out.alloc _
            have Fg : Hid (HV (w12.alloc (.cells #[.int .i64 m0, .int .i64 m1, .int .i64 m2] 28)) ng [.int .i64 g0, .int .i64 g1, .int .i64 g2]) := Fg.out.alloc _
            have Fm : Hid (HV (w12.alloc (.cells #[.int .i64 m0, .int .i64 m1, .int .i64 m2] 28)) w12.heap.size [.int .i64 m0, .int .i64 m1, .int .i64 m2]) := hv_at rfl
            have FX : Hid (Ext w (w12.alloc (.cells #[.int .i64 m0, .int .i64 m1, .int .i64 m2] 28))) := FX.out.alloc _
            generalize (w12.alloc (.cells #[.int .i64 m0, .int .i64 m1, .int .i64 m2] 28)) = wx6 at *
            generalize w12.heap.size = nm at *
            have qf0 : wx6.cell? ⟨nf, 0, none⟩ = some (.int .i64 a0) := Ff.out.c 0 rfl
            have qf1 : wx6.cell? ⟨nf, 1, none⟩ = some (.int .i64 a1) := Ff.out.c 1 rfl
            have qf2 : wx6.cell? ⟨nf, 2, none⟩ = some (.int .i64 a2) := Ff.out.c 2 rfl
            have qf3 : wx6.cell? ⟨nf, 3, none⟩ = some (.int .i64 a3) := Ff.out.c 3 rfl
            go_upto_region 14 with (first | (go_at_call 10; refine (RB.out _).mono ?_; rintro e w13 ⟨rfl, x13⟩))
            have Ff : Hid (HV w13 nf [.int .i64 a0, .int .i64 a1, .int .i64 a2, .int .i64 a3]) := Ff.out.ext x13
            have Fg : Hid (HV w13 ng [.int .i64 g0, .int .i64 g1, .int .i64 g2]) := Fg.out.ext x13
            have Fm : Hid (HV w13 nm [.int .i64 m0, .int .i64 m1, .int .i64 m2]) := Fm.out.ext x13
            have FX : Hid (Ext w w13) := FX.out.trans x13
            clear qf0 qf1 qf2 qf3 x13 RB
            have ltfs : nf < w13.heap.size := Ff.out.1
            have ltgs : ng < w13.heap.size := Fg.out.1
            have ltms : nm < w13.heap.size := Fm.out.1
            have Ls : Hid (w.heap.size ≤ w13.heap.size) := FX.out.size
            have Ff : Hid (HV (w13.alloc (.cells #[.int .i64 (sh0 a0 a1 a2 a3), .int .i64 (sh1 a0 a1 a2 a3), .int .i64 (sh2 a0 a1 a2 a3)] 28)) nf [.int .i64 a0, .int .i64 a1, .int .i64 a2, .int .i64 a3]) := Ff.out.alloc _
            have Fg : Hid (HV (w13.alloc (.cells #[.int .i64 (sh0 a0 a1 a2 a3), .int .i64 (sh1 a0 a1 a2 a3), .int .i64 (sh2 a0 a1 a2 a3)] 28)) ng [.int .i64 g0, .int .i64 g1, .int .i64 g2]) := Fg.out.alloc _
            have Fm : Hid (HV (w13.alloc (.cells #[.int .i64 (sh0 a0 a1 a2 a3), .int .i64 (sh1 a0 a1 a2 a3), .int .i64 (sh2 a0 a1 a2 a3)] 28)) nm [.int .i64 m0, .int .i64 m1, .int .i64 m2]) := Fm.out.alloc _
            have Fs : Hid (HV (w13.alloc (.cells #[.int .i64 (sh0 a0 a1 a2 a3), .int .i64 (sh1 a0 a1 a2 a3), .int .i64 (sh2 a0 a1 a2 a3)] 28)) w13.heap.size [.int .i64 (sh0 a0 a1 a2 a3), .int .i64 (sh1 a0 a1 a2 a3), .int .i64 (sh2 a0 a1 a2 a3)]) := hv_at rfl
            have FX : Hid (Ext w (w13.alloc (.cells #[.int .i64 (sh0 a0 a1 a2 a3), .int .i64 (sh1 a0 a1 a2 a3), .int .i64 (sh2 a0 a1 a2 a3)] 28))) := FX.out.alloc _
            generalize (w13.alloc (.cells #[.int .i64 (sh0 a0 a1 a2 a3), .int .i64 (sh1 a0 a1 a2 a3), .int .i64 (sh2 a0 a1 a2 a3)] 28)) = wx7 at *
            generalize w13.heap.size = ns at *
            go_upto_region 16 with (first | (go_at_call 8; refine (num15_any _ _).mono ?_; rintro e wx ⟨rfl, hwx⟩; have hwy := hwx.symm; clear hwx; subst hwy))
            go_wp2_with fail
            go_loopw [14] (fun q wr => ∃ k1 : Nat, k1 ≤ 20 ∧ q = .int .i64 (k1 : Int) ∧ Hid (Ext w wr) ∧ Hid (HV wr ng [.int .i64 g0, .int .i64 g1, .int .i64 g2]) ∧ Hid (HV wr nm [.int .i64 m0, .int .i64 m1, .int .i64 m2]) ∧ Hid (∃ b0 b1 b2 b3 : Int, okO b0 b1 b2 b3 = true ∧ HV wr nf [.int .i64 b0, .int .i64 b1, .int .i64 b2, .int .i64 b3] ∧ HV wr ns [.int .i64 (sh0 b0 b1 b2 b3), .int .i64 (sh1 b0 b1 b2 b3), .int .i64 (sh2 b0 b1 b2 b3)])) (fun q _ => 20 - (intOf q).toNat)
            case atStart => exact ⟨0, by omega, rfl, FX, Fg, Fm, a0, a1, a2, a3, hO.out, Ff.out, Fs.out⟩
            case round =>
              clear FX Fg Fm Ff Fs hO
              obtain ⟨k1, hk1, rfl, FX, Fg, Fm, HI⟩ := hrel
              obtain ⟨b0, b1, b2, b3, hO, Ff, Fs⟩ := HI.out
              have Ff : Hid (HV wr nf [.int .i64 b0, .int .i64 b1, .int .i64 b2, .int .i64 b3]) := Ff
              clear HI
              by_cases hl5 : k1 < 20
              · have hl6 : (k1 : Int) < 20 := by omega
                obtain ⟨n0, n1, n2, n3, bf, bh, d0, d1, d2, fr, hn, P1, P2, P3, P4, P5, P6, bb, c1, c2⟩ := up_step hO HM.out
                obtain ⟨t0, et0⟩ : ∃ t, sh0 n0 n1 n2 n3 = t := ⟨_, rfl⟩
                obtain ⟨t1, et1⟩ : ∃ t, sh1 n0 n1 n2 n3 = t := ⟨_, rfl⟩
                obtain ⟨t2, et2⟩ : ∃ t, sh2 n0 n1 n2 n3 = t := ⟨_, rfl⟩
                rw [et0, et1, et2] at P2 P4 P5
                have ET : Hid (okO n0 n1 n2 n3 = true ∧ sh0 n0 n1 n2 n3 = t0 ∧ sh1 n0 n1 n2 n3 = t1 ∧ sh2 n0 n1 n2 n3 = t2) := ⟨hn, et0, et1, et2⟩
                clear et0 et1 et2 hn hO
                generalize sh0 b0 b1 b2 b3 = s0 at *
                generalize sh1 b0 b1 b2 b3 = s1 at *
                generalize sh2 b0 b1 b2 b3 = s2 at *
                have Fs : Hid (HV wr ns [.int .i64 s0, .int .i64 s1, .int .i64 s2]) := Fs
                obtain ⟨bb1, bb2⟩ := bb
                have P1 : Hid (∀ w, Calls Try.prog 11 #[.agg #[.int .i64 b0, .int .i64 b1, .int .i64 b2, .int .i64 b3], .agg #[.int .i64 g0, .int .i64 g1, .int .i64 g2]] w fun e w' => e = .returned (.tuple #[.agg #[.int .i64 n0, .int .i64 n1, .int .i64 n2, .int .i64 n3], .int .i64 0]) ∧ Ext w w') := P1
                have P2 : Hid (∀ w, Calls Try.prog 10 #[.agg #[.int .i64 n0, .int .i64 n1, .int .i64 n2, .int .i64 n3], .agg #[.int .i64 0, .int .i64 0, .int .i64 1073741824]] w fun e w' => e = .returned (.tuple #[.agg #[.int .i64 t0, .int .i64 t1, .int .i64 t2], .int .i64 0]) ∧ Ext w w') := P2
                have P3 : Hid (∀ w, Calls Try.prog 12 #[.agg #[.int .i64 s0, .int .i64 s1, .int .i64 s2], .agg #[.int .i64 m0, .int .i64 m1, .int .i64 m2]] w fun e w' => e = .returned (.tuple #[.int .i64 bf, .int .i64 0]) ∧ Ext w w') := P3
                have P4 : Hid (∀ w, Calls Try.prog 12 #[.agg #[.int .i64 t0, .int .i64 t1, .int .i64 t2], .agg #[.int .i64 m0, .int .i64 m1, .int .i64 m2]] w fun e w' => e = .returned (.tuple #[.int .i64 bh, .int .i64 0]) ∧ Ext w w') := P4
                have P5 : Hid (∀ w, Calls Try.prog 13 #[.agg #[.int .i64 t0, .int .i64 t1, .int .i64 t2], .agg #[.int .i64 s0, .int .i64 s1, .int .i64 s2]] w fun e w' => e = .returned (.tuple #[.agg #[.int .i64 d0, .int .i64 d1, .int .i64 d2], .int .i64 0]) ∧ Ext w w') := P5
                have P6 : Hid (∀ w, Calls Try.prog 14 #[.agg #[.int .i64 d0, .int .i64 d1, .int .i64 d2]] w fun e w' => e = .returned (.tuple #[.int .i64 fr, .int .i64 0]) ∧ Ext w w') := P6
                have qf0 : wr.cell? ⟨nf, 0, none⟩ = some (.int .i64 b0) := Ff.out.c 0 rfl
                have qf1 : wr.cell? ⟨nf, 1, none⟩ = some (.int .i64 b1) := Ff.out.c 1 rfl
                have qf2 : wr.cell? ⟨nf, 2, none⟩ = some (.int .i64 b2) := Ff.out.c 2 rfl
                have qf3 : wr.cell? ⟨nf, 3, none⟩ = some (.int .i64 b3) := Ff.out.c 3 rfl
                have qg0 : wr.cell? ⟨ng, 0, none⟩ = some (.int .i64 g0) := Fg.out.c 0 rfl
                have qg1 : wr.cell? ⟨ng, 1, none⟩ = some (.int .i64 g1) := Fg.out.c 1 rfl
                have qg2 : wr.cell? ⟨ng, 2, none⟩ = some (.int .i64 g2) := Fg.out.c 2 rfl
                go_upto_region 20 with (first | (go_at_call 11; refine (P1.out _).mono ?_; rintro e w19 ⟨rfl, x19⟩))
                have Ff : Hid (HV w19 nf [.int .i64 b0, .int .i64 b1, .int .i64 b2, .int .i64 b3]) := Ff.out.ext x19
                have Fg : Hid (HV w19 ng [.int .i64 g0, .int .i64 g1, .int .i64 g2]) := Fg.out.ext x19
                have Fm : Hid (HV w19 nm [.int .i64 m0, .int .i64 m1, .int .i64 m2]) := Fm.out.ext x19
                have Fs : Hid (HV w19 ns [.int .i64 s0, .int .i64 s1, .int .i64 s2]) := Fs.out.ext x19
                have FX : Hid (Ext w w19) := FX.out.trans x19
                clear qf0 qf1 qf2 qf3 qg0 qg1 qg2 x19 P1
                have ltfn : nf < w19.heap.size := Ff.out.1
                have ltgn : ng < w19.heap.size := Fg.out.1
                have ltmn : nm < w19.heap.size := Fm.out.1
                have ltsn : ns < w19.heap.size := Fs.out.1
                have Ln : Hid (w.heap.size ≤ w19.heap.size) := FX.out.size
                have Ff : Hid (HV (w19.alloc (.cells #[.int .i64 n0, .int .i64 n1, .int .i64 n2, .int .i64 n3] 26)) nf [.int .i64 b0, .int .i64 b1, .int .i64 b2, .int .i64 b3]) := Ff.out.alloc _
                have Fg : Hid (HV (w19.alloc (.cells #[.int .i64 n0, .int .i64 n1, .int .i64 n2, .int .i64 n3] 26)) ng [.int .i64 g0, .int .i64 g1, .int .i64 g2]) := Fg.out.alloc _
                have Fm : Hid (HV (w19.alloc (.cells #[.int .i64 n0, .int .i64 n1, .int .i64 n2, .int .i64 n3] 26)) nm [.int .i64 m0, .int .i64 m1, .int .i64 m2]) := Fm.out.alloc _
                have Fs : Hid (HV (w19.alloc (.cells #[.int .i64 n0, .int .i64 n1, .int .i64 n2, .int .i64 n3] 26)) ns [.int .i64 s0, .int .i64 s1, .int .i64 s2]) := Fs.out.alloc _
                have Fn : Hid (HV (w19.alloc (.cells #[.int .i64 n0, .int .i64 n1, .int .i64 n2, .int .i64 n3] 26)) w19.heap.size [.int .i64 n0, .int .i64 n1, .int .i64 n2, .int .i64 n3]) := hv_at rfl
                have FX : Hid (Ext w (w19.alloc (.cells #[.int .i64 n0, .int .i64 n1, .int .i64 n2, .int .i64 n3] 26))) := FX.out.alloc _
                generalize (w19.alloc (.cells #[.int .i64 n0, .int .i64 n1, .int .i64 n2, .int .i64 n3] 26)) = wx48 at *
                generalize w19.heap.size = nn at *
                have qn0 : wx48.cell? ⟨nn, 0, none⟩ = some (.int .i64 n0) := Fn.out.c 0 rfl
                have qn1 : wx48.cell? ⟨nn, 1, none⟩ = some (.int .i64 n1) := Fn.out.c 1 rfl
                have qn2 : wx48.cell? ⟨nn, 2, none⟩ = some (.int .i64 n2) := Fn.out.c 2 rfl
                have qn3 : wx48.cell? ⟨nn, 3, none⟩ = some (.int .i64 n3) := Fn.out.c 3 rfl
                go_upto_region 21 with (first | (go_at_call 10; refine (P2.out _).mono ?_; rintro e w20 ⟨rfl, x20⟩))
                have Ff : Hid (HV w20 nf [.int .i64 b0, .int .i64 b1, .int .i64 b2, .int .i64 b3]) := Ff.out.ext x20
                have Fg : Hid (HV w20 ng [.int .i64 g0, .int .i64 g1, .int .i64 g2]) := Fg.out.ext x20
                have Fm : Hid (HV w20 nm [.int .i64 m0, .int .i64 m1, .int .i64 m2]) := Fm.out.ext x20
                have Fs : Hid (HV w20 ns [.int .i64 s0, .int .i64 s1, .int .i64 s2]) := Fs.out.ext x20
                have Fn : Hid (HV w20 nn [.int .i64 n0, .int .i64 n1, .int .i64 n2, .int .i64 n3]) := Fn.out.ext x20
                have FX : Hid (Ext w w20) := FX.out.trans x20
                clear qn0 qn1 qn2 qn3 x20 P2
                have ltft : nf < w20.heap.size := Ff.out.1
                have ltgt : ng < w20.heap.size := Fg.out.1
                have ltmt : nm < w20.heap.size := Fm.out.1
                have ltst : ns < w20.heap.size := Fs.out.1
                have ltnt : nn < w20.heap.size := Fn.out.1
                have Lt : Hid (w.heap.size ≤ w20.heap.size) := FX.out.size
                have Ff : Hid (HV (w20.alloc (.cells #[.int .i64 t0, .int .i64 t1, .int .i64 t2] 28)) nf [.int .i64 b0, .int .i64 b1, .int .i64 b2, .int .i64 b3]) := Ff.out.alloc _
                have Fg : Hid (HV (w20.alloc (.cells #[.int .i64 t0, .int .i64 t1, .int .i64 t2] 28)) ng [.int .i64 g0, .int .i64 g1, .int .i64 g2]) := Fg.out.alloc _
                have Fm : Hid (HV (w20.alloc (.cells #[.int .i64 t0, .int .i64 t1, .int .i64 t2] 28)) nm [.int .i64 m0, .int .i64 m1, .int .i64 m2]) := Fm.out.alloc _
                have Fs : Hid (HV (w20.alloc (.cells #[.int .i64 t0, .int .i64 t1, .int .i64 t2] 28)) ns [.int .i64 s0, .int .i64 s1, .int .i64 s2]) := Fs.out.alloc _
                have Fn : Hid (HV (w20.alloc (.cells #[.int .i64 t0, .int .i64 t1, .int .i64 t2] 28)) nn [.int .i64 n0, .int .i64 n1, .int .i64 n2, .int .i64 n3]) := Fn.out.alloc _
                have Ft : Hid (HV (w20.alloc (.cells #[.int .i64 t0, .int .i64 t1, .int .i64 t2] 28)) w20.heap.size [.int .i64 t0, .int .i64 t1, .int .i64 t2]) := hv_at rfl
                have FX : Hid (Ext w (w20.alloc (.cells #[.int .i64 t0, .int .i64 t1, .int .i64 t2] 28))) := FX.out.alloc _
                generalize (w20.alloc (.cells #[.int .i64 t0, .int .i64 t1, .int .i64 t2] 28)) = wx49 at *
                generalize w20.heap.size = nt at *
                have qs0 : wx49.cell? ⟨ns, 0, none⟩ = some (.int .i64 s0) := Fs.out.c 0 rfl
                have qs1 : wx49.cell? ⟨ns, 1, none⟩ = some (.int .i64 s1) := Fs.out.c 1 rfl
                have qs2 : wx49.cell? ⟨ns, 2, none⟩ = some (.int .i64 s2) := Fs.out.c 2 rfl
                have qm0 : wx49.cell? ⟨nm, 0, none⟩ = some (.int .i64 m0) := Fm.out.c 0 rfl
                have qm1 : wx49.cell? ⟨nm, 1, none⟩ = some (.int .i64 m1) := Fm.out.c 1 rfl
                have qm2 : wx49.cell? ⟨nm, 2, none⟩ = some (.int .i64 m2) := Fm.out.c 2 rfl
                go_upto_region 22 with (first | (go_at_call 12; refine (P3.out _).mono ?_; rintro e w21 ⟨rfl, x21⟩))
                have Ff : Hid (HV w21 nf [.int .i64 b0, .int .i64 b1, .int .i64 b2, .int .i64 b3]) := Ff.out.ext x21
                have Fg : Hid (HV w21 ng [.int .i64 g0, .int .i64 g1, .int .i64 g2]) := Fg.out.ext x21
                have Fm : Hid (HV w21 nm [.int .i64 m0, .int .i64 m1, .int .i64 m2]) := Fm.out.ext x21
                have Fs : Hid (HV w21 ns [.int .i64 s0, .int .i64 s1, .int .i64 s2]) := Fs.out.ext x21
                have Fn : Hid (HV w21 nn [.int .i64 n0, .int .i64 n1, .int .i64 n2, .int .i64 n3]) := Fn.out.ext x21
                have Ft : Hid (HV w21 nt [.int .i64 t0, .int .i64 t1, .int .i64 t2]) := Ft.out.ext x21
                have FX : Hid (Ext w w21) := FX.out.trans x21
                clear qs0 qs1 qs2 qm0 qm1 qm2 x21 P3
                have qt0 : w21.cell? ⟨nt, 0, none⟩ = some (.int .i64 t0) := Ft.out.c 0 rfl
                have qt1 : w21.cell? ⟨nt, 1, none⟩ = some (.int .i64 t1) := Ft.out.c 1 rfl
                have qt2 : w21.cell? ⟨nt, 2, none⟩ = some (.int .i64 t2) := Ft.out.c 2 rfl
                have qm0 : w21.cell? ⟨nm, 0, none⟩ = some (.int .i64 m0) := Fm.out.c 0 rfl
                have qm1 : w21.cell? ⟨nm, 1, none⟩ = some (.int .i64 m1) := Fm.out.c 1 rfl
                have qm2 : w21.cell? ⟨nm, 2, none⟩ = some (.int .i64 m2) := Fm.out.c 2 rfl
                go_upto_region 23 with (first | (go_at_call 12; refine (P4.out _).mono ?_; rintro e w22 ⟨rfl, x22⟩))
                have Ff : Hid (HV w22 nf [.int .i64 b0, .int .i64 b1, .int .i64 b2, .int .i64 b3]) := Ff.out.ext x22
                have Fg : Hid (HV w22 ng [.int .i64 g0, .int .i64 g1, .int .i64 g2]) := Fg.out.ext x22
                have Fm : Hid (HV w22 nm [.int .i64 m0, .int .i64 m1, .int .i64 m2]) := Fm.out.ext x22
                have Fs : Hid (HV w22 ns [.int .i64 s0, .int .i64 s1, .int .i64 s2]) := Fs.out.ext x22
                have Fn : Hid (HV w22 nn [.int .i64 n0, .int .i64 n1, .int .i64 n2, .int .i64 n3]) := Fn.out.ext x22
                have Ft : Hid (HV w22 nt [.int .i64 t0, .int .i64 t1, .int .i64 t2]) := Ft.out.ext x22
                have FX : Hid (Ext w w22) := FX.out.trans x22
                clear qt0 qt1 qt2 qm0 qm1 qm2 x22 P4
                have qt0 : w22.cell? ⟨nt, 0, none⟩ = some (.int .i64 t0) := Ft.out.c 0 rfl
                have qt1 : w22.cell? ⟨nt, 1, none⟩ = some (.int .i64 t1) := Ft.out.c 1 rfl
                have qt2 : w22.cell? ⟨nt, 2, none⟩ = some (.int .i64 t2) := Ft.out.c 2 rfl
                have qs0 : w22.cell? ⟨ns, 0, none⟩ = some (.int .i64 s0) := Fs.out.c 0 rfl
                have qs1 : w22.cell? ⟨ns, 1, none⟩ = some (.int .i64 s1) := Fs.out.c 1 rfl
                have qs2 : w22.cell? ⟨ns, 2, none⟩ = some (.int .i64 s2) := Fs.out.c 2 rfl
                go_upto_region 24 with (first | (go_at_call 13; refine (P5.out _).mono ?_; rintro e w23 ⟨rfl, x23⟩))
                have Ff : Hid (HV w23 nf [.int .i64 b0, .int .i64 b1, .int .i64 b2, .int .i64 b3]) := Ff.out.ext x23
                have Fg : Hid (HV w23 ng [.int .i64 g0, .int .i64 g1, .int .i64 g2]) := Fg.out.ext x23
                have Fm : Hid (HV w23 nm [.int .i64 m0, .int .i64 m1, .int .i64 m2]) := Fm.out.ext x23
                have Fs : Hid (HV w23 ns [.int .i64 s0, .int .i64 s1, .int .i64 s2]) := Fs.out.ext x23
                have Fn : Hid (HV w23 nn [.int .i64 n0, .int .i64 n1, .int .i64 n2, .int .i64 n3]) := Fn.out.ext x23
                have Ft : Hid (HV w23 nt [.int .i64 t0, .int .i64 t1, .int .i64 t2]) := Ft.out.ext x23
                have FX : Hid (Ext w w23) := FX.out.trans x23
                clear qt0 qt1 qt2 qs0 qs1 qs2 x23 P5
                have ltfd : nf < w23.heap.size := Ff.out.1
                have ltgd : ng < w23.heap.size := Fg.out.1
                have ltmd : nm < w23.heap.size := Fm.out.1
                have ltsd : ns < w23.heap.size := Fs.out.1
                have ltnd : nn < w23.heap.size := Fn.out.1
                have lttd : nt < w23.heap.size := Ft.out.1
                have Ld : Hid (w.heap.size ≤ w23.heap.size) := FX.out.size
                have Ff : Hid (HV (w23.alloc (.cells #[.int .i64 d0, .int .i64 d1, .int .i64 d2] 28)) nf [.int .i64 b0, .int .i64 b1, .int .i64 b2, .int .i64 b3]) := Ff.out.alloc _
                have Fg : Hid (HV (w23.alloc (.cells #[.int .i64 d0, .int .i64 d1, .int .i64 d2] 28)) ng [.int .i64 g0, .int .i64 g1, .int .i64 g2]) := Fg.out.alloc _
                have Fm : Hid (HV (w23.alloc (.cells #[.int .i64 d0, .int .i64 d1, .int .i64 d2] 28)) nm [.int .i64 m0, .int .i64 m1, .int .i64 m2]) := Fm.out.alloc _
                have Fs : Hid (HV (w23.alloc (.cells #[.int .i64 d0, .int .i64 d1, .int .i64 d2] 28)) ns [.int .i64 s0, .int .i64 s1, .int .i64 s2]) := Fs.out.alloc _
                have Fn : Hid (HV (w23.alloc (.cells #[.int .i64 d0, .int .i64 d1, .int .i64 d2] 28)) nn [.int .i64 n0, .int .i64 n1, .int .i64 n2, .int .i64 n3]) := Fn.out.alloc _
                have Ft : Hid (HV (w23.alloc (.cells #[.int .i64 d0, .int .i64 d1, .int .i64 d2] 28)) nt [.int .i64 t0, .int .i64 t1, .int .i64 t2]) := Ft.out.alloc _
                have Fd : Hid (HV (w23.alloc (.cells #[.int .i64 d0, .int .i64 d1, .int .i64 d2] 28)) w23.heap.size [.int .i64 d0, .int .i64 d1, .int .i64 d2]) := hv_at rfl
                have FX : Hid (Ext w (w23.alloc (.cells #[.int .i64 d0, .int .i64 d1, .int .i64 d2] 28))) := FX.out.alloc _
                generalize (w23.alloc (.cells #[.int .i64 d0, .int .i64 d1, .int .i64 d2] 28)) = wx50 at *
                generalize w23.heap.size = nd at *
                have qd0 : wx50.cell? ⟨nd, 0, none⟩ = some (.int .i64 d0) := Fd.out.c 0 rfl
                have qd1 : wx50.cell? ⟨nd, 1, none⟩ = some (.int .i64 d1) := Fd.out.c 1 rfl
                have qd2 : wx50.cell? ⟨nd, 2, none⟩ = some (.int .i64 d2) := Fd.out.c 2 rfl
                go_upto_region 25 with (first | (go_at_call 14; refine (P6.out _).mono ?_; rintro e w24 ⟨rfl, x24⟩))
                have Ff : Hid (HV w24 nf [.int .i64 b0, .int .i64 b1, .int .i64 b2, .int .i64 b3]) := Ff.out.ext x24
                have Fg : Hid (HV w24 ng [.int .i64 g0, .int .i64 g1, .int .i64 g2]) := Fg.out.ext x24
                have Fm : Hid (HV w24 nm [.int .i64 m0, .int .i64 m1, .int .i64 m2]) := Fm.out.ext x24
                have Fs : Hid (HV w24 ns [.int .i64 s0, .int .i64 s1, .int .i64 s2]) := Fs.out.ext x24
                have Fn : Hid (HV w24 nn [.int .i64 n0, .int .i64 n1, .int .i64 n2, .int .i64 n3]) := Fn.out.ext x24
                have Ft : Hid (HV w24 nt [.int .i64 t0, .int .i64 t1, .int .i64 t2]) := Ft.out.ext x24
                have Fd : Hid (HV w24 nd [.int .i64 d0, .int .i64 d1, .int .i64 d2]) := Fd.out.ext x24
                have FX : Hid (Ext w w24) := FX.out.trans x24
                clear qd0 qd1 qd2 x24 P6
                go_upto_region 27 with (first | (go_at_call 8; refine (num15_any _ _).mono ?_; rintro e wx ⟨rfl, hwx⟩; have hwy := hwx.symm; clear hwx; subst hwy))
                clear c1 c2 bb1 bb2
                have qn0 : w24.cell? ⟨nn, 0, none⟩ = some (.int .i64 n0) := Fn.out.c 0 rfl
                have qn1 : w24.cell? ⟨nn, 1, none⟩ = some (.int .i64 n1) := Fn.out.c 1 rfl
                have qn2 : w24.cell? ⟨nn, 2, none⟩ = some (.int .i64 n2) := Fn.out.c 2 rfl
                have qn3 : w24.cell? ⟨nn, 3, none⟩ = some (.int .i64 n3) := Fn.out.c 3 rfl
                have qf0 : w24.cell? ⟨nf, 0, none⟩ = some (.int .i64 b0) := Ff.out.c 0 rfl
                have zf0 : w24.frozen? ⟨nf, 0, none⟩ = false := Ff.out.f 0 rfl
                have qf1 : w24.cell? ⟨nf, 1, none⟩ = some (.int .i64 b1) := Ff.out.c 1 rfl
                have zf1 : w24.frozen? ⟨nf, 1, none⟩ = false := Ff.out.f 1 rfl
                have qf2 : w24.cell? ⟨nf, 2, none⟩ = some (.int .i64 b2) := Ff.out.c 2 rfl
                have zf2 : w24.frozen? ⟨nf, 2, none⟩ = false := Ff.out.f 2 rfl
                have qf3 : w24.cell? ⟨nf, 3, none⟩ = some (.int .i64 b3) := Ff.out.c 3 rfl
                have zf3 : w24.frozen? ⟨nf, 3, none⟩ = false := Ff.out.f 3 rfl
                go_upto_region 28 with fail
                clear qn0 qn1 qn2 qn3 qf0 qf1 qf2 qf3 zf0 zf1 zf2 zf3
                have Fg : Hid (HV ((((w24.setCell ⟨nf, 0, none⟩ (.int .i64 n0)).setCell ⟨nf, 1, none⟩ (.int .i64 n1)).setCell ⟨nf, 2, none⟩ (.int .i64 n2)).setCell ⟨nf, 3, none⟩ (.int .i64 n3)) ng [.int .i64 g0, .int .i64 g1, .int .i64 g2]) := ((((Fg.out.far (by omega)).far (by omega)).far (by omega)).far (by omega))
                have Fm : Hid (HV ((((w24.setCell ⟨nf, 0, none⟩ (.int .i64 n0)).setCell ⟨nf, 1, none⟩ (.int .i64 n1)).setCell ⟨nf, 2, none⟩ (.int .i64 n2)).setCell ⟨nf, 3, none⟩ (.int .i64 n3)) nm [.int .i64 m0, .int .i64 m1, .int .i64 m2]) := ((((Fm.out.far (by omega)).far (by omega)).far (by omega)).far (by omega))
                have Fs : Hid (HV ((((w24.setCell ⟨nf, 0, none⟩ (.int .i64 n0)).setCell ⟨nf, 1, none⟩ (.int .i64 n1)).setCell ⟨nf, 2, none⟩ (.int .i64 n2)).setCell ⟨nf, 3, none⟩ (.int .i64 n3)) ns [.int .i64 s0, .int .i64 s1, .int .i64 s2]) := ((((Fs.out.far (by omega)).far (by omega)).far (by omega)).far (by omega))
                have Fn : Hid (HV ((((w24.setCell ⟨nf, 0, none⟩ (.int .i64 n0)).setCell ⟨nf, 1, none⟩ (.int .i64 n1)).setCell ⟨nf, 2, none⟩ (.int .i64 n2)).setCell ⟨nf, 3, none⟩ (.int .i64 n3)) nn [.int .i64 n0, .int .i64 n1, .int .i64 n2, .int .i64 n3]) := ((((Fn.out.far (by omega)).far (by omega)).far (by omega)).far (by omega))
                have Ft : Hid (HV ((((w24.setCell ⟨nf, 0, none⟩ (.int .i64 n0)).setCell ⟨nf, 1, none⟩ (.int .i64 n1)).setCell ⟨nf, 2, none⟩ (.int .i64 n2)).setCell ⟨nf, 3, none⟩ (.int .i64 n3)) nt [.int .i64 t0, .int .i64 t1, .int .i64 t2]) := ((((Ft.out.far (by omega)).far (by omega)).far (by omega)).far (by omega))
                have Ff : Hid (HV ((((w24.setCell ⟨nf, 0, none⟩ (.int .i64 n0)).setCell ⟨nf, 1, none⟩ (.int .i64 n1)).setCell ⟨nf, 2, none⟩ (.int .i64 n2)).setCell ⟨nf, 3, none⟩ (.int .i64 n3)) nf [.int .i64 n0, .int .i64 n1, .int .i64 n2, .int .i64 n3]) := ((((Ff.out.set 0 (.int .i64 n0)).set 1 (.int .i64 n1)).set 2 (.int .i64 n2)).set 3 (.int .i64 n3))
                have FX : Hid (Ext w ((((w24.setCell ⟨nf, 0, none⟩ (.int .i64 n0)).setCell ⟨nf, 1, none⟩ (.int .i64 n1)).setCell ⟨nf, 2, none⟩ (.int .i64 n2)).setCell ⟨nf, 3, none⟩ (.int .i64 n3))) := ((((FX.out.set (p := ⟨nf, 0, none⟩) Lf.out (.int .i64 n0)).set (p := ⟨nf, 1, none⟩) Lf.out (.int .i64 n1)).set (p := ⟨nf, 2, none⟩) Lf.out (.int .i64 n2)).set (p := ⟨nf, 3, none⟩) Lf.out (.int .i64 n3))
                generalize ((((w24.setCell ⟨nf, 0, none⟩ (.int .i64 n0)).setCell ⟨nf, 1, none⟩ (.int .i64 n1)).setCell ⟨nf, 2, none⟩ (.int .i64 n2)).setCell ⟨nf, 3, none⟩ (.int .i64 n3)) = wx51 at *
                have qt0 : wx51.cell? ⟨nt, 0, none⟩ = some (.int .i64 t0) := Ft.out.c 0 rfl
                have qt1 : wx51.cell? ⟨nt, 1, none⟩ = some (.int .i64 t1) := Ft.out.c 1 rfl
                have qt2 : wx51.cell? ⟨nt, 2, none⟩ = some (.int .i64 t2) := Ft.out.c 2 rfl
                have qs0 : wx51.cell? ⟨ns, 0, none⟩ = some (.int .i64 s0) := Fs.out.c 0 rfl
                have zs0 : wx51.frozen? ⟨ns, 0, none⟩ = false := Fs.out.f 0 rfl
                have qs1 : wx51.cell? ⟨ns, 1, none⟩ = some (.int .i64 s1) := Fs.out.c 1 rfl
                have zs1 : wx51.frozen? ⟨ns, 1, none⟩ = false := Fs.out.f 1 rfl
                have qs2 : wx51.cell? ⟨ns, 2, none⟩ = some (.int .i64 s2) := Fs.out.c 2 rfl
                have zs2 : wx51.frozen? ⟨ns, 2, none⟩ = false := Fs.out.f 2 rfl
                go_upto_region 18 with fail
                clear qt0 qt1 qt2 qs0 qs1 qs2 zs0 zs1 zs2
                have Ff : Hid (HV (((wx51.setCell ⟨ns, 0, none⟩ (.int .i64 t0)).setCell ⟨ns, 1, none⟩ (.int .i64 t1)).setCell ⟨ns, 2, none⟩ (.int .i64 t2)) nf [.int .i64 n0, .int .i64 n1, .int .i64 n2, .int .i64 n3]) := (((Ff.out.far (by omega)).far (by omega)).far (by omega))
                have Fg : Hid (HV (((wx51.setCell ⟨ns, 0, none⟩ (.int .i64 t0)).setCell ⟨ns, 1, none⟩ (.int .i64 t1)).setCell ⟨ns, 2, none⟩ (.int .i64 t2)) ng [.int .i64 g0, .int .i64 g1, .int .i64 g2]) := (((Fg.out.far (by omega)).far (by omega)).far (by omega))
                have Fm : Hid (HV (((wx51.setCell ⟨ns, 0, none⟩ (.int .i64 t0)).setCell ⟨ns, 1, none⟩ (.int .i64 t1)).setCell ⟨ns, 2, none⟩ (.int .i64 t2)) nm [.int .i64 m0, .int .i64 m1, .int .i64 m2]) := (((Fm.out.far (by omega)).far (by omega)).far (by omega))
                have Fn : Hid (HV (((wx51.setCell ⟨ns, 0, none⟩ (.int .i64 t0)).setCell ⟨ns, 1, none⟩ (.int .i64 t1)).setCell ⟨ns, 2, none⟩ (.int .i64 t2)) nn [.int .i64 n0, .int .i64 n1, .int .i64 n2, .int .i64 n3]) := (((Fn.out.far (by omega)).far (by omega)).far (by omega))
                have Ft : Hid (HV (((wx51.setCell ⟨ns, 0, none⟩ (.int .i64 t0)).setCell ⟨ns, 1, none⟩ (.int .i64 t1)).setCell ⟨ns, 2, none⟩ (.int .i64 t2)) nt [.int .i64 t0, .int .i64 t1, .int .i64 t2]) := (((Ft.out.far (by omega)).far (by omega)).far (by omega))
                have Fs : Hid (HV (((wx51.setCell ⟨ns, 0, none⟩ (.int .i64 t0)).setCell ⟨ns, 1, none⟩ (.int .i64 t1)).setCell ⟨ns, 2, none⟩ (.int .i64 t2)) ns [.int .i64 t0, .int .i64 t1, .int .i64 t2]) := (((Fs.out.set 0 (.int .i64 t0)).set 1 (.int .i64 t1)).set 2 (.int .i64 t2))
                have FX : Hid (Ext w (((wx51.setCell ⟨ns, 0, none⟩ (.int .i64 t0)).setCell ⟨ns, 1, none⟩ (.int .i64 t1)).setCell ⟨ns, 2, none⟩ (.int .i64 t2))) := (((FX.out.set (p := ⟨ns, 0, none⟩) Ls.out (.int .i64 t0)).set (p := ⟨ns, 1, none⟩) Ls.out (.int .i64 t1)).set (p := ⟨ns, 2, none⟩) Ls.out (.int .i64 t2))
                generalize (((wx51.setCell ⟨ns, 0, none⟩ (.int .i64 t0)).setCell ⟨ns, 1, none⟩ (.int .i64 t1)).setCell ⟨ns, 2, none⟩ (.int .i64 t2)) = wx52 at *
                go_wp2_with fail
                go_roundw
                case rel =>
                  obtain ⟨hn, et0, et1, et2⟩ := ET.out
                  have Fs := Fs.out
                  rw [← et0, ← et1, ← et2] at Fs
                  exact ⟨k1 + 1, by omega, by go_num, FX, Fg, Fm, n0, n1, n2, n3, hn, Ff.out, Fs⟩
                case measure => simp [intOf]; omega
              · have h5k : k1 = 20 := by omega
                subst h5k
                have T1 : Hid (∀ w, Calls Try.prog 9 #[.agg #[.int .i64 g0, .int .i64 g1, .int .i64 g2], .int .i64 2147483648] w fun e w' => e = .returned (.tuple #[.agg #[.int .i64 (2 * g0), .int .i64 (2 * g1), .int .i64 (2 * g2)], .int .i64 0]) ∧ Ext w w') := fun w => twice_told w HM.out
                have T2 : Hid (∀ w, Calls Try.prog 11 #[.agg #[.int .i64 b0, .int .i64 b1, .int .i64 b2, .int .i64 b3], .agg #[.int .i64 (2 * g0), .int .i64 (2 * g1), .int .i64 (2 * g2)]] w fun e w' => e = .returned (.tuple #[.agg #[.int .i64 b0, .int .i64 b1, .int .i64 b2, .int .i64 b3], .int .i64 0]) ∧ Ext w w') := fun w => up_twice w hO HM.out
                clear hl5 hk1 Fs hO HM
                generalize 2 * g0 = h0 at *
                generalize 2 * g1 = h1 at *
                generalize 2 * g2 = h2 at *
                clear Fm
                have qg0 : wr.cell? ⟨ng, 0, none⟩ = some (.int .i64 g0) := Fg.out.c 0 rfl
                have qg1 : wr.cell? ⟨ng, 1, none⟩ = some (.int .i64 g1) := Fg.out.c 1 rfl
                have qg2 : wr.cell? ⟨ng, 2, none⟩ = some (.int .i64 g2) := Fg.out.c 2 rfl
                go_upto_region 30 with (first | (go_at_call 9; refine (T1.out _).mono ?_; rintro e w29 ⟨rfl, x29⟩))
                have Ff : Hid (HV w29 nf [.int .i64 b0, .int .i64 b1, .int .i64 b2, .int .i64 b3]) := Ff.out.ext x29
                have Fg : Hid (HV w29 ng [.int .i64 g0, .int .i64 g1, .int .i64 g2]) := Fg.out.ext x29
                have FX : Hid (Ext w w29) := FX.out.trans x29
                clear qg0 qg1 qg2 x29 T1
                have ltfh : nf < w29.heap.size := Ff.out.1
                have Lh : Hid (w.heap.size ≤ w29.heap.size) := FX.out.size
                have Ff : Hid (HV (w29.alloc (.cells #[.int .i64 h0, .int .i64 h1, .int .i64 h2] 28)) nf [.int .i64 b0, .int .i64 b1, .int .i64 b2, .int .i64 b3]) := Ff.out.alloc _
                have Fh : Hid (HV (w29.alloc (.cells #[.int .i64 h0, .int .i64 h1, .int .i64 h2] 28)) w29.heap.size [.int .i64 h0, .int .i64 h1, .int .i64 h2]) := hv_at rfl
                have FX : Hid (Ext w (w29.alloc (.cells #[.int .i64 h0, .int .i64 h1, .int .i64 h2] 28))) := FX.out.alloc _
                generalize (w29.alloc (.cells #[.int .i64 h0, .int .i64 h1, .int .i64 h2] 28)) = wx68 at *
                generalize w29.heap.size = nh at *
                have qf0 : wx68.cell? ⟨nf, 0, none⟩ = some (.int .i64 b0) := Ff.out.c 0 rfl
                have qf1 : wx68.cell? ⟨nf, 1, none⟩ = some (.int .i64 b1) := Ff.out.c 1 rfl
                have qf2 : wx68.cell? ⟨nf, 2, none⟩ = some (.int .i64 b2) := Ff.out.c 2 rfl
                have qf3 : wx68.cell? ⟨nf, 3, none⟩ = some (.int .i64 b3) := Ff.out.c 3 rfl
                have qh0 : wx68.cell? ⟨nh, 0, none⟩ = some (.int .i64 h0) := Fh.out.c 0 rfl
                have qh1 : wx68.cell? ⟨nh, 1, none⟩ = some (.int .i64 h1) := Fh.out.c 1 rfl
                have qh2 : wx68.cell? ⟨nh, 2, none⟩ = some (.int .i64 h2) := Fh.out.c 2 rfl
                go_upto_region 31 with (first | (go_at_call 11; refine (T2.out _).mono ?_; rintro e w30 ⟨rfl, x30⟩))
                have Ff : Hid (HV w30 nf [.int .i64 b0, .int .i64 b1, .int .i64 b2, .int .i64 b3]) := Ff.out.ext x30
                have Fh : Hid (HV w30 nh [.int .i64 h0, .int .i64 h1, .int .i64 h2]) := Fh.out.ext x30
                have FX : Hid (Ext w w30) := FX.out.trans x30
                clear qf0 qf1 qf2 qf3 qh0 qh1 qh2 x30 T2
                have ltfx : nf < w30.heap.size := Ff.out.1
                have Lx : Hid (w.heap.size ≤ w30.heap.size) := FX.out.size
                have Ff : Hid (HV (w30.alloc (.cells #[.int .i64 b0, .int .i64 b1, .int .i64 b2, .int .i64 b3] 26)) nf [.int .i64 b0, .int .i64 b1, .int .i64 b2, .int .i64 b3]) := Ff.out.alloc _
                have Fx : Hid (HV (w30.alloc (.cells #[.int .i64 b0, .int .i64 b1, .int .i64 b2, .int .i64 b3] 26)) w30.heap.size [.int .i64 b0, .int .i64 b1, .int .i64 b2, .int .i64 b3]) := hv_at rfl
                have FX : Hid (Ext w (w30.alloc (.cells #[.int .i64 b0, .int .i64 b1, .int .i64 b2, .int .i64 b3] 26))) := FX.out.alloc _
                generalize (w30.alloc (.cells #[.int .i64 b0, .int .i64 b1, .int .i64 b2, .int .i64 b3] 26)) = wx69 at *
                generalize w30.heap.size = nx at *
                have qx0 : wx69.cell? ⟨nx, 0, none⟩ = some (.int .i64 b0) := Fx.out.c 0 rfl
                have qx1 : wx69.cell? ⟨nx, 1, none⟩ = some (.int .i64 b1) := Fx.out.c 1 rfl
                have qx2 : wx69.cell? ⟨nx, 2, none⟩ = some (.int .i64 b2) := Fx.out.c 2 rfl
                have qx3 : wx69.cell? ⟨nx, 3, none⟩ = some (.int .i64 b3) := Fx.out.c 3 rfl
                have qf0 : wx69.cell? ⟨nf, 0, none⟩ = some (.int .i64 b0) := Ff.out.c 0 rfl
                have qf1 : wx69.cell? ⟨nf, 1, none⟩ = some (.int .i64 b1) := Ff.out.c 1 rfl
                have qf2 : wx69.cell? ⟨nf, 2, none⟩ = some (.int .i64 b2) := Ff.out.c 2 rfl
                have qf3 : wx69.cell? ⟨nf, 3, none⟩ = some (.int .i64 b3) := Ff.out.c 3 rfl
                have he := eqF b0 b1 b2 b3 b0 b1 b2 b3
                go_wp2_with (first | (go_at_call 8; refine (num15_any _ _).mono ?_; rintro e wx ⟨rfl, hwx⟩; have hwy := hwx.symm; clear hwx; subst hwy))
                go_roundw
                case rel => exact ⟨k + 1, by omega, by go_num, FX⟩
                case measure => simp [intOf]; omega
      · go_wp2_with fail
        refine (wakes15_any _).mono ?_
        rintro e w1 ⟨rfl, x1⟩
        have E1 : Ext w w1 := FX.out.trans x1
        go_wp2_with fail
        go_ret
        exact ⟨rfl, E1⟩
    · have hk' : k = len := by omega
      subst hk'
      go_wp2_with fail
      refine (wakes15_any _).mono ?_
      rintro e w1 ⟨rfl, x1⟩
      have E1 : Ext w w1 := FX.out.trans x1
      go_wp2_with fail
      go_ret
      exact ⟨rfl, E1⟩
set_option maxRecDepth 20000 in
set_option maxHeartbeats 4000000 in
theorem fuseup_none (a : Option Addr) (cap : Nat) (w : World) :
    Calls Try.prog 3 #[.slice a 0 cap] w fun e w' => e = .returned (.bool true) ∧ Ext w w' := by
  go_enter Try.func3, Try.ntmps3
  go_wp2_with fail
  go_loopw [3] (fun i wr => i = .int .i64 0 ∧ Hid (Ext w wr)) (fun _ _ => 0)
  case atStart => exact ⟨rfl, Ext.refl _⟩
  case round =>
    obtain ⟨rfl, FX⟩ := hrel
    go_wp2_with fail
    refine (wakes15_any _).mono ?_
    rintro e w1 ⟨rfl, x1⟩
    have E1 : Ext w w1 := FX.out.trans x1
    go_wp2_with fail
    go_ret
    exact ⟨rfl, E1⟩
end Go.Proofs.Ytmbdcgijjpcppaa
