/- FuseSpins. -/
import Derived.Test.YtmbdcgijjpcppaaGreatFuBm
import Derived.Test.YtmbdcgijjpcppaaGreatFuCm
import Derived.Deep.Cut
import Derived.Deep.DeepCutAuto
namespace Go.Proofs.YtmbdcgijjpcppaaGreat
open Go.RowKit Go.Shelf
theorem rad3_of {x y z : Int} (hx : -1073741824 ≤ x ∧ x ≤ 1073741824) (hy : -1073741824 ≤ y ∧ y ≤ 1073741824) (hz : -1073741824 ≤ z ∧ z ≤ 1073741824) : rad3 x y z = true := by
  unfold rad3; rw [rad_iff.2 hx, rad_iff.2 hy, rad_iff.2 hz]; rfl
theorem tck_of {n : Int} (h : 0 ≤ n ∧ n ≤ 1000) : tck n = true := tck_iff.2 h
/-- a spin by a vector and a number of ticks, from its angle -/
theorem spin_by {a b c d x y z n X Y Z u0 u1 u2 u3 : Int} (w : World) (h : okO a b c d = true) (k : ok3 x y z = true) (hn : 0 ≤ n ∧ n ≤ 1000) (ex : n * x = X) (ey : n * y = Y) (ez : n * z = Z) (hx : -1073741824 ≤ X ∧ X ≤ 1073741824) (hy : -1073741824 ≤ Y ∧ Y ≤ 1073741824) (hz : -1073741824 ≤ Z ∧ Z ≤ 1073741824) (hu : SpinD a b c d X Y Z u0 u1 u2 u3) :
    Calls Tryz.prog 12 #[.agg #[.int .i64 a, .int .i64 b, .int .i64 c, .int .i64 d], .agg #[.int .i64 x, .int .i64 y, .int .i64 z], .int .i64 n] w fun e w' => e = .returned (.tuple #[.agg #[.int .i64 u0, .int .i64 u1, .int .i64 u2, .int .i64 u3], .int .i64 0]) ∧ Ext w w' := by
  subst ex ey ez
  exact spin_told w h k (tck_of hn) (rad3_of hx hy hz) hu
/-- all that is told of the calls of one round -/
theorem spins_told (a b c d x y z n : Int) (h : okO a b c d = true) (hU : isU a b c d) (hx : -1048576 ≤ x ∧ x ≤ 1048576) (hy : -1048576 ≤ y ∧ y ≤ 1048576) (hz : -1048576 ≤ z ∧ z ≤ 1048576) (hn : 0 ≤ n ∧ n ≤ 1000) : ∃ e0 e1 e2 e3 g0 g1 g2 g3 h0 h1 h2 h3 : Int,
    (∀ w, Calls Tryz.prog 12 #[.agg #[.int .i64 a, .int .i64 b, .int .i64 c, .int .i64 d], .agg #[.int .i64 0, .int .i64 0, .int .i64 0], .int .i64 n] w fun e w' => e = .returned (.tuple #[.agg #[.int .i64 e0, .int .i64 e1, .int .i64 e2, .int .i64 e3], .int .i64 0]) ∧ Ext w w') ∧
    (∀ w, Calls Tryz.prog 12 #[.agg #[.int .i64 a, .int .i64 b, .int .i64 c, .int .i64 d], .agg #[.int .i64 x, .int .i64 y, .int .i64 z], .int .i64 0] w fun e w' => e = .returned (.tuple #[.agg #[.int .i64 e0, .int .i64 e1, .int .i64 e2, .int .i64 e3], .int .i64 0]) ∧ Ext w w') ∧
    (∀ w, Calls Tryz.prog 12 #[.agg #[.int .i64 a, .int .i64 b, .int .i64 c, .int .i64 d], .agg #[.int .i64 x, .int .i64 y, .int .i64 z], .int .i64 8] w fun e w' => e = .returned (.tuple #[.agg #[.int .i64 g0, .int .i64 g1, .int .i64 g2, .int .i64 g3], .int .i64 0]) ∧ Ext w w') ∧
    (∀ w, Calls Tryz.prog 12 #[.agg #[.int .i64 g0, .int .i64 g1, .int .i64 g2, .int .i64 g3], .agg #[.int .i64 (-x), .int .i64 (-y), .int .i64 (-z)], .int .i64 8] w fun e w' => e = .returned (.tuple #[.agg #[.int .i64 h0, .int .i64 h1, .int .i64 h2, .int .i64 h3], .int .i64 0]) ∧ Ext w w') ∧
    (∀ w, Calls Tryz.prog 25 #[.agg #[.int .i64 x, .int .i64 y, .int .i64 z]] w fun e w' => e = .returned (.tuple #[.agg #[.int .i64 (-x), .int .i64 (-y), .int .i64 (-z)], .int .i64 0]) ∧ Ext w w') ∧
    (∀ w, Calls Tryz.prog 24 #[.agg #[.int .i64 e0, .int .i64 e1, .int .i64 e2, .int .i64 e3], .agg #[.int .i64 a, .int .i64 b, .int .i64 c, .int .i64 d], .int .i64 2] w fun e w' => e = .returned (.bool true) ∧ Ext w w') ∧
    (∀ w, Calls Tryz.prog 24 #[.agg #[.int .i64 h0, .int .i64 h1, .int .i64 h2, .int .i64 h3], .agg #[.int .i64 a, .int .i64 b, .int .i64 c, .int .i64 d], .int .i64 16] w fun e w' => e = .returned (.bool true) ∧ Ext w w') := by
  obtain ⟨e0, e1, e2, e3, he⟩ := spinD_ex 0 0 0 h
  obtain ⟨g0, g1, g2, g3, hg⟩ := spinD_ex (8 * x) (8 * y) (8 * z) h
  have hO := spinD_ok h hg
  obtain ⟨h0, h1, h2, h3, hh⟩ := spinD_ex (-(8 * x)) (-(8 * y)) (-(8 * z)) hO
  have k3 : ok3 x y z = true := ok3_of (by omega) (by omega) (by omega)
  refine ⟨e0, e1, e2, e3, g0, g1, g2, g3, h0, h1, h2, h3, fun w => ?_, fun w => ?_, fun w => ?_, fun w => ?_, fun w => ?_, fun w => ?_, fun w => ?_⟩
  · exact spin_by w h (by decide) hn (Int.mul_zero _) (Int.mul_zero _) (Int.mul_zero _) (by decide) (by decide) (by decide) he
  · exact spin_by w h k3 (by decide) (Int.zero_mul _) (Int.zero_mul _) (Int.zero_mul _) (by decide) (by decide) (by decide) he
  · exact spin_by w h k3 (by decide) rfl rfl rfl (by omega) (by omega) (by omega) hg
  · exact spin_by w hO (ok3_of (by omega) (by omega) (by omega)) (by decide) (Int.mul_neg _ _) (Int.mul_neg _ _) (Int.mul_neg _ _) (by omega) (by omega) (by omega) hh
  · have H := vNeg_yes x y z w k3
    unfold vres at H
    rw [if_pos (ok3_of (by omega) (by omega) (by omega)), Int.zero_sub, Int.zero_sub, Int.zero_sub] at H
    exact H
  · have hs : UnitQ a b c d e0 e1 e2 e3 := by
      have he' := he
      unfold SpinD at he'
      obtain ⟨s0, s1, s2, s3⟩ := sp_still a b c d
      rw [s0, s1, s2, s3] at he'
      exact he'
    have hb := still_near h hU hs
    exact close4_any e0 e1 e2 e3 a b c d 2 _ _ _ _ w (by decide) (by decide) rfl rfl rfl rfl (by omega) (by omega) (by omega) (by omega) (by omega) (by omega) (by omega) (by omega)
  · have hb := spin_back h hU (x := 8 * x) (y := 8 * y) (z := 8 * z) (by omega) (by omega) (by omega) hg hh
    exact close4_any h0 h1 h2 h3 a b c d 16 _ _ _ _ w (by decide) (by decide) rfl rfl rfl rfl (by omega) (by omega) (by omega) (by omega) (by omega) (by omega) (by omega) (by omega)
set_option maxRecDepth 20000 in
set_option maxHeartbeats 40000000 in
theorem spins_any (b off len cap : Nat) (Z : Nat → Nat → Int) (w : World) (hl : len ≤ maxLen) (hc : NL 8 w b off len Z) :
    Calls Tryz.prog 5 #[.slice (some ⟨b, off, none⟩) len cap] w fun e w' => e = .returned (.bool true) ∧ Ext w w' := by
  have hl' : len ≤ 9223372036854775807 := by unfold maxLen at hl; omega
  clear hl
  go_enter Tryz.func5, Tryz.ntmps5
  go_wp2_with fail
  go_loopw [3] (fun i wr => ∃ k : Nat, k ≤ len ∧ i = .int .i64 k ∧ Hid (Ext w wr)) (fun i _ => len - (intOf i).toNat)
  case atStart => exact ⟨0, Nat.zero_le _, rfl, Ext.refl _⟩
  case round =>
    obtain ⟨k, hk, rfl, FX⟩ := hrel
    by_cases hlt : k < len
    · by_cases h5 : k < 6
      · skip
        obtain ⟨c0, n0a, n0b⟩ := (hc.ext FX.out) k hlt 0 (by omega)
        obtain ⟨c1, n1a, n1b⟩ := (hc.ext FX.out) k hlt 1 (by omega)
        obtain ⟨c2, n2a, n2b⟩ := (hc.ext FX.out) k hlt 2 (by omega)
        obtain ⟨c3, n3a, n3b⟩ := (hc.ext FX.out) k hlt 3 (by omega)
        obtain ⟨c4, n4a, n4b⟩ := (hc.ext FX.out) k hlt 4 (by omega)
        obtain ⟨c5, n5a, n5b⟩ := (hc.ext FX.out) k hlt 5 (by omega)
        obtain ⟨c6, n6a, n6b⟩ := (hc.ext FX.out) k hlt 6 (by omega)
        obtain ⟨c7, n7a, n7b⟩ := (hc.ext FX.out) k hlt 7 (by omega)
        rw [Nat.add_zero] at c0
        have hlt' : (k : Int) < (len : Int) := by omega
        clear hc n0a n0b n1a n1b n2a n2b n3a n3b n4a n4b n5a n5b n6a n6b n7a n7b
        generalize Z k 0 = y0 at *
        generalize Z k 1 = y1 at *
        generalize Z k 2 = y2 at *
        generalize Z k 3 = y3 at *
        generalize Z k 4 = y4 at *
        generalize Z k 5 = y5 at *
        generalize Z k 6 = y6 at *
        generalize Z k 7 = y7 at *
        obtain ⟨u0, u1, u2, u3, ok, HU, hok⟩ := lunit_any y0 y1 y2 y3
        have HU : Hid (∀ w, Calls Tryz.prog 21 #[.agg #[.int .i64 y0, .int .i64 y1, .int .i64 y2, .int .i64 y3]] w fun e w' => e = .returned (.tuple #[.agg #[.int .i64 u0, .int .i64 u1, .int .i64 u2, .int .i64 u3], .bool ok]) ∧ Ext w w') := HU
        have hok : Hid (ok = true → isU u0 u1 u2 u3 ∧ okO u0 u1 u2 u3 = true) := hok
        go_upto_region 5 with fail
        clear c0 c1 c2 c3 c4 c5 c6 c7
        have Lp : Hid (w.heap.size ≤ wr.heap.size) := FX.out.size
        have Fp : Hid (HV (wr.alloc (.cells #[.int .i64 y0, .int .i64 y1, .int .i64 y2, .int .i64 y3, .int .i64 y4, .int .i64 y5, .int .i64 y6, .int .i64 y7] 30)) wr.heap.size [.int .i64 y0, .int .i64 y1, .int .i64 y2, .int .i64 y3, .int .i64 y4, .int .i64 y5, .int .i64 y6, .int .i64 y7]) := hv_at rfl
        have FX : Hid (Ext w (wr.alloc (.cells #[.int .i64 y0, .int .i64 y1, .int .i64 y2, .int .i64 y3, .int .i64 y4, .int .i64 y5, .int .i64 y6, .int .i64 y7] 30))) := FX.out.alloc _
        generalize (wr.alloc (.cells #[.int .i64 y0, .int .i64 y1, .int .i64 y2, .int .i64 y3, .int .i64 y4, .int .i64 y5, .int .i64 y6, .int .i64 y7] 30)) = wx1 at *
        generalize wr.heap.size = np at *
        have qp0 : wx1.cell? ⟨np, 0, none⟩ = some (.int .i64 y0) := Fp.out.c 0 rfl
        have qp1 : wx1.cell? ⟨np, 1, none⟩ = some (.int .i64 y1) := Fp.out.c 1 rfl
        have qp2 : wx1.cell? ⟨np, 2, none⟩ = some (.int .i64 y2) := Fp.out.c 2 rfl
        have qp3 : wx1.cell? ⟨np, 3, none⟩ = some (.int .i64 y3) := Fp.out.c 3 rfl
        go_upto_region 6 with (first | (go_at_call 21; refine (HU.out _).mono ?_; rintro e w5 ⟨rfl, x5⟩))
        have Fp : Hid (HV w5 np [.int .i64 y0, .int .i64 y1, .int .i64 y2, .int .i64 y3, .int .i64 y4, .int .i64 y5, .int .i64 y6, .int .i64 y7]) := Fp.out.ext x5
        have FX : Hid (Ext w w5) := FX.out.trans x5
        clear qp0 qp1 qp2 qp3 x5 HU
        have ltpf : np < w5.heap.size := Fp.out.1
        have Lf : Hid (w.heap.size ≤ w5.heap.size) := FX.out.size
        have Fp : Hid (HV (w5.alloc (.cells #[.int .i64 u0, .int .i64 u1, .int .i64 u2, .int .i64 u3] 26)) np [.int .i64 y0, .int .i64 y1, .int .i64 y2, .int .i64 y3, .int .i64 y4, .int .i64 y5, .int .i64 y6, .int .i64 y7]) := Fp.out.alloc _
        have Ff : Hid (HV (w5.alloc (.cells #[.int .i64 u0, .int .i64 u1, .int .i64 u2, .int .i64 u3] 26)) w5.heap.size [.int .i64 u0, .int .i64 u1, .int .i64 u2, .int .i64 u3]) := hv_at rfl
        have FX : Hid (Ext w (w5.alloc (.cells #[.int .i64 u0, .int .i64 u1, .int .i64 u2, .int .i64 u3] 26))) := FX.out.alloc _
        generalize (w5.alloc (.cells #[.int .i64 u0, .int .i64 u1, .int .i64 u2, .int .i64 u3] 26)) = wx2 at *
        generalize w5.heap.size = nf at *
        cases ok
        · clear hok Fp Ff
          go_wp2_with fail
          go_roundw
          case rel => exact ⟨k + 1, by omega, by go_num, FX⟩
          case measure => simp [intOf]; omega
        · obtain ⟨hU, hO⟩ := hok.out rfl
          clear hok
          have gb0 := brt_bounds 1048576 y4 (by decide)
          have gb1 := brt_bounds 1048576 y5 (by decide)
          have gb2 := brt_bounds 1048576 y6 (by decide)
          have HB : Hid (∀ w, Calls Tryz.prog 22 #[.agg #[.int .i64 y4, .int .i64 y5, .int .i64 y6], .int .i64 1048576] w fun e w' => e = .returned (.agg #[.int .i64 (brt 1048576 y4), .int .i64 (brt 1048576 y5), .int .i64 (brt 1048576 y6)]) ∧ Ext w w') := brvec_1048576 _ _ _
          have HN : Hid (∀ w, Calls Tryz.prog 23 #[.int .i64 y7, .int .i64 1001] w fun e w' => e = .returned (.int .i64 (y7 % 18446744073709551616 % 1001)) ∧ w' = w) := within_1001 _
          have nb : 0 ≤ y7 % 18446744073709551616 % 1001 ∧ y7 % 18446744073709551616 % 1001 ≤ 1000 := by omega
          generalize brt 1048576 y4 = v0 at *
          generalize brt 1048576 y5 = v1 at *
          generalize brt 1048576 y6 = v2 at *
          generalize y7 % 18446744073709551616 % 1001 = n7 at *
          obtain ⟨e0, e1, e2, e3, g0, g1, g2, g3, h0, h1, h2, h3, S1, S2, S3, S4, SN, C1, C2⟩ := spins_told u0 u1 u2 u3 v0 v1 v2 n7 hO hU gb0 gb1 gb2 nb
          have S1 : Hid (∀ w, Calls Tryz.prog 12 #[.agg #[.int .i64 u0, .int .i64 u1, .int .i64 u2, .int .i64 u3], .agg #[.int .i64 0, .int .i64 0, .int .i64 0], .int .i64 n7] w fun e w' => e = .returned (.tuple #[.agg #[.int .i64 e0, .int .i64 e1, .int .i64 e2, .int .i64 e3], .int .i64 0]) ∧ Ext w w') := S1
          have S2 : Hid (∀ w, Calls Tryz.prog 12 #[.agg #[.int .i64 u0, .int .i64 u1, .int .i64 u2, .int .i64 u3], .agg #[.int .i64 v0, .int .i64 v1, .int .i64 v2], .int .i64 0] w fun e w' => e = .returned (.tuple #[.agg #[.int .i64 e0, .int .i64 e1, .int .i64 e2, .int .i64 e3], .int .i64 0]) ∧ Ext w w') := S2
          have S3 : Hid (∀ w, Calls Tryz.prog 12 #[.agg #[.int .i64 u0, .int .i64 u1, .int .i64 u2, .int .i64 u3], .agg #[.int .i64 v0, .int .i64 v1, .int .i64 v2], .int .i64 8] w fun e w' => e = .returned (.tuple #[.agg #[.int .i64 g0, .int .i64 g1, .int .i64 g2, .int .i64 g3], .int .i64 0]) ∧ Ext w w') := S3
          have S4 : Hid (∀ w, Calls Tryz.prog 12 #[.agg #[.int .i64 g0, .int .i64 g1, .int .i64 g2, .int .i64 g3], .agg #[.int .i64 (-v0), .int .i64 (-v1), .int .i64 (-v2)], .int .i64 8] w fun e w' => e = .returned (.tuple #[.agg #[.int .i64 h0, .int .i64 h1, .int .i64 h2, .int .i64 h3], .int .i64 0]) ∧ Ext w w') := S4
          have SN : Hid (∀ w, Calls Tryz.prog 25 #[.agg #[.int .i64 v0, .int .i64 v1, .int .i64 v2]] w fun e w' => e = .returned (.tuple #[.agg #[.int .i64 (-v0), .int .i64 (-v1), .int .i64 (-v2)], .int .i64 0]) ∧ Ext w w') := SN
          have C1 : Hid (∀ w, Calls Tryz.prog 24 #[.agg #[.int .i64 e0, .int .i64 e1, .int .i64 e2, .int .i64 e3], .agg #[.int .i64 u0, .int .i64 u1, .int .i64 u2, .int .i64 u3], .int .i64 2] w fun e w' => e = .returned (.bool true) ∧ Ext w w') := C1
          have C2 : Hid (∀ w, Calls Tryz.prog 24 #[.agg #[.int .i64 h0, .int .i64 h1, .int .i64 h2, .int .i64 h3], .agg #[.int .i64 u0, .int .i64 u1, .int .i64 u2, .int .i64 u3], .int .i64 16] w fun e w' => e = .returned (.bool true) ∧ Ext w w') := C2
          clear gb0 gb1 gb2 nb hU hO
          generalize -v0 = r0 at *
          generalize -v1 = r1 at *
          generalize -v2 = r2 at *
          have qp4 : wx2.cell? ⟨np, 4, none⟩ = some (.int .i64 y4) := Fp.out.c 4 rfl
          have qp5 : wx2.cell? ⟨np, 5, none⟩ = some (.int .i64 y5) := Fp.out.c 5 rfl
          have qp6 : wx2.cell? ⟨np, 6, none⟩ = some (.int .i64 y6) := Fp.out.c 6 rfl
          go_upto_region 8 with (first | (go_at_call 22; refine (HB.out _).mono ?_; rintro e w7 ⟨rfl, x7⟩))
          have Fp : Hid (HV w7 np [.int .i64 y0, .int .i64 y1, .int .i64 y2, .int .i64 y3, .int .i64 y4, .int .i64 y5, .int .i64 y6, .int .i64 y7]) := Fp.out.ext x7
          have Ff : Hid (HV w7 nf [.int .i64 u0, .int .i64 u1, .int .i64 u2, .int .i64 u3]) := Ff.out.ext x7
          have FX : Hid (Ext w w7) := FX.out.trans x7
          clear qp4 qp5 qp6 x7 HB
          have ltpv : np < w7.heap.size := Fp.out.1
          have ltfv : nf < w7.heap.size := Ff.out.1
          have Lv : Hid (w.heap.size ≤ w7.heap.size) := FX.out.size
          have Fp : Hid (HV (w7.alloc (.cells #[.int .i64 v0, .int .i64 v1, .int .i64 v2] 28)) np [.int .i64 y0, .int .i64 y1, .int .i64 y2, .int .i64 y3, .int .i64 y4, .int .i64 y5, .int .i64 y6, .int .i64 y7]) := Fp.out.alloc _
          have Ff : Hid (HV (w7.alloc (.cells #[.int .i64 v0, .int .i64 v1, .int .i64 v2] 28)) nf [.int .i64 u0, .int .i64 u1, .int .i64 u2, .int .i64 u3]) := Ff.out.alloc _
          have Fv : Hid (HV (w7.alloc (.cells #[.int .i64 v0, .int .i64 v1, .int .i64 v2] 28)) w7.heap.size [.int .i64 v0, .int .i64 v1, .int .i64 v2]) := hv_at rfl
          have FX : Hid (Ext w (w7.alloc (.cells #[.int .i64 v0, .int .i64 v1, .int .i64 v2] 28))) := FX.out.alloc _
          generalize (w7.alloc (.cells #[.int .i64 v0, .int .i64 v1, .int .i64 v2] 28)) = wx3 at *
          generalize w7.heap.size = nv at *
          go_cut [8, 9] from 18 to 117 (fun v8 v9 wx => ∃ g : Nat, v8 = .pointer (some ⟨g, 0, none⟩) ∧ v9 = .int .i64 0 ∧ Hid (wx3.heap.size ≤ g) ∧ Hid (HV wx g [.int .i64 e0, .int .i64 e1, .int .i64 e2, .int .i64 e3]) ∧ Hid (Ext wx3 wx))
          case first =>
            have qf0 : wx3.cell? ⟨nf, 0, none⟩ = some (.int .i64 u0) := Ff.out.c 0 rfl
            have qf1 : wx3.cell? ⟨nf, 1, none⟩ = some (.int .i64 u1) := Ff.out.c 1 rfl
            have qf2 : wx3.cell? ⟨nf, 2, none⟩ = some (.int .i64 u2) := Ff.out.c 2 rfl
            have qf3 : wx3.cell? ⟨nf, 3, none⟩ = some (.int .i64 u3) := Ff.out.c 3 rfl
            have bf : nf < wx3.heap.size := Ff.out.1
            have mf1 := Nat.ne_of_lt bf
            have mf2 := Nat.ne_of_gt bf
            have qp7 : wx3.cell? ⟨np, 7, none⟩ = some (.int .i64 y7) := Fp.out.c 7 rfl
            have bp : np < wx3.heap.size := Fp.out.1
            have mp1 := Nat.ne_of_lt bp
            have mp2 := Nat.ne_of_gt bp
            go_region_held3 (fun w' => w'.cell? ⟨nf, 0, none⟩ = some (.int .i64 u0) ∧ w'.cell? ⟨nf, 1, none⟩ = some (.int .i64 u1) ∧ w'.cell? ⟨nf, 2, none⟩ = some (.int .i64 u2) ∧ w'.cell? ⟨nf, 3, none⟩ = some (.int .i64 u3) ∧ w'.cell? ⟨np, 7, none⟩ = some (.int .i64 y7)) (first | (go_keep; done) | (refine ⟨?_, ?_, ?_, ?_, ?_⟩ <;> (rw [World.cell?_setCell_far _ _ _ _ (by dsimp only; omega), World.cell?_setCell_far _ _ _ _ (by dsimp only; omega), World.cell?_setCell_far _ _ _ _ (by dsimp only; omega), World.cell?_setCell_far _ _ _ _ (by dsimp only; omega)]; with_reducible assumption)) | skip) (first | (go_at_call 23; refine (HN.out _).mono ?_; rintro e wx ⟨rfl, hwx⟩; have hwy := hwx.symm; clear hwx; subst hwy) | (go_at_call 12; refine (S1.out _).mono ?_; rintro e wz0 ⟨rfl, y0⟩; have Y0 : Ext wx3 wz0 := Ext.trans (by repeat (first | with_reducible assumption | with_reducible exact Ext.refl _ | with_reducible refine Ext.drew ?_ | with_reducible refine Ext.drewN ?_ _ | with_reducible refine Ext.alloc ?_ _ | with_reducible refine Ext.set ?_ (by first | exact Nat.le_refl _ | (dsimp only; omega) | (simp; done)) _)) y0; have qf0u : wz0.cell? ⟨nf, 0, none⟩ = some (.int .i64 u0) := (Ff.out.ext Y0).c 0 rfl; have qf1u : wz0.cell? ⟨nf, 1, none⟩ = some (.int .i64 u1) := (Ff.out.ext Y0).c 1 rfl; have qf2u : wz0.cell? ⟨nf, 2, none⟩ = some (.int .i64 u2) := (Ff.out.ext Y0).c 2 rfl; have qf3u : wz0.cell? ⟨nf, 3, none⟩ = some (.int .i64 u3) := (Ff.out.ext Y0).c 3 rfl; have bfu : nf < wz0.heap.size := (Ff.out.ext Y0).1; have mf1u := Nat.ne_of_lt bfu; have mf2u := Nat.ne_of_gt bfu; have qp7u : wz0.cell? ⟨np, 7, none⟩ = some (.int .i64 y7) := (Fp.out.ext Y0).c 7 rfl; have bpu : np < wz0.heap.size := (Fp.out.ext Y0).1; have mp1u := Nat.ne_of_lt bpu; have mp2u := Nat.ne_of_gt bpu; (first | (have N : Hid (HV wz0 _ [.int .i64 0, .int .i64 0, .int .i64 0, .int .i64 0]) := N.out.ext y0) | (have N : Hid (HV wz0 _ [.int .i64 0, .int .i64 0, .int .i64 0, .int .i64 0]) := (hv_at rfl).ext y0) | (have N : Hid (HV wz0 _ [.int .i64 0, .int .i64 0, .int .i64 0, .int .i64 0]) := (HV.drew (hv_at rfl)).ext y0) | (have N : Hid (HV wz0 _ [.int .i64 0, .int .i64 0, .int .i64 0, .int .i64 0]) := (HV.alloc N.out _).ext y0) | skip); (first | (have n0 := N.out.c 0 rfl; have n1 := N.out.c 1 rfl; have n2 := N.out.c 2 rfl; have n3 := N.out.c 3 rfl; have f0 := N.out.f 0 rfl; have f1 := N.out.f 1 rfl; have f2 := N.out.f 2 rfl; have f3 := N.out.f 3 rfl) | skip)))
            all_goals
              go_wp2_with fail
              go_meet
              first | exact ⟨wz0.heap.size, rfl, rfl, Y0.size, hv_at rfl, Y0.alloc _⟩ | exact (have hg : wx3.heap.size ≤ wx3.heap.size := Nat.le_refl _; ⟨wx3.heap.size, rfl, rfl, Nat.le_refl _, ((((N.out.set 0 (.int .i64 e0)).set 1 (.int .i64 e1)).set 2 (.int .i64 e2)).set 3 (.int .i64 e3)), ((((Y0.set (p := ⟨_, 0, none⟩) hg _).set (p := ⟨_, 1, none⟩) hg _).set (p := ⟨_, 2, none⟩) hg _).set (p := ⟨_, 3, none⟩) hg _)⟩)
          case rest =>
            obtain ⟨na, rfl, rfl, La, Fa, hx⟩ := hcut
            have hx := hx.out
            have ltpa : np < na := Nat.lt_of_lt_of_le Fp.out.1 La.out
            have ltfa : nf < na := Nat.lt_of_lt_of_le Ff.out.1 La.out
            have ltva : nv < na := Nat.lt_of_lt_of_le Fv.out.1 La.out
            have La : Hid (w.heap.size ≤ na) := Nat.le_trans FX.out.size La.out
            have Fp : Hid (HV wc np [.int .i64 y0, .int .i64 y1, .int .i64 y2, .int .i64 y3, .int .i64 y4, .int .i64 y5, .int .i64 y6, .int .i64 y7]) := Fp.out.ext hx
            have Ff : Hid (HV wc nf [.int .i64 u0, .int .i64 u1, .int .i64 u2, .int .i64 u3]) := Ff.out.ext hx
            have Fv : Hid (HV wc nv [.int .i64 v0, .int .i64 v1, .int .i64 v2]) := Fv.out.ext hx
            have FX : Hid (Ext w wc) := FX.out.trans hx
            clear hx
            generalize wc = wx4 at *
            clear HN S1
            have qf0 : wx4.cell? ⟨nf, 0, none⟩ = some (.int .i64 u0) := Ff.out.c 0 rfl
            have qf1 : wx4.cell? ⟨nf, 1, none⟩ = some (.int .i64 u1) := Ff.out.c 1 rfl
            have qf2 : wx4.cell? ⟨nf, 2, none⟩ = some (.int .i64 u2) := Ff.out.c 2 rfl
            have qf3 : wx4.cell? ⟨nf, 3, none⟩ = some (.int .i64 u3) := Ff.out.c 3 rfl
            have qv0 : wx4.cell? ⟨nv, 0, none⟩ = some (.int .i64 v0) := Fv.out.c 0 rfl
            have qv1 : wx4.cell? ⟨nv, 1, none⟩ = some (.int .i64 v1) := Fv.out.c 1 rfl
            have qv2 : wx4.cell? ⟨nv, 2, none⟩ = some (.int .i64 v2) := Fv.out.c 2 rfl
            go_upto_region 10 with (first | (go_at_call 12; refine (S2.out _).mono ?_; rintro e w9 ⟨rfl, x9⟩))
            have Fp : Hid (HV w9 np [.int .i64 y0, .int .i64 y1, .int .i64 y2, .int .i64 y3, .int .i64 y4, .int .i64 y5, .int .i64 y6, .int .i64 y7]) := Fp.out.ext x9
            have Ff : Hid (HV w9 nf [.int .i64 u0, .int .i64 u1, .int .i64 u2, .int .i64 u3]) := Ff.out.ext x9
            have Fv : Hid (HV w9 nv [.int .i64 v0, .int .i64 v1, .int .i64 v2]) := Fv.out.ext x9
            have Fa : Hid (HV w9 na [.int .i64 e0, .int .i64 e1, .int .i64 e2, .int .i64 e3]) := Fa.out.ext x9
            have FX : Hid (Ext w w9) := FX.out.trans x9
            clear qf0 qf1 qf2 qf3 qv0 qv1 qv2 x9 S2
            have ltpb : np < w9.heap.size := Fp.out.1
            have ltfb : nf < w9.heap.size := Ff.out.1
            have ltvb : nv < w9.heap.size := Fv.out.1
            have ltab : na < w9.heap.size := Fa.out.1
            have Lb : Hid (w.heap.size ≤ w9.heap.size) := FX.out.size
            have Fp : Hid (HV (w9.alloc (.cells #[.int .i64 e0, .int .i64 e1, .int .i64 e2, .int .i64 e3] 26)) np [.int .i64 y0, .int .i64 y1, .int .i64 y2, .int .i64 y3, .int .i64 y4, .int .i64 y5, .int .i64 y6, .int .i64 y7]) := Fp.out.alloc _
            have Ff : Hid (HV (w9.alloc (.cells #[.int .i64 e0, .int .i64 e1, .int .i64 e2, .int .i64 e3] 26)) nf [.int .i64 u0, .int .i64 u1, .int .i64 u2, .int .i64 u3]) := Ff.out.alloc _
            have Fv : Hid (HV (w9.alloc (.cells #[.int .i64 e0, .int .i64 e1, .int .i64 e2, .int .i64 e3] 26)) nv [.int .i64 v0, .int .i64 v1, .int .i64 v2]) := Fv.out.alloc _
            have Fa : Hid (HV (w9.alloc (.cells #[.int .i64 e0, .int .i64 e1, .int .i64 e2, .int .i64 e3] 26)) na [.int .i64 e0, .int .i64 e1, .int .i64 e2, .int .i64 e3]) := Fa.out.alloc _
            have Fb : Hid (HV (w9.alloc (.cells #[.int .i64 e0, .int .i64 e1, .int .i64 e2, .int .i64 e3] 26)) w9.heap.size [.int .i64 e0, .int .i64 e1, .int .i64 e2, .int .i64 e3]) := hv_at rfl
            have FX : Hid (Ext w (w9.alloc (.cells #[.int .i64 e0, .int .i64 e1, .int .i64 e2, .int .i64 e3] 26))) := FX.out.alloc _
            generalize (w9.alloc (.cells #[.int .i64 e0, .int .i64 e1, .int .i64 e2, .int .i64 e3] 26)) = wx5 at *
            generalize w9.heap.size = nb at *
            have qa0 : wx5.cell? ⟨na, 0, none⟩ = some (.int .i64 e0) := Fa.out.c 0 rfl
            have qa1 : wx5.cell? ⟨na, 1, none⟩ = some (.int .i64 e1) := Fa.out.c 1 rfl
            have qa2 : wx5.cell? ⟨na, 2, none⟩ = some (.int .i64 e2) := Fa.out.c 2 rfl
            have qa3 : wx5.cell? ⟨na, 3, none⟩ = some (.int .i64 e3) := Fa.out.c 3 rfl
            have qb0 : wx5.cell? ⟨nb, 0, none⟩ = some (.int .i64 e0) := Fb.out.c 0 rfl
            have qb1 : wx5.cell? ⟨nb, 1, none⟩ = some (.int .i64 e1) := Fb.out.c 1 rfl
            have qb2 : wx5.cell? ⟨nb, 2, none⟩ = some (.int .i64 e2) := Fb.out.c 2 rfl
            have qb3 : wx5.cell? ⟨nb, 3, none⟩ = some (.int .i64 e3) := Fb.out.c 3 rfl
            have qf0 : wx5.cell? ⟨nf, 0, none⟩ = some (.int .i64 u0) := Ff.out.c 0 rfl
            have qf1 : wx5.cell? ⟨nf, 1, none⟩ = some (.int .i64 u1) := Ff.out.c 1 rfl
            have qf2 : wx5.cell? ⟨nf, 2, none⟩ = some (.int .i64 u2) := Ff.out.c 2 rfl
            have qf3 : wx5.cell? ⟨nf, 3, none⟩ = some (.int .i64 u3) := Ff.out.c 3 rfl
            have he := eqF e0 e1 e2 e3 e0 e1 e2 e3
            go_upto_region 12 with (first | (go_at_call 13; refine (num15_any _ _).mono ?_; rintro e wx ⟨rfl, hwx⟩; have hwy := hwx.symm; clear hwx; subst hwy) | (go_at_call 24; refine (C1.out _).mono ?_; rintro e w10 ⟨rfl, x10⟩))
            have Fp : Hid (HV w10 np [.int .i64 y0, .int .i64 y1, .int .i64 y2, .int .i64 y3, .int .i64 y4, .int .i64 y5, .int .i64 y6, .int .i64 y7]) := Fp.out.ext x10
            have Ff : Hid (HV w10 nf [.int .i64 u0, .int .i64 u1, .int .i64 u2, .int .i64 u3]) := Ff.out.ext x10
            have Fv : Hid (HV w10 nv [.int .i64 v0, .int .i64 v1, .int .i64 v2]) := Fv.out.ext x10
            have Fa : Hid (HV w10 na [.int .i64 e0, .int .i64 e1, .int .i64 e2, .int .i64 e3]) := Fa.out.ext x10
            have Fb : Hid (HV w10 nb [.int .i64 e0, .int .i64 e1, .int .i64 e2, .int .i64 e3]) := Fb.out.ext x10
            have FX : Hid (Ext w w10) := FX.out.trans x10
            clear qa0 qa1 qa2 qa3 qb0 qb1 qb2 qb3 qf0 qf1 qf2 qf3 x10 C1 he
            have qf0 : w10.cell? ⟨nf, 0, none⟩ = some (.int .i64 u0) := Ff.out.c 0 rfl
            have qf1 : w10.cell? ⟨nf, 1, none⟩ = some (.int .i64 u1) := Ff.out.c 1 rfl
            have qf2 : w10.cell? ⟨nf, 2, none⟩ = some (.int .i64 u2) := Ff.out.c 2 rfl
            have qf3 : w10.cell? ⟨nf, 3, none⟩ = some (.int .i64 u3) := Ff.out.c 3 rfl
            have qv0 : w10.cell? ⟨nv, 0, none⟩ = some (.int .i64 v0) := Fv.out.c 0 rfl
            have qv1 : w10.cell? ⟨nv, 1, none⟩ = some (.int .i64 v1) := Fv.out.c 1 rfl
            have qv2 : w10.cell? ⟨nv, 2, none⟩ = some (.int .i64 v2) := Fv.out.c 2 rfl
            go_upto_region 13 with (first | (go_at_call 12; refine (S3.out _).mono ?_; rintro e w12 ⟨rfl, x12⟩))
            have Fp : Hid (HV w12 np [.int .i64 y0, .int .i64 y1, .int .i64 y2, .int .i64 y3, .int .i64 y4, .int .i64 y5, .int .i64 y6, .int .i64 y7]) := Fp.out.ext x12
            have Ff : Hid (HV w12 nf [.int .i64 u0, .int .i64 u1, .int .i64 u2, .int .i64 u3]) := Ff.out.ext x12
            have Fv : Hid (HV w12 nv [.int .i64 v0, .int .i64 v1, .int .i64 v2]) := Fv.out.ext x12
            have FX : Hid (Ext w w12) := FX.out.trans x12
            clear qf0 qf1 qf2 qf3 qv0 qv1 qv2 x12 S3
            have ltpg : np < w12.heap.size := Fp.out.1
            have ltfg : nf < w12.heap.size := Ff.out.1
            have ltvg : nv < w12.heap.size := Fv.out.1
            have Lg : Hid (w.heap.size ≤ w12.heap.size) := FX.out.size
            have Fp : Hid (HV (w12.alloc (.cells #[.int .i64 g0, .int .i64 g1, .int .i64 g2, .int .i64 g3] 26)) np [.int .i64 y0, .int .i64 y1, .int .i64 y2, .int .i64 y3, .int .i64 y4, .int .i64 y5, .int .i64 y6, .int .i64 y7]) := Fp.out.alloc _
            have Ff : Hid (HV (w12.alloc (.cells #[.int .i64 g0, .int .i64 g1, .int .i64 g2, .int .i64 g3] 26)) nf [.int .i64 u0, .int .i64 u1, .int .i64 u2, .int .i64 u3]) := Ff.out.alloc _
            have Fv : Hid (HV (w12.alloc (.cells #[.int .i64 g0, .int .i64 g1, .int .i64 g2, .int .i64 g3] 26)) nv [.int .i64 v0, .int .i64 v1, .int .i64 v2]) := Fv.out.alloc _
            have Fg : Hid (HV (w12.alloc (.cells #[.int .i64 g0, .int .i64 g1, .int .i64 g2, .int .i64 g3] 26)) w12.heap.size [.int .i64 g0, .int .i64 g1, .int .i64 g2, .int .i64 g3]) := hv_at rfl
            have FX : Hid (Ext w (w12.alloc (.cells #[.int .i64 g0, .int .i64 g1, .int .i64 g2, .int .i64 g3] 26))) := FX.out.alloc _
            generalize (w12.alloc (.cells #[.int .i64 g0, .int .i64 g1, .int .i64 g2, .int .i64 g3] 26)) = wx6 at *
            generalize w12.heap.size = ng at *
            have qv0 : wx6.cell? ⟨nv, 0, none⟩ = some (.int .i64 v0) := Fv.out.c 0 rfl
            have qv1 : wx6.cell? ⟨nv, 1, none⟩ = some (.int .i64 v1) := Fv.out.c 1 rfl
            have qv2 : wx6.cell? ⟨nv, 2, none⟩ = some (.int .i64 v2) := Fv.out.c 2 rfl
            go_upto_region 14 with (first | (go_at_call 25; refine (SN.out _).mono ?_; rintro e w13 ⟨rfl, x13⟩))
            have Fp : Hid (HV w13 np [.int .i64 y0, .int .i64 y1, .int .i64 y2, .int .i64 y3, .int .i64 y4, .int .i64 y5, .int .i64 y6, .int .i64 y7]) := Fp.out.ext x13
            have Ff : Hid (HV w13 nf [.int .i64 u0, .int .i64 u1, .int .i64 u2, .int .i64 u3]) := Ff.out.ext x13
            have Fv : Hid (HV w13 nv [.int .i64 v0, .int .i64 v1, .int .i64 v2]) := Fv.out.ext x13
            have Fg : Hid (HV w13 ng [.int .i64 g0, .int .i64 g1, .int .i64 g2, .int .i64 g3]) := Fg.out.ext x13
            have FX : Hid (Ext w w13) := FX.out.trans x13
            clear qv0 qv1 qv2 x13 SN
            have ltpn : np < w13.heap.size := Fp.out.1
            have ltfn : nf < w13.heap.size := Ff.out.1
            have ltvn : nv < w13.heap.size := Fv.out.1
            have ltgn : ng < w13.heap.size := Fg.out.1
            have Ln : Hid (w.heap.size ≤ w13.heap.size) := FX.out.size
            have Fp : Hid (HV (w13.alloc (.cells #[.int .i64 r0, .int .i64 r1, .int .i64 r2] 28)) np [.int .i64 y0, .int .i64 y1, .int .i64 y2, .int .i64 y3, .int .i64 y4, .int .i64 y5, .int .i64 y6, .int .i64 y7]) := Fp.out.alloc _
            have Ff : Hid (HV (w13.alloc (.cells #[.int .i64 r0, .int .i64 r1, .int .i64 r2] 28)) nf [.int .i64 u0, .int .i64 u1, .int .i64 u2, .int .i64 u3]) := Ff.out.alloc _
            have Fv : Hid (HV (w13.alloc (.cells #[.int .i64 r0, .int .i64 r1, .int .i64 r2] 28)) nv [.int .i64 v0, .int .i64 v1, .int .i64 v2]) := Fv.out.alloc _
            have Fg : Hid (HV (w13.alloc (.cells #[.int .i64 r0, .int .i64 r1, .int .i64 r2] 28)) ng [.int .i64 g0, .int .i64 g1, .int .i64 g2, .int .i64 g3]) := Fg.out.alloc _
            have Fn : Hid (HV (w13.alloc (.cells #[.int .i64 r0, .int .i64 r1, .int .i64 r2] 28)) w13.heap.size [.int .i64 r0, .int .i64 r1, .int .i64 r2]) := hv_at rfl
            have FX : Hid (Ext w (w13.alloc (.cells #[.int .i64 r0, .int .i64 r1, .int .i64 r2] 28))) := FX.out.alloc _
            generalize (w13.alloc (.cells #[.int .i64 r0, .int .i64 r1, .int .i64 r2] 28)) = wx7 at *
            generalize w13.heap.size = nn at *
            have qg0 : wx7.cell? ⟨ng, 0, none⟩ = some (.int .i64 g0) := Fg.out.c 0 rfl
            have qg1 : wx7.cell? ⟨ng, 1, none⟩ = some (.int .i64 g1) := Fg.out.c 1 rfl
            have qg2 : wx7.cell? ⟨ng, 2, none⟩ = some (.int .i64 g2) := Fg.out.c 2 rfl
            have qg3 : wx7.cell? ⟨ng, 3, none⟩ = some (.int .i64 g3) := Fg.out.c 3 rfl
            have qn0 : wx7.cell? ⟨nn, 0, none⟩ = some (.int .i64 r0) := Fn.out.c 0 rfl
            have qn1 : wx7.cell? ⟨nn, 1, none⟩ = some (.int .i64 r1) := Fn.out.c 1 rfl
            have qn2 : wx7.cell? ⟨nn, 2, none⟩ = some (.int .i64 r2) := Fn.out.c 2 rfl
            go_upto_region 15 with (first | (go_at_call 12; refine (S4.out _).mono ?_; rintro e w14 ⟨rfl, x14⟩))
            have Fp : Hid (HV w14 np [.int .i64 y0, .int .i64 y1, .int .i64 y2, .int .i64 y3, .int .i64 y4, .int .i64 y5, .int .i64 y6, .int .i64 y7]) := Fp.out.ext x14
            have Ff : Hid (HV w14 nf [.int .i64 u0, .int .i64 u1, .int .i64 u2, .int .i64 u3]) := Ff.out.ext x14
            have Fv : Hid (HV w14 nv [.int .i64 v0, .int .i64 v1, .int .i64 v2]) := Fv.out.ext x14
            have Fg : Hid (HV w14 ng [.int .i64 g0, .int .i64 g1, .int .i64 g2, .int .i64 g3]) := Fg.out.ext x14
            have Fn : Hid (HV w14 nn [.int .i64 r0, .int .i64 r1, .int .i64 r2]) := Fn.out.ext x14
            have FX : Hid (Ext w w14) := FX.out.trans x14
            clear qg0 qg1 qg2 qg3 qn0 qn1 qn2 x14 S4
            have ltph : np < w14.heap.size := Fp.out.1
            have ltfh : nf < w14.heap.size := Ff.out.1
            have ltvh : nv < w14.heap.size := Fv.out.1
            have ltgh : ng < w14.heap.size := Fg.out.1
            have ltnh : nn < w14.heap.size := Fn.out.1
            have Lh : Hid (w.heap.size ≤ w14.heap.size) := FX.out.size
            have Fp : Hid (HV (w14.alloc (.cells #[.int .i64 h0, .int .i64 h1, .int .i64 h2, .int .i64 h3] 26)) np [.int .i64 y0, .int .i64 y1, .int .i64 y2, .int .i64 y3, .int .i64 y4, .int .i64 y5, .int .i64 y6, .int .i64 y7]) := Fp.out.alloc _
            have Ff : Hid (HV (w14.alloc (.cells #[.int .i64 h0, .int .i64 h1, .int .i64 h2, .int .i64 h3] 26)) nf [.int .i64 u0, .int .i64 u1, .int .i64 u2, .int .i64 u3]) := Ff.out.alloc _
            have Fv : Hid (HV (w14.alloc (.cells #[.int .i64 h0, .int .i64 h1, .int .i64 h2, .int .i64 h3] 26)) nv [.int .i64 v0, .int .i64 v1, .int .i64 v2]) := Fv.out.alloc _
            have Fg : Hid (HV (w14.alloc (.cells #[.int .i64 h0, .int .i64 h1, .int .i64 h2, .int .i64 h3] 26)) ng [.int .i64 g0, .int .i64 g1, .int .i64 g2, .int .i64 g3]) := Fg.out.alloc _
            have Fn : Hid (HV (w14.alloc (.cells #[.int .i64 h0, .int .i64 h1, .int .i64 h2, .int .i64 h3] 26)) nn [.int .i64 r0, .int .i64 r1, .int .i64 r2]) := Fn.out.alloc _
            have Fh : Hid (HV (w14.alloc (.cells #[.int .i64 h0, .int .i64 h1, .int .i64 h2, .int .i64 h3] 26)) w14.heap.size [.int .i64 h0, .int .i64 h1, .int .i64 h2, .int .i64 h3]) := hv_at rfl
            have FX : Hid (Ext w (w14.alloc (.cells #[.int .i64 h0, .int .i64 h1, .int .i64 h2, .int .i64 h3] 26))) := FX.out.alloc _
            generalize (w14.alloc (.cells #[.int .i64 h0, .int .i64 h1, .int .i64 h2, .int .i64 h3] 26)) = wx8 at *
            generalize w14.heap.size = nh at *
            have qh0 : wx8.cell? ⟨nh, 0, none⟩ = some (.int .i64 h0) := Fh.out.c 0 rfl
            have qh1 : wx8.cell? ⟨nh, 1, none⟩ = some (.int .i64 h1) := Fh.out.c 1 rfl
            have qh2 : wx8.cell? ⟨nh, 2, none⟩ = some (.int .i64 h2) := Fh.out.c 2 rfl
            have qh3 : wx8.cell? ⟨nh, 3, none⟩ = some (.int .i64 h3) := Fh.out.c 3 rfl
            have qf0 : wx8.cell? ⟨nf, 0, none⟩ = some (.int .i64 u0) := Ff.out.c 0 rfl
            have qf1 : wx8.cell? ⟨nf, 1, none⟩ = some (.int .i64 u1) := Ff.out.c 1 rfl
            have qf2 : wx8.cell? ⟨nf, 2, none⟩ = some (.int .i64 u2) := Ff.out.c 2 rfl
            have qf3 : wx8.cell? ⟨nf, 3, none⟩ = some (.int .i64 u3) := Ff.out.c 3 rfl
            go_wp2_with (first | (go_at_call 13; refine (num15_any _ _).mono ?_; rintro e wx ⟨rfl, hwx⟩; have hwy := hwx.symm; clear hwx; subst hwy) | (go_at_call 24; refine (C2.out _).mono ?_; rintro e w15 ⟨rfl, x15⟩))
            have Fp : Hid (HV w15 np [.int .i64 y0, .int .i64 y1, .int .i64 y2, .int .i64 y3, .int .i64 y4, .int .i64 y5, .int .i64 y6, .int .i64 y7]) := Fp.out.ext x15
            have Ff : Hid (HV w15 nf [.int .i64 u0, .int .i64 u1, .int .i64 u2, .int .i64 u3]) := Ff.out.ext x15
            have Fv : Hid (HV w15 nv [.int .i64 v0, .int .i64 v1, .int .i64 v2]) := Fv.out.ext x15
            have Fg : Hid (HV w15 ng [.int .i64 g0, .int .i64 g1, .int .i64 g2, .int .i64 g3]) := Fg.out.ext x15
            have Fn : Hid (HV w15 nn [.int .i64 r0, .int .i64 r1, .int .i64 r2]) := Fn.out.ext x15
            have Fh : Hid (HV w15 nh [.int .i64 h0, .int .i64 h1, .int .i64 h2, .int .i64 h3]) := Fh.out.ext x15
            have FX : Hid (Ext w w15) := FX.out.trans x15
            go_roundw
            case rel => exact ⟨k + 1, by omega, by go_num, FX⟩
            case measure => simp [intOf]; omega
      · go_wp2_with fail
        refine (wakes15_any _).mono ?_
        rintro e w1 ⟨rfl, x1⟩
        have E1 : Ext w w1 := FX.out.trans x1
        go_wp2_with fail
        go_ret
        exact ⟨rfl, E1⟩
    · have hk' : k = len := by omega
      subst hk'
      go_wp2_with fail
      refine (wakes15_any _).mono ?_
      rintro e w1 ⟨rfl, x1⟩
      have E1 : Ext w w1 := FX.out.trans x1
      go_wp2_with fail
      go_ret
      exact ⟨rfl, E1⟩
set_option maxHeartbeats 4000000 in
theorem spins_none (a : Option Addr) (cap : Nat) (w : World) :
    Calls Tryz.prog 5 #[.slice a 0 cap] w fun e w' => e = .returned (.bool true) ∧ Ext w w' := by
  go_enter Tryz.func5, Tryz.ntmps5
  go_wp2_with fail
  go_loopw [3] (fun i wr => i = .int .i64 0 ∧ Hid (Ext w wr)) (fun _ _ => 0)
  case atStart => exact ⟨rfl, Ext.refl _⟩
  case round =>
    obtain ⟨rfl, FX⟩ := hrel
    go_wp2_with fail
    refine (wakes15_any _).mono ?_
    rintro e w1 ⟨rfl, x1⟩
    have E1 : Ext w w1 := FX.out.trans x1
    go_wp2_with fail
    go_ret
    exact ⟨rfl, E1⟩
end Go.Proofs.YtmbdcgijjpcppaaGreat
