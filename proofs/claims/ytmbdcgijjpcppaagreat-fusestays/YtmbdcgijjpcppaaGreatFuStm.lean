/- FuseStays. -/
import Derived.Test.YtmbdcgijjpcppaaGreatFuMam
import Derived.Test.YtmbdcgijjpcppaaGreatFl0m
import Derived.Deep.Cut
import Derived.Deep.DeepCutAuto
namespace Go.Proofs.YtmbdcgijjpcppaaGreat
open Go.RowKit Go.Shelf
theorem rad3_of {x y z : Int} (hx : -1073741824 ≤ x ∧ x ≤ 1073741824) (hy : -1073741824 ≤ y ∧ y ≤ 1073741824) (hz : -1073741824 ≤ z ∧ z ≤ 1073741824) : rad3 x y z = true := by
  unfold rad3; rw [rad_iff.2 hx, rad_iff.2 hy, rad_iff.2 hz]; rfl
theorem nh_le {a b c d x y z B : Int} (h : okO a b c d = true) (hB : 0 ≤ B) (hB2 : B < 35184372088832) (hv : x * x + y * y + z * z ≤ B * B) : ok3 (nh0 a b c d x y z) (nh1 a b c d x y z) (nh2 a b c d x y z) = true := by
  have hb := tn_bound (a := a) (b := b) (c := c) (d := d) hB (sq4_pos (okO_zero h)) hv
  unfold nh0 nh1 nh2
  exact ok3_of (by omega) (by omega) (by omega)
theorem sq_le {x B : Int} (h : -B ≤ x ∧ x ≤ B) : x * x ≤ B * B := by
  have := mul_le_of h.1 h.2 h.1 h.2
  omega
theorem ang_le {n x : Int} (hn : 0 ≤ n ∧ n ≤ 1000) (hx : -1048576 ≤ x ∧ x ≤ 1048576) : -1073741824 ≤ n * x ∧ n * x ≤ 1073741824 := by
  have := mul_le_of (a := n) (A := 1000) (b := x) (B := 1048576) (by omega) (by omega) (by omega) (by omega)
  omega
/-- all that is told of the calls of one round -/
theorem stays_told (a b c d x y z n p q r k l m : Int) (h : okO a b c d = true) (hx : -1048576 ≤ x ∧ x ≤ 1048576) (hy : -1048576 ≤ y ∧ y ≤ 1048576) (hz : -1048576 ≤ z ∧ z ≤ 1048576) (hn : 0 ≤ n ∧ n ≤ 1000)
    (hp : -19613300 ≤ p ∧ p ≤ 19613300) (hq : -19613300 ≤ q ∧ q ≤ 19613300) (hr : -19613300 ≤ r ∧ r ≤ 19613300) (hk : -1099511627776 ≤ k ∧ k ≤ 1099511627776) (hl : -1099511627776 ≤ l ∧ l ≤ 1099511627776) (hm : -1099511627776 ≤ m ∧ m ≤ 1099511627776) : ∃ e0 e1 e2 e3 g0 g1 g2 g3 h0 h1 h2 h3 : Int,
    (∀ w, Calls Tryz.prog 7 #[.agg #[.int .i64 a, .int .i64 b, .int .i64 c, .int .i64 d]] w fun e w' => e = .returned (.bool true) ∧ Ext w w') ∧ (∀ w, Calls Tryz.prog 12 #[.agg #[.int .i64 a, .int .i64 b, .int .i64 c, .int .i64 d], .agg #[.int .i64 x, .int .i64 y, .int .i64 z], .int .i64 n] w fun e w' => e = .returned (.tuple #[.agg #[.int .i64 e0, .int .i64 e1, .int .i64 e2, .int .i64 e3], .int .i64 0]) ∧ Ext w w') ∧ (∀ w, Calls Tryz.prog 16 #[.agg #[.int .i64 e0, .int .i64 e1, .int .i64 e2, .int .i64 e3], .agg #[.int .i64 p, .int .i64 q, .int .i64 r]] w fun e w' => e = .returned (.tuple #[.agg #[.int .i64 g0, .int .i64 g1, .int .i64 g2, .int .i64 g3], .int .i64 0]) ∧ Ext w w') ∧ (∀ w, Calls Tryz.prog 17 #[.agg #[.int .i64 g0, .int .i64 g1, .int .i64 g2, .int .i64 g3], .agg #[.int .i64 k, .int .i64 l, .int .i64 m]] w fun e w' => e = .returned (.tuple #[.agg #[.int .i64 h0, .int .i64 h1, .int .i64 h2, .int .i64 h3], .int .i64 0]) ∧ Ext w w') ∧ (∀ w, Calls Tryz.prog 7 #[.agg #[.int .i64 e0, .int .i64 e1, .int .i64 e2, .int .i64 e3]] w fun e w' => e = .returned (.bool true) ∧ Ext w w') ∧ (∀ w, Calls Tryz.prog 7 #[.agg #[.int .i64 g0, .int .i64 g1, .int .i64 g2, .int .i64 g3]] w fun e w' => e = .returned (.bool true) ∧ Ext w w') ∧ (∀ w, Calls Tryz.prog 7 #[.agg #[.int .i64 h0, .int .i64 h1, .int .i64 h2, .int .i64 h3]] w fun e w' => e = .returned (.bool true) ∧ Ext w w') ∧ (∀ w, Calls Tryz.prog 14 #[.agg #[.int .i64 h0, .int .i64 h1, .int .i64 h2, .int .i64 h3]] w fun e w' => e = .returned (.int .i64 0) ∧ Ext w w') := by
  obtain ⟨e0, e1, e2, e3, he⟩ := spinD_ex (n * x) (n * y) (n * z) h
  have oe := spinD_ok h he
  obtain ⟨g0, g1, g2, g3, hg⟩ := upD_ex p q r oe
  have og := upD_ok oe hg
  obtain ⟨h0, h1, h2, h3, hh⟩ := northD_ex k l m og
  have oh := northD_ok og hh
  have v1 := sq_le hk; have v2 := sq_le hl; have v3 := sq_le hm
  have nl := nh_le (x := k) (y := l) (z := m) (B := 2199023255552) og (by decide) (by decide) (by omega)
  have M := fun {a b c d : Int} (ho : okO a b c d = true) w => (may15_ok a b c d w ho : Calls Tryz.prog 7 #[.agg #[.int .i64 a, .int .i64 b, .int .i64 c, .int .i64 d]] w fun e w' => e = .returned (.bool true) ∧ Ext w w')
  refine ⟨e0, e1, e2, e3, g0, g1, g2, g3, h0, h1, h2, h3, M h, fun w => spin_told w h (ok3_of (by omega) (by omega) (by omega)) (tck_iff.2 hn) (rad3_of (ang_le hn hx) (ang_le hn hy) (ang_le hn hz)) he, fun w => up_told w oe (ok3_of (by omega) (by omega) (by omega)) hg, fun w => north_told w og (ok3_of (by omega) (by omega) (by omega)) nl hh, M oe, M og, M oh, fun w => ?_⟩
  have C := fCheck_any h0 h1 h2 h3 w
  rw [chkO_y oh] at C
  exact C
set_option maxRecDepth 20000 in
set_option maxHeartbeats 40000000 in
theorem stays_any (b off len cap : Nat) (Z : Nat → Nat → Int) (w : World) (hl : len ≤ maxLen) (hc : NL 8 w b off len Z) :
    Calls Tryz.prog 4 #[.slice (some ⟨b, off, none⟩) len cap] w fun e w' => e = .returned (.bool true) ∧ Ext w w' := by
  have hl' : len ≤ 9223372036854775807 := by unfold maxLen at hl; omega
  clear hl
  go_enter Tryz.func4, Tryz.ntmps4
  go_wp2_with fail
  go_loopw [3] (fun i wr => ∃ k : Nat, k ≤ len ∧ i = .int .i64 k ∧ Hid (Ext w wr)) (fun i _ => len - (intOf i).toNat)
  case atStart => exact ⟨0, Nat.zero_le _, rfl, Ext.refl _⟩
  case round =>
    obtain ⟨k, hk, rfl, FX⟩ := hrel
    by_cases hlt : k < len
    · by_cases h5 : k < 6
      · skip
        obtain ⟨c0, n0a, n0b⟩ := (hc.ext FX.out) k hlt 0 (by omega)
        obtain ⟨c1, n1a, n1b⟩ := (hc.ext FX.out) k hlt 1 (by omega)
        obtain ⟨c2, n2a, n2b⟩ := (hc.ext FX.out) k hlt 2 (by omega)
        obtain ⟨c3, n3a, n3b⟩ := (hc.ext FX.out) k hlt 3 (by omega)
        obtain ⟨c4, n4a, n4b⟩ := (hc.ext FX.out) k hlt 4 (by omega)
        obtain ⟨c5, n5a, n5b⟩ := (hc.ext FX.out) k hlt 5 (by omega)
        obtain ⟨c6, n6a, n6b⟩ := (hc.ext FX.out) k hlt 6 (by omega)
        obtain ⟨c7, n7a, n7b⟩ := (hc.ext FX.out) k hlt 7 (by omega)
        rw [Nat.add_zero] at c0
        have hlt' : (k : Int) < (len : Int) := by omega
        clear hc n0a n0b n1a n1b n2a n2b n3a n3b n4a n4b n5a n5b n6a n6b n7a n7b
        generalize Z k 0 = y0 at *
        generalize Z k 1 = y1 at *
        generalize Z k 2 = y2 at *
        generalize Z k 3 = y3 at *
        generalize Z k 4 = y4 at *
        generalize Z k 5 = y5 at *
        generalize Z k 6 = y6 at *
        generalize Z k 7 = y7 at *
        obtain ⟨u0, u1, u2, u3, ok, HU, hok⟩ := lunit_any y0 y1 y2 y3
        have HU : Hid (∀ w, Calls Tryz.prog 21 #[.agg #[.int .i64 y0, .int .i64 y1, .int .i64 y2, .int .i64 y3]] w fun e w' => e = .returned (.tuple #[.agg #[.int .i64 u0, .int .i64 u1, .int .i64 u2, .int .i64 u3], .bool ok]) ∧ Ext w w') := HU
        have hok : Hid (ok = true → isU u0 u1 u2 u3 ∧ okO u0 u1 u2 u3 = true) := hok
        go_upto_region 5 with fail
        clear c0 c1 c2 c3 c4 c5 c6 c7
        have Lp : Hid (w.heap.size ≤ wr.heap.size) := FX.out.size
        have Fp : Hid (HV (wr.alloc (.cells #[.int .i64 y0, .int .i64 y1, .int .i64 y2, .int .i64 y3, .int .i64 y4, .int .i64 y5, .int .i64 y6, .int .i64 y7] 30)) wr.heap.size [.int .i64 y0, .int .i64 y1, .int .i64 y2, .int .i64 y3, .int .i64 y4, .int .i64 y5, .int .i64 y6, .int .i64 y7]) := hv_at rfl
        have FX : Hid (Ext w (wr.alloc (.cells #[.int .i64 y0, .int .i64 y1, .int .i64 y2, .int .i64 y3, .int .i64 y4, .int .i64 y5, .int .i64 y6, .int .i64 y7] 30))) := FX.out.alloc _
        generalize (wr.alloc (.cells #[.int .i64 y0, .int .i64 y1, .int .i64 y2, .int .i64 y3, .int .i64 y4, .int .i64 y5, .int .i64 y6, .int .i64 y7] 30)) = wx1 at *
        generalize wr.heap.size = np at *
        have qp0 : wx1.cell? ⟨np, 0, none⟩ = some (.int .i64 y0) := Fp.out.c 0 rfl
        have qp1 : wx1.cell? ⟨np, 1, none⟩ = some (.int .i64 y1) := Fp.out.c 1 rfl
        have qp2 : wx1.cell? ⟨np, 2, none⟩ = some (.int .i64 y2) := Fp.out.c 2 rfl
        have qp3 : wx1.cell? ⟨np, 3, none⟩ = some (.int .i64 y3) := Fp.out.c 3 rfl
        go_upto_region 6 with (first | (go_at_call 21; refine (HU.out _).mono ?_; rintro e w5 ⟨rfl, x5⟩))
        have Fp : Hid (HV w5 np [.int .i64 y0, .int .i64 y1, .int .i64 y2, .int .i64 y3, .int .i64 y4, .int .i64 y5, .int .i64 y6, .int .i64 y7]) := Fp.out.ext x5
        have FX : Hid (Ext w w5) := FX.out.trans x5
        clear qp0 qp1 qp2 qp3 x5 HU
        have ltpf : np < w5.heap.size := Fp.out.1
        have Lf : Hid (w.heap.size ≤ w5.heap.size) := FX.out.size
        have Fp : Hid (HV (w5.alloc (.cells #[.int .i64 u0, .int .i64 u1, .int .i64 u2, .int .i64 u3] 26)) np [.int .i64 y0, .int .i64 y1, .int .i64 y2, .int .i64 y3, .int .i64 y4, .int .i64 y5, .int .i64 y6, .int .i64 y7]) := Fp.out.alloc _
        have Ff : Hid (HV (w5.alloc (.cells #[.int .i64 u0, .int .i64 u1, .int .i64 u2, .int .i64 u3] 26)) w5.heap.size [.int .i64 u0, .int .i64 u1, .int .i64 u2, .int .i64 u3]) := hv_at rfl
        have FX : Hid (Ext w (w5.alloc (.cells #[.int .i64 u0, .int .i64 u1, .int .i64 u2, .int .i64 u3] 26))) := FX.out.alloc _
        generalize (w5.alloc (.cells #[.int .i64 u0, .int .i64 u1, .int .i64 u2, .int .i64 u3] 26)) = wx2 at *
        generalize w5.heap.size = nf at *
        cases ok
        · clear hok Fp Ff
          go_wp2_with fail
          go_roundw
          case rel => exact ⟨k + 1, by omega, by go_num, FX⟩
          case measure => simp [intOf]; omega
        · obtain ⟨hU, hO⟩ := hok.out rfl
          clear hok hU
          have bv0 := brt_bounds 1048576 y4 (by decide)
          have bv1 := brt_bounds 1048576 y5 (by decide)
          have bv2 := brt_bounds 1048576 y6 (by decide)
          have Hv : Hid (∀ w, Calls Tryz.prog 22 #[.agg #[.int .i64 y4, .int .i64 y5, .int .i64 y6], .int .i64 1048576] w fun e w' => e = .returned (.agg #[.int .i64 (brt 1048576 y4), .int .i64 (brt 1048576 y5), .int .i64 (brt 1048576 y6)]) ∧ Ext w w') := brvec_1048576 _ _ _
          generalize brt 1048576 y4 = v0 at *
          generalize brt 1048576 y5 = v1 at *
          generalize brt 1048576 y6 = v2 at *
          have bt0 := brt_bounds 19613300 y4 (by decide)
          have bt1 := brt_bounds 19613300 y5 (by decide)
          have bt2 := brt_bounds 19613300 y6 (by decide)
          have Ht : Hid (∀ w, Calls Tryz.prog 22 #[.agg #[.int .i64 y4, .int .i64 y5, .int .i64 y6], .int .i64 19613300] w fun e w' => e = .returned (.agg #[.int .i64 (brt 19613300 y4), .int .i64 (brt 19613300 y5), .int .i64 (brt 19613300 y6)]) ∧ Ext w w') := brvec_19613300 _ _ _
          generalize brt 19613300 y4 = t0 at *
          generalize brt 19613300 y5 = t1 at *
          generalize brt 19613300 y6 = t2 at *
          have br0 := brt_bounds 1099511627776 y4 (by decide)
          have br1 := brt_bounds 1099511627776 y5 (by decide)
          have br2 := brt_bounds 1099511627776 y6 (by decide)
          have Hr : Hid (∀ w, Calls Tryz.prog 22 #[.agg #[.int .i64 y4, .int .i64 y5, .int .i64 y6], .int .i64 1099511627776] w fun e w' => e = .returned (.agg #[.int .i64 (brt 1099511627776 y4), .int .i64 (brt 1099511627776 y5), .int .i64 (brt 1099511627776 y6)]) ∧ Ext w w') := brvec_1099511627776 _ _ _
          generalize brt 1099511627776 y4 = r0 at *
          generalize brt 1099511627776 y5 = r1 at *
          generalize brt 1099511627776 y6 = r2 at *
          have HN : Hid (∀ w, Calls Tryz.prog 23 #[.int .i64 y7, .int .i64 1001] w fun e w' => e = .returned (.int .i64 (y7 % 18446744073709551616 % 1001)) ∧ w' = w) := within_1001 _
          have nb : 0 ≤ y7 % 18446744073709551616 % 1001 ∧ y7 % 18446744073709551616 % 1001 ≤ 1000 := by omega
          generalize y7 % 18446744073709551616 % 1001 = n7 at *
          obtain ⟨e0, e1, e2, e3, g0, g1, g2, g3, h0, h1, h2, h3, M0, S1, P1, O1, M1, M2, M3, C1⟩ := stays_told u0 u1 u2 u3 v0 v1 v2 n7 t0 t1 t2 r0 r1 r2 hO bv0 bv1 bv2 nb bt0 bt1 bt2 br0 br1 br2
          have M0 : Hid (∀ w, Calls Tryz.prog 7 #[.agg #[.int .i64 u0, .int .i64 u1, .int .i64 u2, .int .i64 u3]] w fun e w' => e = .returned (.bool true) ∧ Ext w w') := M0
          have S1 : Hid (∀ w, Calls Tryz.prog 12 #[.agg #[.int .i64 u0, .int .i64 u1, .int .i64 u2, .int .i64 u3], .agg #[.int .i64 v0, .int .i64 v1, .int .i64 v2], .int .i64 n7] w fun e w' => e = .returned (.tuple #[.agg #[.int .i64 e0, .int .i64 e1, .int .i64 e2, .int .i64 e3], .int .i64 0]) ∧ Ext w w') := S1
          have P1 : Hid (∀ w, Calls Tryz.prog 16 #[.agg #[.int .i64 e0, .int .i64 e1, .int .i64 e2, .int .i64 e3], .agg #[.int .i64 t0, .int .i64 t1, .int .i64 t2]] w fun e w' => e = .returned (.tuple #[.agg #[.int .i64 g0, .int .i64 g1, .int .i64 g2, .int .i64 g3], .int .i64 0]) ∧ Ext w w') := P1
          have O1 : Hid (∀ w, Calls Tryz.prog 17 #[.agg #[.int .i64 g0, .int .i64 g1, .int .i64 g2, .int .i64 g3], .agg #[.int .i64 r0, .int .i64 r1, .int .i64 r2]] w fun e w' => e = .returned (.tuple #[.agg #[.int .i64 h0, .int .i64 h1, .int .i64 h2, .int .i64 h3], .int .i64 0]) ∧ Ext w w') := O1
          have M1 : Hid (∀ w, Calls Tryz.prog 7 #[.agg #[.int .i64 e0, .int .i64 e1, .int .i64 e2, .int .i64 e3]] w fun e w' => e = .returned (.bool true) ∧ Ext w w') := M1
          have M2 : Hid (∀ w, Calls Tryz.prog 7 #[.agg #[.int .i64 g0, .int .i64 g1, .int .i64 g2, .int .i64 g3]] w fun e w' => e = .returned (.bool true) ∧ Ext w w') := M2
          have M3 : Hid (∀ w, Calls Tryz.prog 7 #[.agg #[.int .i64 h0, .int .i64 h1, .int .i64 h2, .int .i64 h3]] w fun e w' => e = .returned (.bool true) ∧ Ext w w') := M3
          have C1 : Hid (∀ w, Calls Tryz.prog 14 #[.agg #[.int .i64 h0, .int .i64 h1, .int .i64 h2, .int .i64 h3]] w fun e w' => e = .returned (.int .i64 0) ∧ Ext w w') := C1
          clear bv0 bv1 bv2 bt0 bt1 bt2 br0 br1 br2 hO nb
          have qf0 : wx2.cell? ⟨nf, 0, none⟩ = some (.int .i64 u0) := Ff.out.c 0 rfl
          have qf1 : wx2.cell? ⟨nf, 1, none⟩ = some (.int .i64 u1) := Ff.out.c 1 rfl
          have qf2 : wx2.cell? ⟨nf, 2, none⟩ = some (.int .i64 u2) := Ff.out.c 2 rfl
          have qf3 : wx2.cell? ⟨nf, 3, none⟩ = some (.int .i64 u3) := Ff.out.c 3 rfl
          go_upto_region 9 with (first | (go_at_call 7; refine (M0.out _).mono ?_; rintro e w6 ⟨rfl, x6⟩))
          have Fp : Hid (HV w6 np [.int .i64 y0, .int .i64 y1, .int .i64 y2, .int .i64 y3, .int .i64 y4, .int .i64 y5, .int .i64 y6, .int .i64 y7]) := Fp.out.ext x6
          have Ff : Hid (HV w6 nf [.int .i64 u0, .int .i64 u1, .int .i64 u2, .int .i64 u3]) := Ff.out.ext x6
          have FX : Hid (Ext w w6) := FX.out.trans x6
          clear qf0 qf1 qf2 qf3 x6 M0
          have qp4 : w6.cell? ⟨np, 4, none⟩ = some (.int .i64 y4) := Fp.out.c 4 rfl
          have qp5 : w6.cell? ⟨np, 5, none⟩ = some (.int .i64 y5) := Fp.out.c 5 rfl
          have qp6 : w6.cell? ⟨np, 6, none⟩ = some (.int .i64 y6) := Fp.out.c 6 rfl
          go_upto_region 10 with (first | (go_at_call 22; refine (Hv.out _).mono ?_; rintro e w7 ⟨rfl, x7⟩))
          have Fp : Hid (HV w7 np [.int .i64 y0, .int .i64 y1, .int .i64 y2, .int .i64 y3, .int .i64 y4, .int .i64 y5, .int .i64 y6, .int .i64 y7]) := Fp.out.ext x7
          have Ff : Hid (HV w7 nf [.int .i64 u0, .int .i64 u1, .int .i64 u2, .int .i64 u3]) := Ff.out.ext x7
          have FX : Hid (Ext w w7) := FX.out.trans x7
          clear qp4 qp5 qp6 x7 Hv
          have ltpv : np < w7.heap.size := Fp.out.1
          have ltfv : nf < w7.heap.size := Ff.out.1
          have Lv : Hid (w.heap.size ≤ w7.heap.size) := FX.out.size
          have Fp : Hid (HV (w7.alloc (.cells #[.int .i64 v0, .int .i64 v1, .int .i64 v2] 28)) np [.int .i64 y0, .int .i64 y1, .int .i64 y2, .int .i64 y3, .int .i64 y4, .int .i64 y5, .int .i64 y6, .int .i64 y7]) := Fp.out.alloc _
          have Ff : Hid (HV (w7.alloc (.cells #[.int .i64 v0, .int .i64 v1, .int .i64 v2] 28)) nf [.int .i64 u0, .int .i64 u1, .int .i64 u2, .int .i64 u3]) := Ff.out.alloc _
          have Fv : Hid (HV (w7.alloc (.cells #[.int .i64 v0, .int .i64 v1, .int .i64 v2] 28)) w7.heap.size [.int .i64 v0, .int .i64 v1, .int .i64 v2]) := hv_at rfl
          have FX : Hid (Ext w (w7.alloc (.cells #[.int .i64 v0, .int .i64 v1, .int .i64 v2] 28))) := FX.out.alloc _
          generalize (w7.alloc (.cells #[.int .i64 v0, .int .i64 v1, .int .i64 v2] 28)) = wx3 at *
          generalize w7.heap.size = nv at *
          go_cut [8, 9] from 14 to 100 (fun v8 v9 wx => ∃ g : Nat, v8 = .pointer (some ⟨g, 0, none⟩) ∧ v9 = .int .i64 0 ∧ Hid (wx3.heap.size ≤ g) ∧ Hid (HV wx g [.int .i64 e0, .int .i64 e1, .int .i64 e2, .int .i64 e3]) ∧ Hid (Ext wx3 wx))
          case first =>
            have qf0 : wx3.cell? ⟨nf, 0, none⟩ = some (.int .i64 u0) := Ff.out.c 0 rfl
            have qf1 : wx3.cell? ⟨nf, 1, none⟩ = some (.int .i64 u1) := Ff.out.c 1 rfl
            have qf2 : wx3.cell? ⟨nf, 2, none⟩ = some (.int .i64 u2) := Ff.out.c 2 rfl
            have qf3 : wx3.cell? ⟨nf, 3, none⟩ = some (.int .i64 u3) := Ff.out.c 3 rfl
            have bf : nf < wx3.heap.size := Ff.out.1
            have mf1 := Nat.ne_of_lt bf
            have mf2 := Nat.ne_of_gt bf
            have qv0 : wx3.cell? ⟨nv, 0, none⟩ = some (.int .i64 v0) := Fv.out.c 0 rfl
            have qv1 : wx3.cell? ⟨nv, 1, none⟩ = some (.int .i64 v1) := Fv.out.c 1 rfl
            have qv2 : wx3.cell? ⟨nv, 2, none⟩ = some (.int .i64 v2) := Fv.out.c 2 rfl
            have bv : nv < wx3.heap.size := Fv.out.1
            have mv1 := Nat.ne_of_lt bv
            have mv2 := Nat.ne_of_gt bv
            have qp7 : wx3.cell? ⟨np, 7, none⟩ = some (.int .i64 y7) := Fp.out.c 7 rfl
            have bp : np < wx3.heap.size := Fp.out.1
            have mp1 := Nat.ne_of_lt bp
            have mp2 := Nat.ne_of_gt bp
            go_region_held3 (fun w' => w'.cell? ⟨nf, 0, none⟩ = some (.int .i64 u0) ∧ w'.cell? ⟨nf, 1, none⟩ = some (.int .i64 u1) ∧ w'.cell? ⟨nf, 2, none⟩ = some (.int .i64 u2) ∧ w'.cell? ⟨nf, 3, none⟩ = some (.int .i64 u3) ∧ w'.cell? ⟨nv, 0, none⟩ = some (.int .i64 v0) ∧ w'.cell? ⟨nv, 1, none⟩ = some (.int .i64 v1) ∧ w'.cell? ⟨nv, 2, none⟩ = some (.int .i64 v2) ∧ w'.cell? ⟨np, 7, none⟩ = some (.int .i64 y7)) (first | (go_keep; done) | (refine ⟨?_, ?_, ?_, ?_, ?_, ?_, ?_, ?_⟩ <;> (rw [World.cell?_setCell_far _ _ _ _ (by dsimp only; omega), World.cell?_setCell_far _ _ _ _ (by dsimp only; omega), World.cell?_setCell_far _ _ _ _ (by dsimp only; omega), World.cell?_setCell_far _ _ _ _ (by dsimp only; omega)]; with_reducible assumption)) | skip) (first | (go_at_call 23; refine (HN.out _).mono ?_; rintro e wx ⟨rfl, hwx⟩; have hwy := hwx.symm; clear hwx; subst hwy) | (go_at_call 12; refine (S1.out _).mono ?_; rintro e wz0 ⟨rfl, y0⟩; have Y0 : Ext wx3 wz0 := Ext.trans (by repeat (first | with_reducible assumption | with_reducible exact Ext.refl _ | with_reducible refine Ext.drew ?_ | with_reducible refine Ext.drewN ?_ _ | with_reducible refine Ext.alloc ?_ _ | with_reducible refine Ext.set ?_ (by first | exact Nat.le_refl _ | (dsimp only; omega) | (simp; done)) _)) y0; have qf0u : wz0.cell? ⟨nf, 0, none⟩ = some (.int .i64 u0) := (Ff.out.ext Y0).c 0 rfl; have qf1u : wz0.cell? ⟨nf, 1, none⟩ = some (.int .i64 u1) := (Ff.out.ext Y0).c 1 rfl; have qf2u : wz0.cell? ⟨nf, 2, none⟩ = some (.int .i64 u2) := (Ff.out.ext Y0).c 2 rfl; have qf3u : wz0.cell? ⟨nf, 3, none⟩ = some (.int .i64 u3) := (Ff.out.ext Y0).c 3 rfl; have bfu : nf < wz0.heap.size := (Ff.out.ext Y0).1; have mf1u := Nat.ne_of_lt bfu; have mf2u := Nat.ne_of_gt bfu; have qv0u : wz0.cell? ⟨nv, 0, none⟩ = some (.int .i64 v0) := (Fv.out.ext Y0).c 0 rfl; have qv1u : wz0.cell? ⟨nv, 1, none⟩ = some (.int .i64 v1) := (Fv.out.ext Y0).c 1 rfl; have qv2u : wz0.cell? ⟨nv, 2, none⟩ = some (.int .i64 v2) := (Fv.out.ext Y0).c 2 rfl; have bvu : nv < wz0.heap.size := (Fv.out.ext Y0).1; have mv1u := Nat.ne_of_lt bvu; have mv2u := Nat.ne_of_gt bvu; have qp7u : wz0.cell? ⟨np, 7, none⟩ = some (.int .i64 y7) := (Fp.out.ext Y0).c 7 rfl; have bpu : np < wz0.heap.size := (Fp.out.ext Y0).1; have mp1u := Nat.ne_of_lt bpu; have mp2u := Nat.ne_of_gt bpu; (first | (have N : Hid (HV wz0 _ [.int .i64 0, .int .i64 0, .int .i64 0, .int .i64 0]) := N.out.ext y0) | (have N : Hid (HV wz0 _ [.int .i64 0, .int .i64 0, .int .i64 0, .int .i64 0]) := (hv_at rfl).ext y0) | (have N : Hid (HV wz0 _ [.int .i64 0, .int .i64 0, .int .i64 0, .int .i64 0]) := (HV.drew (hv_at rfl)).ext y0) | (have N : Hid (HV wz0 _ [.int .i64 0, .int .i64 0, .int .i64 0, .int .i64 0]) := (HV.alloc N.out _).ext y0) | skip); (first | (have n0 := N.out.c 0 rfl; have n1 := N.out.c 1 rfl; have n2 := N.out.c 2 rfl; have n3 := N.out.c 3 rfl; have f0 := N.out.f 0 rfl; have f1 := N.out.f 1 rfl; have f2 := N.out.f 2 rfl; have f3 := N.out.f 3 rfl) | skip)))
            all_goals
              go_wp2_with fail
              go_meet
              first | exact ⟨wz0.heap.size, rfl, rfl, Y0.size, hv_at rfl, Y0.alloc _⟩ | exact (have hg : wx3.heap.size ≤ wx3.heap.size := Nat.le_refl _; ⟨wx3.heap.size, rfl, rfl, Nat.le_refl _, ((((N.out.set 0 (.int .i64 e0)).set 1 (.int .i64 e1)).set 2 (.int .i64 e2)).set 3 (.int .i64 e3)), ((((Y0.set (p := ⟨_, 0, none⟩) hg _).set (p := ⟨_, 1, none⟩) hg _).set (p := ⟨_, 2, none⟩) hg _).set (p := ⟨_, 3, none⟩) hg _)⟩)
          case rest =>
            obtain ⟨ne, rfl, rfl, Le, Fe, hx⟩ := hcut
            have hx := hx.out
            have ltpe : np < ne := Nat.lt_of_lt_of_le Fp.out.1 Le.out
            have ltfe : nf < ne := Nat.lt_of_lt_of_le Ff.out.1 Le.out
            have ltve : nv < ne := Nat.lt_of_lt_of_le Fv.out.1 Le.out
            have Le : Hid (w.heap.size ≤ ne) := Nat.le_trans FX.out.size Le.out
            have Fp : Hid (HV wc np [.int .i64 y0, .int .i64 y1, .int .i64 y2, .int .i64 y3, .int .i64 y4, .int .i64 y5, .int .i64 y6, .int .i64 y7]) := Fp.out.ext hx
            have Ff : Hid (HV wc nf [.int .i64 u0, .int .i64 u1, .int .i64 u2, .int .i64 u3]) := Ff.out.ext hx
            have Fv : Hid (HV wc nv [.int .i64 v0, .int .i64 v1, .int .i64 v2]) := Fv.out.ext hx
            have FX : Hid (Ext w wc) := FX.out.trans hx
            clear hx
            generalize wc = wx4 at *
            clear HN S1 Ff Fv
            go_upto_region 11 with fail
            go_cut [10, 11] from 14 to 100 (fun v10 v11 wx => ∃ g : Nat, v10 = .pointer (some ⟨g, 0, none⟩) ∧ v11 = .int .i64 0 ∧ Hid (wx4.heap.size ≤ g) ∧ Hid (HV wx g [.int .i64 g0, .int .i64 g1, .int .i64 g2, .int .i64 g3]) ∧ Hid (Ext wx4 wx))
            case first =>
              have qe0 : wx4.cell? ⟨ne, 0, none⟩ = some (.int .i64 e0) := Fe.out.c 0 rfl
              have qe1 : wx4.cell? ⟨ne, 1, none⟩ = some (.int .i64 e1) := Fe.out.c 1 rfl
              have qe2 : wx4.cell? ⟨ne, 2, none⟩ = some (.int .i64 e2) := Fe.out.c 2 rfl
              have qe3 : wx4.cell? ⟨ne, 3, none⟩ = some (.int .i64 e3) := Fe.out.c 3 rfl
              have be : ne < wx4.heap.size := Fe.out.1
              have me1 := Nat.ne_of_lt be
              have me2 := Nat.ne_of_gt be
              have qp4 : wx4.cell? ⟨np, 4, none⟩ = some (.int .i64 y4) := Fp.out.c 4 rfl
              have qp5 : wx4.cell? ⟨np, 5, none⟩ = some (.int .i64 y5) := Fp.out.c 5 rfl
              have qp6 : wx4.cell? ⟨np, 6, none⟩ = some (.int .i64 y6) := Fp.out.c 6 rfl
              have bp : np < wx4.heap.size := Fp.out.1
              have mp1 := Nat.ne_of_lt bp
              have mp2 := Nat.ne_of_gt bp
              go_region_held3 (fun w' => w'.cell? ⟨ne, 0, none⟩ = some (.int .i64 e0) ∧ w'.cell? ⟨ne, 1, none⟩ = some (.int .i64 e1) ∧ w'.cell? ⟨ne, 2, none⟩ = some (.int .i64 e2) ∧ w'.cell? ⟨ne, 3, none⟩ = some (.int .i64 e3) ∧ w'.cell? ⟨np, 4, none⟩ = some (.int .i64 y4) ∧ w'.cell? ⟨np, 5, none⟩ = some (.int .i64 y5) ∧ w'.cell? ⟨np, 6, none⟩ = some (.int .i64 y6)) (first | (go_keep; done) | (refine ⟨?_, ?_, ?_, ?_, ?_, ?_, ?_⟩ <;> (rw [World.cell?_setCell_far _ _ _ _ (by dsimp only; omega), World.cell?_setCell_far _ _ _ _ (by dsimp only; omega), World.cell?_setCell_far _ _ _ _ (by dsimp only; omega), World.cell?_setCell_far _ _ _ _ (by dsimp only; omega)]; with_reducible assumption)) | skip) (first | (go_at_call 22; refine (Ht.out _).mono ?_; rintro e wz0 ⟨rfl, y0⟩; have Y0 : Ext wx4 wz0 := Ext.trans (by repeat (first | with_reducible assumption | with_reducible exact Ext.refl _ | with_reducible refine Ext.drew ?_ | with_reducible refine Ext.drewN ?_ _ | with_reducible refine Ext.alloc ?_ _ | with_reducible refine Ext.set ?_ (by first | exact Nat.le_refl _ | (dsimp only; omega) | (simp; done)) _)) y0; have qe0u : wz0.cell? ⟨ne, 0, none⟩ = some (.int .i64 e0) := (Fe.out.ext Y0).c 0 rfl; have qe1u : wz0.cell? ⟨ne, 1, none⟩ = some (.int .i64 e1) := (Fe.out.ext Y0).c 1 rfl; have qe2u : wz0.cell? ⟨ne, 2, none⟩ = some (.int .i64 e2) := (Fe.out.ext Y0).c 2 rfl; have qe3u : wz0.cell? ⟨ne, 3, none⟩ = some (.int .i64 e3) := (Fe.out.ext Y0).c 3 rfl; have beu : ne < wz0.heap.size := (Fe.out.ext Y0).1; have me1u := Nat.ne_of_lt beu; have me2u := Nat.ne_of_gt beu; have qp4u : wz0.cell? ⟨np, 4, none⟩ = some (.int .i64 y4) := (Fp.out.ext Y0).c 4 rfl; have qp5u : wz0.cell? ⟨np, 5, none⟩ = some (.int .i64 y5) := (Fp.out.ext Y0).c 5 rfl; have qp6u : wz0.cell? ⟨np, 6, none⟩ = some (.int .i64 y6) := (Fp.out.ext Y0).c 6 rfl; have bpu : np < wz0.heap.size := (Fp.out.ext Y0).1; have mp1u := Nat.ne_of_lt bpu; have mp2u := Nat.ne_of_gt bpu; (first | (have N : Hid (HV wz0 _ [.int .i64 0, .int .i64 0, .int .i64 0, .int .i64 0]) := N.out.ext y0) | (have N : Hid (HV wz0 _ [.int .i64 0, .int .i64 0, .int .i64 0, .int .i64 0]) := (hv_at rfl).ext y0) | (have N : Hid (HV wz0 _ [.int .i64 0, .int .i64 0, .int .i64 0, .int .i64 0]) := (HV.drew (hv_at rfl)).ext y0) | (have N : Hid (HV wz0 _ [.int .i64 0, .int .i64 0, .int .i64 0, .int .i64 0]) := (HV.alloc N.out _).ext y0) | skip)) | (go_at_call 16; refine (P1.out _).mono ?_; rintro e wz1 ⟨rfl, y1⟩; have Y1 : Ext wx4 wz1 := Ext.trans (by repeat (first | with_reducible assumption | with_reducible exact Ext.refl _ | with_reducible refine Ext.drew ?_ | with_reducible refine Ext.drewN ?_ _ | with_reducible refine Ext.alloc ?_ _ | with_reducible refine Ext.set ?_ (by first | exact Nat.le_refl _ | (dsimp only; omega) | (simp; done)) _)) y1; have qe0u : wz1.cell? ⟨ne, 0, none⟩ = some (.int .i64 e0) := (Fe.out.ext Y1).c 0 rfl; have qe1u : wz1.cell? ⟨ne, 1, none⟩ = some (.int .i64 e1) := (Fe.out.ext Y1).c 1 rfl; have qe2u : wz1.cell? ⟨ne, 2, none⟩ = some (.int .i64 e2) := (Fe.out.ext Y1).c 2 rfl; have qe3u : wz1.cell? ⟨ne, 3, none⟩ = some (.int .i64 e3) := (Fe.out.ext Y1).c 3 rfl; have beu : ne < wz1.heap.size := (Fe.out.ext Y1).1; have me1u := Nat.ne_of_lt beu; have me2u := Nat.ne_of_gt beu; have qp4u : wz1.cell? ⟨np, 4, none⟩ = some (.int .i64 y4) := (Fp.out.ext Y1).c 4 rfl; have qp5u : wz1.cell? ⟨np, 5, none⟩ = some (.int .i64 y5) := (Fp.out.ext Y1).c 5 rfl; have qp6u : wz1.cell? ⟨np, 6, none⟩ = some (.int .i64 y6) := (Fp.out.ext Y1).c 6 rfl; have bpu : np < wz1.heap.size := (Fp.out.ext Y1).1; have mp1u := Nat.ne_of_lt bpu; have mp2u := Nat.ne_of_gt bpu; (first | (have N : Hid (HV wz1 _ [.int .i64 0, .int .i64 0, .int .i64 0, .int .i64 0]) := N.out.ext y1) | (have N : Hid (HV wz1 _ [.int .i64 0, .int .i64 0, .int .i64 0, .int .i64 0]) := (hv_at rfl).ext y1) | (have N : Hid (HV wz1 _ [.int .i64 0, .int .i64 0, .int .i64 0, .int .i64 0]) := (HV.drew (hv_at rfl)).ext y1) | (have N : Hid (HV wz1 _ [.int .i64 0, .int .i64 0, .int .i64 0, .int .i64 0]) := (HV.alloc N.out _).ext y1) | skip); (first | (have n0 := N.out.c 0 rfl; have n1 := N.out.c 1 rfl; have n2 := N.out.c 2 rfl; have n3 := N.out.c 3 rfl; have f0 := N.out.f 0 rfl; have f1 := N.out.f 1 rfl; have f2 := N.out.f 2 rfl; have f3 := N.out.f 3 rfl) | skip)))
              all_goals
                go_wp2_with fail
                go_meet
                first | exact ⟨wz1.heap.size, rfl, rfl, Y1.size, hv_at rfl, Y1.alloc _⟩ | exact (have hg : wx4.heap.size ≤ wx4.heap.size := Nat.le_refl _; ⟨wx4.heap.size, rfl, rfl, Nat.le_refl _, ((((N.out.set 0 (.int .i64 g0)).set 1 (.int .i64 g1)).set 2 (.int .i64 g2)).set 3 (.int .i64 g3)), ((((Y1.set (p := ⟨_, 0, none⟩) hg _).set (p := ⟨_, 1, none⟩) hg _).set (p := ⟨_, 2, none⟩) hg _).set (p := ⟨_, 3, none⟩) hg _)⟩) | exact (have hg : wx4.heap.size ≤ wz0.heap.size := Y0.size; ⟨wz0.heap.size, rfl, rfl, hg, ((((N.out.set 0 (.int .i64 g0)).set 1 (.int .i64 g1)).set 2 (.int .i64 g2)).set 3 (.int .i64 g3)), ((((Y1.set (p := ⟨_, 0, none⟩) hg _).set (p := ⟨_, 1, none⟩) hg _).set (p := ⟨_, 2, none⟩) hg _).set (p := ⟨_, 3, none⟩) hg _)⟩)
            case rest =>
              obtain ⟨ng, rfl, rfl, Lg, Fg, hx⟩ := hcut
              have hx := hx.out
              have ltpg : np < ng := Nat.lt_of_lt_of_le Fp.out.1 Lg.out
              have lteg : ne < ng := Nat.lt_of_lt_of_le Fe.out.1 Lg.out
              have Lg : Hid (w.heap.size ≤ ng) := Nat.le_trans FX.out.size Lg.out
              have Fp : Hid (HV wc np [.int .i64 y0, .int .i64 y1, .int .i64 y2, .int .i64 y3, .int .i64 y4, .int .i64 y5, .int .i64 y6, .int .i64 y7]) := Fp.out.ext hx
              have Fe : Hid (HV wc ne [.int .i64 e0, .int .i64 e1, .int .i64 e2, .int .i64 e3]) := Fe.out.ext hx
              have FX : Hid (Ext w wc) := FX.out.trans hx
              clear hx
              generalize wc = wx5 at *
              clear Ht P1
              go_upto_region 12 with fail
              go_cut [12, 13] from 14 to 100 (fun v12 v13 wx => ∃ g : Nat, v12 = .pointer (some ⟨g, 0, none⟩) ∧ v13 = .int .i64 0 ∧ Hid (wx5.heap.size ≤ g) ∧ Hid (HV wx g [.int .i64 h0, .int .i64 h1, .int .i64 h2, .int .i64 h3]) ∧ Hid (Ext wx5 wx))
              case first =>
                have qg0 : wx5.cell? ⟨ng, 0, none⟩ = some (.int .i64 g0) := Fg.out.c 0 rfl
                have qg1 : wx5.cell? ⟨ng, 1, none⟩ = some (.int .i64 g1) := Fg.out.c 1 rfl
                have qg2 : wx5.cell? ⟨ng, 2, none⟩ = some (.int .i64 g2) := Fg.out.c 2 rfl
                have qg3 : wx5.cell? ⟨ng, 3, none⟩ = some (.int .i64 g3) := Fg.out.c 3 rfl
                have bg : ng < wx5.heap.size := Fg.out.1
                have mg1 := Nat.ne_of_lt bg
                have mg2 := Nat.ne_of_gt bg
                have qp4 : wx5.cell? ⟨np, 4, none⟩ = some (.int .i64 y4) := Fp.out.c 4 rfl
                have qp5 : wx5.cell? ⟨np, 5, none⟩ = some (.int .i64 y5) := Fp.out.c 5 rfl
                have qp6 : wx5.cell? ⟨np, 6, none⟩ = some (.int .i64 y6) := Fp.out.c 6 rfl
                have bp : np < wx5.heap.size := Fp.out.1
                have mp1 := Nat.ne_of_lt bp
                have mp2 := Nat.ne_of_gt bp
                go_region_held3 (fun w' => w'.cell? ⟨ng, 0, none⟩ = some (.int .i64 g0) ∧ w'.cell? ⟨ng, 1, none⟩ = some (.int .i64 g1) ∧ w'.cell? ⟨ng, 2, none⟩ = some (.int .i64 g2) ∧ w'.cell? ⟨ng, 3, none⟩ = some (.int .i64 g3) ∧ w'.cell? ⟨np, 4, none⟩ = some (.int .i64 y4) ∧ w'.cell? ⟨np, 5, none⟩ = some (.int .i64 y5) ∧ w'.cell? ⟨np, 6, none⟩ = some (.int .i64 y6)) (first | (go_keep; done) | (refine ⟨?_, ?_, ?_, ?_, ?_, ?_, ?_⟩ <;> (rw [World.cell?_setCell_far _ _ _ _ (by dsimp only; omega), World.cell?_setCell_far _ _ _ _ (by dsimp only; omega), World.cell?_setCell_far _ _ _ _ (by dsimp only; omega), World.cell?_setCell_far _ _ _ _ (by dsimp only; omega)]; with_reducible assumption)) | skip) (first | (go_at_call 22; refine (Hr.out _).mono ?_; rintro e wz0 ⟨rfl, y0⟩; have Y0 : Ext wx5 wz0 := Ext.trans (by repeat (first | with_reducible assumption | with_reducible exact Ext.refl _ | with_reducible refine Ext.drew ?_ | with_reducible refine Ext.drewN ?_ _ | with_reducible refine Ext.alloc ?_ _ | with_reducible refine Ext.set ?_ (by first | exact Nat.le_refl _ | (dsimp only; omega) | (simp; done)) _)) y0; have qg0u : wz0.cell? ⟨ng, 0, none⟩ = some (.int .i64 g0) := (Fg.out.ext Y0).c 0 rfl; have qg1u : wz0.cell? ⟨ng, 1, none⟩ = some (.int .i64 g1) := (Fg.out.ext Y0).c 1 rfl; have qg2u : wz0.cell? ⟨ng, 2, none⟩ = some (.int .i64 g2) := (Fg.out.ext Y0).c 2 rfl; have qg3u : wz0.cell? ⟨ng, 3, none⟩ = some (.int .i64 g3) := (Fg.out.ext Y0).c 3 rfl; have bgu : ng < wz0.heap.size := (Fg.out.ext Y0).1; have mg1u := Nat.ne_of_lt bgu; have mg2u := Nat.ne_of_gt bgu; have qp4u : wz0.cell? ⟨np, 4, none⟩ = some (.int .i64 y4) := (Fp.out.ext Y0).c 4 rfl; have qp5u : wz0.cell? ⟨np, 5, none⟩ = some (.int .i64 y5) := (Fp.out.ext Y0).c 5 rfl; have qp6u : wz0.cell? ⟨np, 6, none⟩ = some (.int .i64 y6) := (Fp.out.ext Y0).c 6 rfl; have bpu : np < wz0.heap.size := (Fp.out.ext Y0).1; have mp1u := Nat.ne_of_lt bpu; have mp2u := Nat.ne_of_gt bpu; (first | (have N : Hid (HV wz0 _ [.int .i64 0, .int .i64 0, .int .i64 0, .int .i64 0]) := N.out.ext y0) | (have N : Hid (HV wz0 _ [.int .i64 0, .int .i64 0, .int .i64 0, .int .i64 0]) := (hv_at rfl).ext y0) | (have N : Hid (HV wz0 _ [.int .i64 0, .int .i64 0, .int .i64 0, .int .i64 0]) := (HV.drew (hv_at rfl)).ext y0) | (have N : Hid (HV wz0 _ [.int .i64 0, .int .i64 0, .int .i64 0, .int .i64 0]) := (HV.alloc N.out _).ext y0) | skip)) | (go_at_call 17; refine (O1.out _).mono ?_; rintro e wz1 ⟨rfl, y1⟩; have Y1 : Ext wx5 wz1 := Ext.trans (by repeat (first | with_reducible assumption | with_reducible exact Ext.refl _ | with_reducible refine Ext.drew ?_ | with_reducible refine Ext.drewN ?_ _ | with_reducible refine Ext.alloc ?_ _ | with_reducible refine Ext.set ?_ (by first | exact Nat.le_refl _ | (dsimp only; omega) | (simp; done)) _)) y1; have qg0u : wz1.cell? ⟨ng, 0, none⟩ = some (.int .i64 g0) := (Fg.out.ext Y1).c 0 rfl; have qg1u : wz1.cell? ⟨ng, 1, none⟩ = some (.int .i64 g1) := (Fg.out.ext Y1).c 1 rfl; have qg2u : wz1.cell? ⟨ng, 2, none⟩ = some (.int .i64 g2) := (Fg.out.ext Y1).c 2 rfl; have qg3u : wz1.cell? ⟨ng, 3, none⟩ = some (.int .i64 g3) := (Fg.out.ext Y1).c 3 rfl; have bgu : ng < wz1.heap.size := (Fg.out.ext Y1).1; have mg1u := Nat.ne_of_lt bgu; have mg2u := Nat.ne_of_gt bgu; have qp4u : wz1.cell? ⟨np, 4, none⟩ = some (.int .i64 y4) := (Fp.out.ext Y1).c 4 rfl; have qp5u : wz1.cell? ⟨np, 5, none⟩ = some (.int .i64 y5) := (Fp.out.ext Y1).c 5 rfl; have qp6u : wz1.cell? ⟨np, 6, none⟩ = some (.int .i64 y6) := (Fp.out.ext Y1).c 6 rfl; have bpu : np < wz1.heap.size := (Fp.out.ext Y1).1; have mp1u := Nat.ne_of_lt bpu; have mp2u := Nat.ne_of_gt bpu; (first | (have N : Hid (HV wz1 _ [.int .i64 0, .int .i64 0, .int .i64 0, .int .i64 0]) := N.out.ext y1) | (have N : Hid (HV wz1 _ [.int .i64 0, .int .i64 0, .int .i64 0, .int .i64 0]) := (hv_at rfl).ext y1) | (have N : Hid (HV wz1 _ [.int .i64 0, .int .i64 0, .int .i64 0, .int .i64 0]) := (HV.drew (hv_at rfl)).ext y1) | (have N : Hid (HV wz1 _ [.int .i64 0, .int .i64 0, .int .i64 0, .int .i64 0]) := (HV.alloc N.out _).ext y1) | skip); (first | (have n0 := N.out.c 0 rfl; have n1 := N.out.c 1 rfl; have n2 := N.out.c 2 rfl; have n3 := N.out.c 3 rfl; have f0 := N.out.f 0 rfl; have f1 := N.out.f 1 rfl; have f2 := N.out.f 2 rfl; have f3 := N.out.f 3 rfl) | skip)))
                all_goals
                  go_wp2_with fail
                  go_meet
                  first | exact ⟨wz1.heap.size, rfl, rfl, Y1.size, hv_at rfl, Y1.alloc _⟩ | exact (have hg : wx5.heap.size ≤ wx5.heap.size := Nat.le_refl _; ⟨wx5.heap.size, rfl, rfl, Nat.le_refl _, ((((N.out.set 0 (.int .i64 h0)).set 1 (.int .i64 h1)).set 2 (.int .i64 h2)).set 3 (.int .i64 h3)), ((((Y1.set (p := ⟨_, 0, none⟩) hg _).set (p := ⟨_, 1, none⟩) hg _).set (p := ⟨_, 2, none⟩) hg _).set (p := ⟨_, 3, none⟩) hg _)⟩) | exact (have hg : wx5.heap.size ≤ wz0.heap.size := Y0.size; ⟨wz0.heap.size, rfl, rfl, hg, ((((N.out.set 0 (.int .i64 h0)).set 1 (.int .i64 h1)).set 2 (.int .i64 h2)).set 3 (.int .i64 h3)), ((((Y1.set (p := ⟨_, 0, none⟩) hg _).set (p := ⟨_, 1, none⟩) hg _).set (p := ⟨_, 2, none⟩) hg _).set (p := ⟨_, 3, none⟩) hg _)⟩)
              case rest =>
                obtain ⟨nh, rfl, rfl, Lh, Fh, hx⟩ := hcut
                have hx := hx.out
                have ltph : np < nh := Nat.lt_of_lt_of_le Fp.out.1 Lh.out
                have lteh : ne < nh := Nat.lt_of_lt_of_le Fe.out.1 Lh.out
                have ltgh : ng < nh := Nat.lt_of_lt_of_le Fg.out.1 Lh.out
                have Lh : Hid (w.heap.size ≤ nh) := Nat.le_trans FX.out.size Lh.out
                have Fp : Hid (HV wc np [.int .i64 y0, .int .i64 y1, .int .i64 y2, .int .i64 y3, .int .i64 y4, .int .i64 y5, .int .i64 y6, .int .i64 y7]) := Fp.out.ext hx
                have Fe : Hid (HV wc ne [.int .i64 e0, .int .i64 e1, .int .i64 e2, .int .i64 e3]) := Fe.out.ext hx
                have Fg : Hid (HV wc ng [.int .i64 g0, .int .i64 g1, .int .i64 g2, .int .i64 g3]) := Fg.out.ext hx
                have FX : Hid (Ext w wc) := FX.out.trans hx
                clear hx
                generalize wc = wx6 at *
                clear Hr O1 Fp
                have qe0 : wx6.cell? ⟨ne, 0, none⟩ = some (.int .i64 e0) := Fe.out.c 0 rfl
                have qe1 : wx6.cell? ⟨ne, 1, none⟩ = some (.int .i64 e1) := Fe.out.c 1 rfl
                have qe2 : wx6.cell? ⟨ne, 2, none⟩ = some (.int .i64 e2) := Fe.out.c 2 rfl
                have qe3 : wx6.cell? ⟨ne, 3, none⟩ = some (.int .i64 e3) := Fe.out.c 3 rfl
                have qg0 : wx6.cell? ⟨ng, 0, none⟩ = some (.int .i64 g0) := Fg.out.c 0 rfl
                have qg1 : wx6.cell? ⟨ng, 1, none⟩ = some (.int .i64 g1) := Fg.out.c 1 rfl
                have qg2 : wx6.cell? ⟨ng, 2, none⟩ = some (.int .i64 g2) := Fg.out.c 2 rfl
                have qg3 : wx6.cell? ⟨ng, 3, none⟩ = some (.int .i64 g3) := Fg.out.c 3 rfl
                have qh0 : wx6.cell? ⟨nh, 0, none⟩ = some (.int .i64 h0) := Fh.out.c 0 rfl
                have qh1 : wx6.cell? ⟨nh, 1, none⟩ = some (.int .i64 h1) := Fh.out.c 1 rfl
                have qh2 : wx6.cell? ⟨nh, 2, none⟩ = some (.int .i64 h2) := Fh.out.c 2 rfl
                have qh3 : wx6.cell? ⟨nh, 3, none⟩ = some (.int .i64 h3) := Fh.out.c 3 rfl
                go_wp2_with (first | (go_at_call 13; refine (num15_any _ _).mono ?_; rintro e wx ⟨rfl, hwx⟩; have hwy := hwx.symm; clear hwx; subst hwy) | (go_at_call_of 7 (Value.agg #[Value.int IntKind.i64 e0, Value.int IntKind.i64 e1, Value.int IntKind.i64 e2, Value.int IntKind.i64 e3]); refine (M1.out _).mono ?_; rintro e wa1 ⟨rfl, xa1⟩; have Fe : Hid (HV wa1 ne [.int .i64 e0, .int .i64 e1, .int .i64 e2, .int .i64 e3]) := Fe.out.ext xa1; have qe0 : wa1.cell? ⟨ne, 0, none⟩ = some (.int .i64 e0) := Fe.out.c 0 rfl; have qe1 : wa1.cell? ⟨ne, 1, none⟩ = some (.int .i64 e1) := Fe.out.c 1 rfl; have qe2 : wa1.cell? ⟨ne, 2, none⟩ = some (.int .i64 e2) := Fe.out.c 2 rfl; have qe3 : wa1.cell? ⟨ne, 3, none⟩ = some (.int .i64 e3) := Fe.out.c 3 rfl; have Fg : Hid (HV wa1 ng [.int .i64 g0, .int .i64 g1, .int .i64 g2, .int .i64 g3]) := Fg.out.ext xa1; have qg0 : wa1.cell? ⟨ng, 0, none⟩ = some (.int .i64 g0) := Fg.out.c 0 rfl; have qg1 : wa1.cell? ⟨ng, 1, none⟩ = some (.int .i64 g1) := Fg.out.c 1 rfl; have qg2 : wa1.cell? ⟨ng, 2, none⟩ = some (.int .i64 g2) := Fg.out.c 2 rfl; have qg3 : wa1.cell? ⟨ng, 3, none⟩ = some (.int .i64 g3) := Fg.out.c 3 rfl; have Fh : Hid (HV wa1 nh [.int .i64 h0, .int .i64 h1, .int .i64 h2, .int .i64 h3]) := Fh.out.ext xa1; have qh0 : wa1.cell? ⟨nh, 0, none⟩ = some (.int .i64 h0) := Fh.out.c 0 rfl; have qh1 : wa1.cell? ⟨nh, 1, none⟩ = some (.int .i64 h1) := Fh.out.c 1 rfl; have qh2 : wa1.cell? ⟨nh, 2, none⟩ = some (.int .i64 h2) := Fh.out.c 2 rfl; have qh3 : wa1.cell? ⟨nh, 3, none⟩ = some (.int .i64 h3) := Fh.out.c 3 rfl; have FX : Hid (Ext w wa1) := FX.out.trans xa1) | (go_at_call_of 7 (Value.agg #[Value.int IntKind.i64 g0, Value.int IntKind.i64 g1, Value.int IntKind.i64 g2, Value.int IntKind.i64 g3]); refine (M2.out _).mono ?_; rintro e wa2 ⟨rfl, xa2⟩; have Fe : Hid (HV wa2 ne [.int .i64 e0, .int .i64 e1, .int .i64 e2, .int .i64 e3]) := Fe.out.ext xa2; have qe0 : wa2.cell? ⟨ne, 0, none⟩ = some (.int .i64 e0) := Fe.out.c 0 rfl; have qe1 : wa2.cell? ⟨ne, 1, none⟩ = some (.int .i64 e1) := Fe.out.c 1 rfl; have qe2 : wa2.cell? ⟨ne, 2, none⟩ = some (.int .i64 e2) := Fe.out.c 2 rfl; have qe3 : wa2.cell? ⟨ne, 3, none⟩ = some (.int .i64 e3) := Fe.out.c 3 rfl; have Fg : Hid (HV wa2 ng [.int .i64 g0, .int .i64 g1, .int .i64 g2, .int .i64 g3]) := Fg.out.ext xa2; have qg0 : wa2.cell? ⟨ng, 0, none⟩ = some (.int .i64 g0) := Fg.out.c 0 rfl; have qg1 : wa2.cell? ⟨ng, 1, none⟩ = some (.int .i64 g1) := Fg.out.c 1 rfl; have qg2 : wa2.cell? ⟨ng, 2, none⟩ = some (.int .i64 g2) := Fg.out.c 2 rfl; have qg3 : wa2.cell? ⟨ng, 3, none⟩ = some (.int .i64 g3) := Fg.out.c 3 rfl; have Fh : Hid (HV wa2 nh [.int .i64 h0, .int .i64 h1, .int .i64 h2, .int .i64 h3]) := Fh.out.ext xa2; have qh0 : wa2.cell? ⟨nh, 0, none⟩ = some (.int .i64 h0) := Fh.out.c 0 rfl; have qh1 : wa2.cell? ⟨nh, 1, none⟩ = some (.int .i64 h1) := Fh.out.c 1 rfl; have qh2 : wa2.cell? ⟨nh, 2, none⟩ = some (.int .i64 h2) := Fh.out.c 2 rfl; have qh3 : wa2.cell? ⟨nh, 3, none⟩ = some (.int .i64 h3) := Fh.out.c 3 rfl; have FX : Hid (Ext w wa2) := FX.out.trans xa2) | (go_at_call_of 7 (Value.agg #[Value.int IntKind.i64 h0, Value.int IntKind.i64 h1, Value.int IntKind.i64 h2, Value.int IntKind.i64 h3]); refine (M3.out _).mono ?_; rintro e wa3 ⟨rfl, xa3⟩; have Fe : Hid (HV wa3 ne [.int .i64 e0, .int .i64 e1, .int .i64 e2, .int .i64 e3]) := Fe.out.ext xa3; have qe0 : wa3.cell? ⟨ne, 0, none⟩ = some (.int .i64 e0) := Fe.out.c 0 rfl; have qe1 : wa3.cell? ⟨ne, 1, none⟩ = some (.int .i64 e1) := Fe.out.c 1 rfl; have qe2 : wa3.cell? ⟨ne, 2, none⟩ = some (.int .i64 e2) := Fe.out.c 2 rfl; have qe3 : wa3.cell? ⟨ne, 3, none⟩ = some (.int .i64 e3) := Fe.out.c 3 rfl; have Fg : Hid (HV wa3 ng [.int .i64 g0, .int .i64 g1, .int .i64 g2, .int .i64 g3]) := Fg.out.ext xa3; have qg0 : wa3.cell? ⟨ng, 0, none⟩ = some (.int .i64 g0) := Fg.out.c 0 rfl; have qg1 : wa3.cell? ⟨ng, 1, none⟩ = some (.int .i64 g1) := Fg.out.c 1 rfl; have qg2 : wa3.cell? ⟨ng, 2, none⟩ = some (.int .i64 g2) := Fg.out.c 2 rfl; have qg3 : wa3.cell? ⟨ng, 3, none⟩ = some (.int .i64 g3) := Fg.out.c 3 rfl; have Fh : Hid (HV wa3 nh [.int .i64 h0, .int .i64 h1, .int .i64 h2, .int .i64 h3]) := Fh.out.ext xa3; have qh0 : wa3.cell? ⟨nh, 0, none⟩ = some (.int .i64 h0) := Fh.out.c 0 rfl; have qh1 : wa3.cell? ⟨nh, 1, none⟩ = some (.int .i64 h1) := Fh.out.c 1 rfl; have qh2 : wa3.cell? ⟨nh, 2, none⟩ = some (.int .i64 h2) := Fh.out.c 2 rfl; have qh3 : wa3.cell? ⟨nh, 3, none⟩ = some (.int .i64 h3) := Fh.out.c 3 rfl; have FX : Hid (Ext w wa3) := FX.out.trans xa3) | (go_at_call 14; refine (C1.out _).mono ?_; rintro e wa4 ⟨rfl, xa4⟩; have Fe : Hid (HV wa4 ne [.int .i64 e0, .int .i64 e1, .int .i64 e2, .int .i64 e3]) := Fe.out.ext xa4; have qe0 : wa4.cell? ⟨ne, 0, none⟩ = some (.int .i64 e0) := Fe.out.c 0 rfl; have qe1 : wa4.cell? ⟨ne, 1, none⟩ = some (.int .i64 e1) := Fe.out.c 1 rfl; have qe2 : wa4.cell? ⟨ne, 2, none⟩ = some (.int .i64 e2) := Fe.out.c 2 rfl; have qe3 : wa4.cell? ⟨ne, 3, none⟩ = some (.int .i64 e3) := Fe.out.c 3 rfl; have Fg : Hid (HV wa4 ng [.int .i64 g0, .int .i64 g1, .int .i64 g2, .int .i64 g3]) := Fg.out.ext xa4; have qg0 : wa4.cell? ⟨ng, 0, none⟩ = some (.int .i64 g0) := Fg.out.c 0 rfl; have qg1 : wa4.cell? ⟨ng, 1, none⟩ = some (.int .i64 g1) := Fg.out.c 1 rfl; have qg2 : wa4.cell? ⟨ng, 2, none⟩ = some (.int .i64 g2) := Fg.out.c 2 rfl; have qg3 : wa4.cell? ⟨ng, 3, none⟩ = some (.int .i64 g3) := Fg.out.c 3 rfl; have Fh : Hid (HV wa4 nh [.int .i64 h0, .int .i64 h1, .int .i64 h2, .int .i64 h3]) := Fh.out.ext xa4; have qh0 : wa4.cell? ⟨nh, 0, none⟩ = some (.int .i64 h0) := Fh.out.c 0 rfl; have qh1 : wa4.cell? ⟨nh, 1, none⟩ = some (.int .i64 h1) := Fh.out.c 1 rfl; have qh2 : wa4.cell? ⟨nh, 2, none⟩ = some (.int .i64 h2) := Fh.out.c 2 rfl; have qh3 : wa4.cell? ⟨nh, 3, none⟩ = some (.int .i64 h3) := Fh.out.c 3 rfl; have FX : Hid (Ext w wa4) := FX.out.trans xa4))
                go_roundw
                case rel => exact ⟨k + 1, by omega, by go_num, FX⟩
                case measure => simp [intOf]; omega
      · go_wp2_with fail
        refine (wakes15_any _).mono ?_
        rintro e w1 ⟨rfl, x1⟩
        have E1 : Ext w w1 := FX.out.trans x1
        go_wp2_with fail
        go_ret
        exact ⟨rfl, E1⟩
    · have hk' : k = len := by omega
      subst hk'
      go_wp2_with fail
      refine (wakes15_any _).mono ?_
      rintro e w1 ⟨rfl, x1⟩
      have E1 : Ext w w1 := FX.out.trans x1
      go_wp2_with fail
      go_ret
      exact ⟨rfl, E1⟩
set_option maxHeartbeats 4000000 in
theorem stays_none (a : Option Addr) (cap : Nat) (w : World) :
    Calls Tryz.prog 4 #[.slice a 0 cap] w fun e w' => e = .returned (.bool true) ∧ Ext w w' := by
  go_enter Tryz.func4, Tryz.ntmps4
  go_wp2_with fail
  go_loopw [3] (fun i wr => i = .int .i64 0 ∧ Hid (Ext w wr)) (fun _ _ => 0)
  case atStart => exact ⟨rfl, Ext.refl _⟩
  case round =>
    obtain ⟨rfl, FX⟩ := hrel
    go_wp2_with fail
    refine (wakes15_any _).mono ?_
    rintro e w1 ⟨rfl, x1⟩
    have E1 : Ext w w1 := FX.out.trans x1
    go_wp2_with fail
    go_ret
    exact ⟨rfl, E1⟩
end Go.Proofs.YtmbdcgijjpcppaaGreat
