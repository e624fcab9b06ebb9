/- QuatTurns: its walk. -/
import Derived.Test.YtfmalpnlencmbaaQTtm
import Derived.Deep.RegionHeld3
import Derived.Deep.Cut
import Derived.Deep.DeepCutAuto
namespace Go.Proofs.Ytfmalpnlencmbaa
open Go.RowKit Go.Shelf
theorem eqV4 (x y z a b c : Int) (w : World) : (Op.equalIn 10000 26 (.agg #[.int .i64 x, .int .i64 y, .int .i64 z]) (.agg #[.int .i64 a, .int .i64 b, .int .i64 c])).run Try.prog w = .ok (x == a && (y == b && z == c)) w := by
  by_cases hx : x = a <;> by_cases hy : y = b <;> by_cases hz : z = c <;> simp [go_sem, hx, hy, hz]
set_option maxRecDepth 20000 in
set_option maxHeartbeats 40000000 in
theorem turns_any (b off len cap : Nat) (Z : Nat → Nat → Int) (w : World) (hl : len ≤ maxLen) (hc : Twos4 w b off len Z) :
    Calls Try.prog 4 #[.slice (some ⟨b, off, none⟩) len cap] w fun e w' => e = .returned (.bool true) ∧ Ext w w' := by
  have hl' : len ≤ 9223372036854775807 := by unfold maxLen at hl; omega
  clear hl
  go_enter Try.func4, Try.ntmps4
  go_wp2_with fail
  go_loopw [3] (fun i wr => ∃ k : Nat, k ≤ len ∧ i = .int .i64 k ∧ Hid (Ext w wr)) (fun i _ => len - (intOf i).toNat)
  case atStart => exact ⟨0, Nat.zero_le _, rfl, Ext.refl _⟩
  case round =>
    obtain ⟨k, hk, rfl, FX⟩ := hrel
    by_cases hlt : k < len
    · by_cases h5 : k < 12
      · skip
        obtain ⟨c0, n0a, n0b⟩ := (hc.ext FX.out) k hlt 0 (by omega)
        obtain ⟨c1, n1a, n1b⟩ := (hc.ext FX.out) k hlt 1 (by omega)
        obtain ⟨c2, n2a, n2b⟩ := (hc.ext FX.out) k hlt 2 (by omega)
        obtain ⟨c3, n3a, n3b⟩ := (hc.ext FX.out) k hlt 3 (by omega)
        obtain ⟨c4, n4a, n4b⟩ := (hc.ext FX.out) k hlt 4 (by omega)
        obtain ⟨c5, n5a, n5b⟩ := (hc.ext FX.out) k hlt 5 (by omega)
        obtain ⟨c6, n6a, n6b⟩ := (hc.ext FX.out) k hlt 6 (by omega)
        obtain ⟨c7, n7a, n7b⟩ := (hc.ext FX.out) k hlt 7 (by omega)
        obtain ⟨c8, n8a, n8b⟩ := (hc.ext FX.out) k hlt 8 (by omega)
        obtain ⟨c9, n9a, n9b⟩ := (hc.ext FX.out) k hlt 9 (by omega)
        obtain ⟨c10, n10a, n10b⟩ := (hc.ext FX.out) k hlt 10 (by omega)
        obtain ⟨c11, n11a, n11b⟩ := (hc.ext FX.out) k hlt 11 (by omega)
        obtain ⟨c12, n12a, n12b⟩ := (hc.ext FX.out) k hlt 12 (by omega)
        obtain ⟨c13, n13a, n13b⟩ := (hc.ext FX.out) k hlt 13 (by omega)
        rw [Nat.add_zero] at c0
        have hlt' : (k : Int) < (len : Int) := by omega
        clear hc n0a n0b n1a n1b n2a n2b n3a n3b n4a n4b n5a n5b n6a n6b n7a n7b n8a n8b n9a n9b n10a n10b n11a n11b n12a n12b n13a n13b
        generalize Z k 0 = y0 at *
        generalize Z k 1 = y1 at *
        generalize Z k 2 = y2 at *
        generalize Z k 3 = y3 at *
        generalize Z k 4 = y4 at *
        generalize Z k 5 = y5 at *
        generalize Z k 6 = y6 at *
        generalize Z k 7 = y7 at *
        generalize Z k 8 = y8 at *
        generalize Z k 9 = y9 at *
        generalize Z k 10 = y10 at *
        generalize Z k 11 = y11 at *
        generalize Z k 12 = y12 at *
        generalize Z k 13 = y13 at *
        go_upto_region 5 with fail
        clear c0 c1 c2 c3 c4 c5 c6 c7 c8 c9 c10 c11 c12 c13
        have Lp : Hid (w.heap.size ≤ wr.heap.size) := FX.out.size
        have Fp : Hid (HV (wr.alloc (.cells #[.int .i64 y0, .int .i64 y1, .int .i64 y2, .int .i64 y3, .int .i64 y4, .int .i64 y5, .int .i64 y6, .int .i64 y7, .int .i64 y8, .int .i64 y9, .int .i64 y10, .int .i64 y11, .int .i64 y12, .int .i64 y13] 28)) wr.heap.size [.int .i64 y0, .int .i64 y1, .int .i64 y2, .int .i64 y3, .int .i64 y4, .int .i64 y5, .int .i64 y6, .int .i64 y7, .int .i64 y8, .int .i64 y9, .int .i64 y10, .int .i64 y11, .int .i64 y12, .int .i64 y13]) := hv_at rfl
        have FX : Hid (Ext w (wr.alloc (.cells #[.int .i64 y0, .int .i64 y1, .int .i64 y2, .int .i64 y3, .int .i64 y4, .int .i64 y5, .int .i64 y6, .int .i64 y7, .int .i64 y8, .int .i64 y9, .int .i64 y10, .int .i64 y11, .int .i64 y12, .int .i64 y13] 28))) := FX.out.alloc _
        generalize (wr.alloc (.cells #[.int .i64 y0, .int .i64 y1, .int .i64 y2, .int .i64 y3, .int .i64 y4, .int .i64 y5, .int .i64 y6, .int .i64 y7, .int .i64 y8, .int .i64 y9, .int .i64 y10, .int .i64 y11, .int .i64 y12, .int .i64 y13] 28)) = wx1 at *
        generalize wr.heap.size = np at *
        have HB0 : Hid (∀ w, Calls Try.prog 12 #[.int .i64 y0, .int .i64 2147483648] w fun e w' => e = .returned (.int .i64 (brt 2147483648 y0)) ∧ w' = w) := brought_2147483648 y0
        have hq0 : Hid (-2147483648 ≤ brt 2147483648 y0 ∧ brt 2147483648 y0 ≤ 2147483648) := brt_bounds 2147483648 y0 (by decide)
        have HB1 : Hid (∀ w, Calls Try.prog 12 #[.int .i64 y1, .int .i64 2147483648] w fun e w' => e = .returned (.int .i64 (brt 2147483648 y1)) ∧ w' = w) := brought_2147483648 y1
        have hq1 : Hid (-2147483648 ≤ brt 2147483648 y1 ∧ brt 2147483648 y1 ≤ 2147483648) := brt_bounds 2147483648 y1 (by decide)
        have HB2 : Hid (∀ w, Calls Try.prog 12 #[.int .i64 y2, .int .i64 2147483648] w fun e w' => e = .returned (.int .i64 (brt 2147483648 y2)) ∧ w' = w) := brought_2147483648 y2
        have hq2 : Hid (-2147483648 ≤ brt 2147483648 y2 ∧ brt 2147483648 y2 ≤ 2147483648) := brt_bounds 2147483648 y2 (by decide)
        have HB3 : Hid (∀ w, Calls Try.prog 12 #[.int .i64 y3, .int .i64 2147483648] w fun e w' => e = .returned (.int .i64 (brt 2147483648 y3)) ∧ w' = w) := brought_2147483648 y3
        have hq3 : Hid (-2147483648 ≤ brt 2147483648 y3 ∧ brt 2147483648 y3 ≤ 2147483648) := brt_bounds 2147483648 y3 (by decide)
        have Hv : Hid (∀ w, Calls Try.prog 13 #[.agg #[.int .i64 y8, .int .i64 y9, .int .i64 y10], .int .i64 2147483648] w fun e w' => e = .returned (.agg #[.int .i64 (brt 2147483648 y8), .int .i64 (brt 2147483648 y9), .int .i64 (brt 2147483648 y10)]) ∧ Ext w w') := brvec_2147483648 y8 y9 y10
        have hv0 : Hid (-2147483648 ≤ brt 2147483648 y8 ∧ brt 2147483648 y8 ≤ 2147483648) := brt_bounds 2147483648 y8 (by decide)
        have hv1 : Hid (-2147483648 ≤ brt 2147483648 y9 ∧ brt 2147483648 y9 ≤ 2147483648) := brt_bounds 2147483648 y9 (by decide)
        have hv2 : Hid (-2147483648 ≤ brt 2147483648 y10 ∧ brt 2147483648 y10 ≤ 2147483648) := brt_bounds 2147483648 y10 (by decide)
        have Hu : Hid (∀ w, Calls Try.prog 13 #[.agg #[.int .i64 y11, .int .i64 y12, .int .i64 y13], .int .i64 2147483648] w fun e w' => e = .returned (.agg #[.int .i64 (brt 2147483648 y11), .int .i64 (brt 2147483648 y12), .int .i64 (brt 2147483648 y13)]) ∧ Ext w w') := brvec_2147483648 y11 y12 y13
        have hu0 : Hid (-2147483648 ≤ brt 2147483648 y11 ∧ brt 2147483648 y11 ≤ 2147483648) := brt_bounds 2147483648 y11 (by decide)
        have hu1 : Hid (-2147483648 ≤ brt 2147483648 y12 ∧ brt 2147483648 y12 ≤ 2147483648) := brt_bounds 2147483648 y12 (by decide)
        have hu2 : Hid (-2147483648 ≤ brt 2147483648 y13 ∧ brt 2147483648 y13 ≤ 2147483648) := brt_bounds 2147483648 y13 (by decide)
        generalize brt 2147483648 y0 = q0 at *
        generalize brt 2147483648 y1 = q1 at *
        generalize brt 2147483648 y2 = q2 at *
        generalize brt 2147483648 y3 = q3 at *
        generalize brt 2147483648 y8 = v0 at *
        generalize brt 2147483648 y9 = v1 at *
        generalize brt 2147483648 y10 = v2 at *
        generalize brt 2147483648 y11 = r0 at *
        generalize brt 2147483648 y12 = r1 at *
        generalize brt 2147483648 y13 = r2 at *
        go_cut [5] from 24 to 190 (fun v5 wx => ∃ g : Nat, v5 = .pointer (some ⟨g, 0, none⟩) ∧ Hid (wx1.heap.size ≤ g) ∧ Hid (HV wx g [.int .i64 q0, .int .i64 q1, .int .i64 q2, .int .i64 q3]) ∧ Hid (Ext wx1 wx))
        case first =>
          have qp0 : wx1.cell? ⟨np, 0, none⟩ = some (.int .i64 y0) := Fp.out.c 0 rfl
          have qp1 : wx1.cell? ⟨np, 1, none⟩ = some (.int .i64 y1) := Fp.out.c 1 rfl
          have qp2 : wx1.cell? ⟨np, 2, none⟩ = some (.int .i64 y2) := Fp.out.c 2 rfl
          have qp3 : wx1.cell? ⟨np, 3, none⟩ = some (.int .i64 y3) := Fp.out.c 3 rfl
          have bp : np < wx1.heap.size := Fp.out.1
          have mp1 := Nat.ne_of_lt bp
          have mp2 := Nat.ne_of_gt bp
          go_region_held3 (fun w' => w'.cell? ⟨np, 0, none⟩ = some (.int .i64 y0) ∧ w'.cell? ⟨np, 1, none⟩ = some (.int .i64 y1) ∧ w'.cell? ⟨np, 2, none⟩ = some (.int .i64 y2) ∧ w'.cell? ⟨np, 3, none⟩ = some (.int .i64 y3)) (first | (go_keep; done) | (refine ⟨?_, ?_, ?_, ?_⟩ <;> (rw [World.cell?_setCell_far _ _ _ _ (by dsimp only; omega), World.cell?_setCell_far _ _ _ _ (by dsimp only; omega), World.cell?_setCell_far _ _ _ _ (by dsimp only; omega), World.cell?_setCell_far _ _ _ _ (by dsimp only; omega)]; with_reducible assumption)) | skip) (first | (go_at_call_of 12 (Value.int IntKind.i64 y0); refine (HB0.out _).mono ?_; rintro e wx ⟨rfl, hwx⟩; have hwy := hwx.symm; clear hwx; subst hwy) | (go_at_call_of 12 (Value.int IntKind.i64 y1); refine (HB1.out _).mono ?_; rintro e wx ⟨rfl, hwx⟩; have hwy := hwx.symm; clear hwx; subst hwy) | (go_at_call_of 12 (Value.int IntKind.i64 y2); refine (HB2.out _).mono ?_; rintro e wx ⟨rfl, hwx⟩; have hwy := hwx.symm; clear hwx; subst hwy) | (go_at_call_of 12 (Value.int IntKind.i64 y3); refine (HB3.out _).mono ?_; rintro e wx ⟨rfl, hwx⟩; have hwy := hwx.symm; clear hwx; subst hwy))
          all_goals
            go_wp2_with fail
            go_meet
            have hg : wx1.heap.size ≤ wx1.heap.size := Nat.le_refl _
            have hy : Ext wx1 (wx1.alloc (.cells #[.int .i64 q0, .int .i64 q1, .int .i64 q2, .int .i64 q3] 24)) := (Ext.refl wx1).alloc _
            first | exact ⟨wx1.heap.size, rfl, hg, hv_at rfl, hy⟩ | exact ⟨wx1.heap.size, rfl, hg, hv_at rfl, hy.drew⟩ | exact ⟨wx1.heap.size, rfl, hg, HV.drew (hv_at rfl), hy.drew⟩
        case rest =>
          obtain ⟨nq, rfl, Lq, Fq, hx⟩ := hcut
          have hx := hx.out
          have ltpq : np < nq := Nat.lt_of_lt_of_le Fp.out.1 Lq.out
          have Lq : Hid (w.heap.size ≤ nq) := Nat.le_trans FX.out.size Lq.out
          have Fp : Hid (HV wc np [.int .i64 y0, .int .i64 y1, .int .i64 y2, .int .i64 y3, .int .i64 y4, .int .i64 y5, .int .i64 y6, .int .i64 y7, .int .i64 y8, .int .i64 y9, .int .i64 y10, .int .i64 y11, .int .i64 y12, .int .i64 y13]) := Fp.out.ext hx
          have FX : Hid (Ext w wc) := FX.out.trans hx
          clear hx
          generalize wc = wx2 at *
          clear HB0 HB1 HB2 HB3
          have he := eqQ q0 q1 q2 q3 0 0 0 0
          have qq0 : wx2.cell? ⟨nq, 0, none⟩ = some (.int .i64 q0) := Fq.out.c 0 rfl
          have qq1 : wx2.cell? ⟨nq, 1, none⟩ = some (.int .i64 q1) := Fq.out.c 1 rfl
          have qq2 : wx2.cell? ⟨nq, 2, none⟩ = some (.int .i64 q2) := Fq.out.c 2 rfl
          have qq3 : wx2.cell? ⟨nq, 3, none⟩ = some (.int .i64 q3) := Fq.out.c 3 rfl
          cases hz : (q0 == 0 && (q1 == 0 && (q2 == 0 && q3 == 0)))
          · rw [hz] at he
            obtain ⟨X0, X1, X2, Y0, Y1, Y2, Z0, Z1, Z2, m, n, x, y, T1, T2, T3, NR, N1, N2, T4, D1, D2, EN, ED⟩ := turns_told q0 q1 q2 q3 v0 v1 v2 r0 r1 r2 hq0.out hq1.out hq2.out hq3.out hv0.out hv1.out hv2.out hu0.out hu1.out hu2.out (by rintro ⟨rfl, rfl, rfl, rfl⟩; exact absurd hz (by decide))
            have T1 : Hid ((∀ w, Calls Try.prog 14 #[.agg #[.int .i64 q0, .int .i64 q1, .int .i64 q2, .int .i64 q3], .agg #[.int .i64 v0, .int .i64 v1, .int .i64 v2]] w fun e w' => e = .returned (.tuple #[.agg #[.int .i64 X0, .int .i64 X1, .int .i64 X2], .int .i64 0]) ∧ Ext w w')) := T1
            have T2 : Hid ((∀ w, Calls Try.prog 15 #[.agg #[.int .i64 q0, .int .i64 q1, .int .i64 q2, .int .i64 q3], .agg #[.int .i64 X0, .int .i64 X1, .int .i64 X2]] w fun e w' => e = .returned (.tuple #[.agg #[.int .i64 Y0, .int .i64 Y1, .int .i64 Y2], .int .i64 0]) ∧ Ext w w')) := T2
            have T3 : Hid ((∀ w, Calls Try.prog 14 #[.agg #[.int .i64 (-2 * q0), .int .i64 (-2 * q1), .int .i64 (-2 * q2), .int .i64 (-2 * q3)], .agg #[.int .i64 v0, .int .i64 v1, .int .i64 v2]] w fun e w' => e = .returned (.tuple #[.agg #[.int .i64 X0, .int .i64 X1, .int .i64 X2], .int .i64 0]) ∧ Ext w w')) := T3
            have NR : Hid ((∀ w, Calls Try.prog 16 #[.agg #[.int .i64 Y0, .int .i64 Y1, .int .i64 Y2], .agg #[.int .i64 v0, .int .i64 v1, .int .i64 v2], .int .i64 2] w fun e w' => e = .returned (.bool true) ∧ Ext w w')) := NR
            have N1 : Hid ((∀ w, Calls Try.prog 17 #[.agg #[.int .i64 v0, .int .i64 v1, .int .i64 v2]] w fun e w' => e = .returned (.tuple #[.int .i64 m, .int .i64 0]) ∧ Ext w w')) := N1
            have N2 : Hid ((∀ w, Calls Try.prog 17 #[.agg #[.int .i64 X0, .int .i64 X1, .int .i64 X2]] w fun e w' => e = .returned (.tuple #[.int .i64 n, .int .i64 0]) ∧ Ext w w')) := N2
            have T4 : Hid ((∀ w, Calls Try.prog 14 #[.agg #[.int .i64 q0, .int .i64 q1, .int .i64 q2, .int .i64 q3], .agg #[.int .i64 r0, .int .i64 r1, .int .i64 r2]] w fun e w' => e = .returned (.tuple #[.agg #[.int .i64 Z0, .int .i64 Z1, .int .i64 Z2], .int .i64 0]) ∧ Ext w w')) := T4
            have D1 : Hid ((∀ w, Calls Try.prog 18 #[.agg #[.int .i64 v0, .int .i64 v1, .int .i64 v2], .agg #[.int .i64 r0, .int .i64 r1, .int .i64 r2]] w fun e w' => e = .returned (.tuple #[.int .i64 x, .int .i64 0]) ∧ Ext w w')) := D1
            have D2 : Hid ((∀ w, Calls Try.prog 18 #[.agg #[.int .i64 X0, .int .i64 X1, .int .i64 X2], .agg #[.int .i64 Z0, .int .i64 Z1, .int .i64 Z2]] w fun e w' => e = .returned (.tuple #[.int .i64 y, .int .i64 0]) ∧ Ext w w')) := D2
            have EN : Hid ((0 ≤ m ∧ m ≤ 8589934592 ∧ 0 ≤ n ∧ n ≤ 8589934592 ∧ m - n ≤ 2 ∧ n - m ≤ 2)) := EN
            have ED : Hid ((-1099511627776 ≤ x ∧ x ≤ 1099511627776 ∧ -1099511627776 ≤ y ∧ y ≤ 1099511627776 ∧ x - y ≤ 16 ∧ y - x ≤ 16)) := ED
            go_upto_region 7 with fail
            clear qq0 qq1 qq2 qq3 he hz
            have qp8 : wx2.cell? ⟨np, 8, none⟩ = some (.int .i64 y8) := Fp.out.c 8 rfl
            have qp9 : wx2.cell? ⟨np, 9, none⟩ = some (.int .i64 y9) := Fp.out.c 9 rfl
            have qp10 : wx2.cell? ⟨np, 10, none⟩ = some (.int .i64 y10) := Fp.out.c 10 rfl
            go_upto_region 8 with (first | (go_at_call 13; refine (Hv.out _).mono ?_; rintro e wa ⟨rfl, xa⟩))
            have Fp : Hid (HV wa np [.int .i64 y0, .int .i64 y1, .int .i64 y2, .int .i64 y3, .int .i64 y4, .int .i64 y5, .int .i64 y6, .int .i64 y7, .int .i64 y8, .int .i64 y9, .int .i64 y10, .int .i64 y11, .int .i64 y12, .int .i64 y13]) := Fp.out.ext xa
            have Fq : Hid (HV wa nq [.int .i64 q0, .int .i64 q1, .int .i64 q2, .int .i64 q3]) := Fq.out.ext xa
            have FX : Hid (Ext w wa) := FX.out.trans xa
            clear qp8 qp9 qp10 xa Hv
            have ltpv : np < wa.heap.size := Fp.out.1
            have ltqv : nq < wa.heap.size := Fq.out.1
            have Lv : Hid (w.heap.size ≤ wa.heap.size) := FX.out.size
            have Fp : Hid (HV (wa.alloc (.cells #[.int .i64 v0, .int .i64 v1, .int .i64 v2] 26)) np [.int .i64 y0, .int .i64 y1, .int .i64 y2, .int .i64 y3, .int .i64 y4, .int .i64 y5, .int .i64 y6, .int .i64 y7, .int .i64 y8, .int .i64 y9, .int .i64 y10, .int .i64 y11, .int .i64 y12, .int .i64 y13]) := Fp.out.alloc _
            have Fq : Hid (HV (wa.alloc (.cells #[.int .i64 v0, .int .i64 v1, .int .i64 v2] 26)) nq [.int .i64 q0, .int .i64 q1, .int .i64 q2, .int .i64 q3]) := Fq.out.alloc _
            have Fv : Hid (HV (wa.alloc (.cells #[.int .i64 v0, .int .i64 v1, .int .i64 v2] 26)) wa.heap.size [.int .i64 v0, .int .i64 v1, .int .i64 v2]) := hv_at rfl
            have FX : Hid (Ext w (wa.alloc (.cells #[.int .i64 v0, .int .i64 v1, .int .i64 v2] 26))) := FX.out.alloc _
            generalize (wa.alloc (.cells #[.int .i64 v0, .int .i64 v1, .int .i64 v2] 26)) = wx23 at *
            generalize wa.heap.size = nv at *
            have qp11 : wx23.cell? ⟨np, 11, none⟩ = some (.int .i64 y11) := Fp.out.c 11 rfl
            have qp12 : wx23.cell? ⟨np, 12, none⟩ = some (.int .i64 y12) := Fp.out.c 12 rfl
            have qp13 : wx23.cell? ⟨np, 13, none⟩ = some (.int .i64 y13) := Fp.out.c 13 rfl
            go_upto_region 9 with (first | (go_at_call 13; refine (Hu.out _).mono ?_; rintro e wb ⟨rfl, xb⟩))
            have Fp : Hid (HV wb np [.int .i64 y0, .int .i64 y1, .int .i64 y2, .int .i64 y3, .int .i64 y4, .int .i64 y5, .int .i64 y6, .int .i64 y7, .int .i64 y8, .int .i64 y9, .int .i64 y10, .int .i64 y11, .int .i64 y12, .int .i64 y13]) := Fp.out.ext xb
            have Fq : Hid (HV wb nq [.int .i64 q0, .int .i64 q1, .int .i64 q2, .int .i64 q3]) := Fq.out.ext xb
            have Fv : Hid (HV wb nv [.int .i64 v0, .int .i64 v1, .int .i64 v2]) := Fv.out.ext xb
            have FX : Hid (Ext w wb) := FX.out.trans xb
            clear qp11 qp12 qp13 xb Hu
            have ltpu : np < wb.heap.size := Fp.out.1
            have ltqu : nq < wb.heap.size := Fq.out.1
            have ltvu : nv < wb.heap.size := Fv.out.1
            have Lu : Hid (w.heap.size ≤ wb.heap.size) := FX.out.size
            have Fp : Hid (HV (wb.alloc (.cells #[.int .i64 r0, .int .i64 r1, .int .i64 r2] 26)) np [.int .i64 y0, .int .i64 y1, .int .i64 y2, .int .i64 y3, .int .i64 y4, .int .i64 y5, .int .i64 y6, .int .i64 y7, .int .i64 y8, .int .i64 y9, .int .i64 y10, .int .i64 y11, .int .i64 y12, .int .i64 y13]) := Fp.out.alloc _
            have Fq : Hid (HV (wb.alloc (.cells #[.int .i64 r0, .int .i64 r1, .int .i64 r2] 26)) nq [.int .i64 q0, .int .i64 q1, .int .i64 q2, .int .i64 q3]) := Fq.out.alloc _
            have Fv : Hid (HV (wb.alloc (.cells #[.int .i64 r0, .int .i64 r1, .int .i64 r2] 26)) nv [.int .i64 v0, .int .i64 v1, .int .i64 v2]) := Fv.out.alloc _
            have Fu : Hid (HV (wb.alloc (.cells #[.int .i64 r0, .int .i64 r1, .int .i64 r2] 26)) wb.heap.size [.int .i64 r0, .int .i64 r1, .int .i64 r2]) := hv_at rfl
            have FX : Hid (Ext w (wb.alloc (.cells #[.int .i64 r0, .int .i64 r1, .int .i64 r2] 26))) := FX.out.alloc _
            generalize (wb.alloc (.cells #[.int .i64 r0, .int .i64 r1, .int .i64 r2] 26)) = wx24 at *
            generalize wb.heap.size = nu at *
            have qq0 : wx24.cell? ⟨nq, 0, none⟩ = some (.int .i64 q0) := Fq.out.c 0 rfl
            have qq1 : wx24.cell? ⟨nq, 1, none⟩ = some (.int .i64 q1) := Fq.out.c 1 rfl
            have qq2 : wx24.cell? ⟨nq, 2, none⟩ = some (.int .i64 q2) := Fq.out.c 2 rfl
            have qq3 : wx24.cell? ⟨nq, 3, none⟩ = some (.int .i64 q3) := Fq.out.c 3 rfl
            have qv0 : wx24.cell? ⟨nv, 0, none⟩ = some (.int .i64 v0) := Fv.out.c 0 rfl
            have qv1 : wx24.cell? ⟨nv, 1, none⟩ = some (.int .i64 v1) := Fv.out.c 1 rfl
            have qv2 : wx24.cell? ⟨nv, 2, none⟩ = some (.int .i64 v2) := Fv.out.c 2 rfl
            go_upto_region 10 with (first | (go_at_call 14; refine (T1.out _).mono ?_; rintro e wc ⟨rfl, xc⟩))
            have Fp : Hid (HV wc np [.int .i64 y0, .int .i64 y1, .int .i64 y2, .int .i64 y3, .int .i64 y4, .int .i64 y5, .int .i64 y6, .int .i64 y7, .int .i64 y8, .int .i64 y9, .int .i64 y10, .int .i64 y11, .int .i64 y12, .int .i64 y13]) := Fp.out.ext xc
            have Fq : Hid (HV wc nq [.int .i64 q0, .int .i64 q1, .int .i64 q2, .int .i64 q3]) := Fq.out.ext xc
            have Fv : Hid (HV wc nv [.int .i64 v0, .int .i64 v1, .int .i64 v2]) := Fv.out.ext xc
            have Fu : Hid (HV wc nu [.int .i64 r0, .int .i64 r1, .int .i64 r2]) := Fu.out.ext xc
            have FX : Hid (Ext w wc) := FX.out.trans xc
            clear qq0 qq1 qq2 qq3 qv0 qv1 qv2 xc T1
            have ltpa : np < wc.heap.size := Fp.out.1
            have ltqa : nq < wc.heap.size := Fq.out.1
            have ltva : nv < wc.heap.size := Fv.out.1
            have ltua : nu < wc.heap.size := Fu.out.1
            have La : Hid (w.heap.size ≤ wc.heap.size) := FX.out.size
            have Fp : Hid (HV (wc.alloc (.cells #[.int .i64 X0, .int .i64 X1, .int .i64 X2] 26)) np [.int .i64 y0, .int .i64 y1, .int .i64 y2, .int .i64 y3, .int .i64 y4, .int .i64 y5, .int .i64 y6, .int .i64 y7, .int .i64 y8, .int .i64 y9, .int .i64 y10, .int .i64 y11, .int .i64 y12, .int .i64 y13]) := Fp.out.alloc _
            have Fq : Hid (HV (wc.alloc (.cells #[.int .i64 X0, .int .i64 X1, .int .i64 X2] 26)) nq [.int .i64 q0, .int .i64 q1, .int .i64 q2, .int .i64 q3]) := Fq.out.alloc _
            have Fv : Hid (HV (wc.alloc (.cells #[.int .i64 X0, .int .i64 X1, .int .i64 X2] 26)) nv [.int .i64 v0, .int .i64 v1, .int .i64 v2]) := Fv.out.alloc _
            have Fu : Hid (HV (wc.alloc (.cells #[.int .i64 X0, .int .i64 X1, .int .i64 X2] 26)) nu [.int .i64 r0, .int .i64 r1, .int .i64 r2]) := Fu.out.alloc _
            have Fa : Hid (HV (wc.alloc (.cells #[.int .i64 X0, .int .i64 X1, .int .i64 X2] 26)) wc.heap.size [.int .i64 X0, .int .i64 X1, .int .i64 X2]) := hv_at rfl
            have FX : Hid (Ext w (wc.alloc (.cells #[.int .i64 X0, .int .i64 X1, .int .i64 X2] 26))) := FX.out.alloc _
            generalize (wc.alloc (.cells #[.int .i64 X0, .int .i64 X1, .int .i64 X2] 26)) = wx25 at *
            generalize wc.heap.size = na at *
            have qq0 : wx25.cell? ⟨nq, 0, none⟩ = some (.int .i64 q0) := Fq.out.c 0 rfl
            have qq1 : wx25.cell? ⟨nq, 1, none⟩ = some (.int .i64 q1) := Fq.out.c 1 rfl
            have qq2 : wx25.cell? ⟨nq, 2, none⟩ = some (.int .i64 q2) := Fq.out.c 2 rfl
            have qq3 : wx25.cell? ⟨nq, 3, none⟩ = some (.int .i64 q3) := Fq.out.c 3 rfl
            have qa0 : wx25.cell? ⟨na, 0, none⟩ = some (.int .i64 X0) := Fa.out.c 0 rfl
            have qa1 : wx25.cell? ⟨na, 1, none⟩ = some (.int .i64 X1) := Fa.out.c 1 rfl
            have qa2 : wx25.cell? ⟨na, 2, none⟩ = some (.int .i64 X2) := Fa.out.c 2 rfl
            go_upto_region 11 with (first | (go_at_call 15; refine (T2.out _).mono ?_; rintro e wd ⟨rfl, xd⟩))
            have Fp : Hid (HV wd np [.int .i64 y0, .int .i64 y1, .int .i64 y2, .int .i64 y3, .int .i64 y4, .int .i64 y5, .int .i64 y6, .int .i64 y7, .int .i64 y8, .int .i64 y9, .int .i64 y10, .int .i64 y11, .int .i64 y12, .int .i64 y13]) := Fp.out.ext xd
            have Fq : Hid (HV wd nq [.int .i64 q0, .int .i64 q1, .int .i64 q2, .int .i64 q3]) := Fq.out.ext xd
            have Fv : Hid (HV wd nv [.int .i64 v0, .int .i64 v1, .int .i64 v2]) := Fv.out.ext xd
            have Fu : Hid (HV wd nu [.int .i64 r0, .int .i64 r1, .int .i64 r2]) := Fu.out.ext xd
            have Fa : Hid (HV wd na [.int .i64 X0, .int .i64 X1, .int .i64 X2]) := Fa.out.ext xd
            have FX : Hid (Ext w wd) := FX.out.trans xd
            clear qq0 qq1 qq2 qq3 qa0 qa1 qa2 xd T2
            have ltpb : np < wd.heap.size := Fp.out.1
            have ltqb : nq < wd.heap.size := Fq.out.1
            have ltvb : nv < wd.heap.size := Fv.out.1
            have ltub : nu < wd.heap.size := Fu.out.1
            have ltab : na < wd.heap.size := Fa.out.1
            have Lb : Hid (w.heap.size ≤ wd.heap.size) := FX.out.size
            have Fp : Hid (HV (wd.alloc (.cells #[.int .i64 Y0, .int .i64 Y1, .int .i64 Y2] 26)) np [.int .i64 y0, .int .i64 y1, .int .i64 y2, .int .i64 y3, .int .i64 y4, .int .i64 y5, .int .i64 y6, .int .i64 y7, .int .i64 y8, .int .i64 y9, .int .i64 y10, .int .i64 y11, .int .i64 y12, .int .i64 y13]) := Fp.out.alloc _
            have Fq : Hid (HV (wd.alloc (.cells #[.int .i64 Y0, .int .i64 Y1, .int .i64 Y2] 26)) nq [.int .i64 q0, .int .i64 q1, .int .i64 q2, .int .i64 q3]) := Fq.out.alloc _
            have Fv : Hid (HV (wd.alloc (.cells #[.int .i64 Y0, .int .i64 Y1, .int .i64 Y2] 26)) nv [.int .i64 v0, .int .i64 v1, .int .i64 v2]) := Fv.out.alloc _
            have Fu : Hid (HV (wd.alloc (.cells #[.int .i64 Y0, .int .i64 Y1, .int .i64 Y2] 26)) nu [.int .i64 r0, .int .i64 r1, .int .i64 r2]) := Fu.out.alloc _
            have Fa : Hid (HV (wd.alloc (.cells #[.int .i64 Y0, .int .i64 Y1, .int .i64 Y2] 26)) na [.int .i64 X0, .int .i64 X1, .int .i64 X2]) := Fa.out.alloc _
            have Fb : Hid (HV (wd.alloc (.cells #[.int .i64 Y0, .int .i64 Y1, .int .i64 Y2] 26)) wd.heap.size [.int .i64 Y0, .int .i64 Y1, .int .i64 Y2]) := hv_at rfl
            have FX : Hid (Ext w (wd.alloc (.cells #[.int .i64 Y0, .int .i64 Y1, .int .i64 Y2] 26))) := FX.out.alloc _
            generalize (wd.alloc (.cells #[.int .i64 Y0, .int .i64 Y1, .int .i64 Y2] 26)) = wx26 at *
            generalize wd.heap.size = nb at *
            have qq0 : wx26.cell? ⟨nq, 0, none⟩ = some (.int .i64 q0) := Fq.out.c 0 rfl
            have qq1 : wx26.cell? ⟨nq, 1, none⟩ = some (.int .i64 q1) := Fq.out.c 1 rfl
            have qq2 : wx26.cell? ⟨nq, 2, none⟩ = some (.int .i64 q2) := Fq.out.c 2 rfl
            have qq3 : wx26.cell? ⟨nq, 3, none⟩ = some (.int .i64 q3) := Fq.out.c 3 rfl
            have qv0 : wx26.cell? ⟨nv, 0, none⟩ = some (.int .i64 v0) := Fv.out.c 0 rfl
            have qv1 : wx26.cell? ⟨nv, 1, none⟩ = some (.int .i64 v1) := Fv.out.c 1 rfl
            have qv2 : wx26.cell? ⟨nv, 2, none⟩ = some (.int .i64 v2) := Fv.out.c 2 rfl
            have bq0 := hq0.out
            have wq0 : IntKind.i64.wrap (-2 * q0) = -2 * q0 := by rw [IntKind.wrap_i64]; omega
            have bq1 := hq1.out
            have wq1 : IntKind.i64.wrap (-2 * q1) = -2 * q1 := by rw [IntKind.wrap_i64]; omega
            have bq2 := hq2.out
            have wq2 : IntKind.i64.wrap (-2 * q2) = -2 * q2 := by rw [IntKind.wrap_i64]; omega
            have bq3 := hq3.out
            have wq3 : IntKind.i64.wrap (-2 * q3) = -2 * q3 := by rw [IntKind.wrap_i64]; omega
            go_upto_region 12 with (first | (go_at_call 14; refine (T3.out _).mono ?_; rintro e we ⟨rfl, xe⟩))
            have Fp : Hid (HV we np [.int .i64 y0, .int .i64 y1, .int .i64 y2, .int .i64 y3, .int .i64 y4, .int .i64 y5, .int .i64 y6, .int .i64 y7, .int .i64 y8, .int .i64 y9, .int .i64 y10, .int .i64 y11, .int .i64 y12, .int .i64 y13]) := Fp.out.ext xe
            have Fq : Hid (HV we nq [.int .i64 q0, .int .i64 q1, .int .i64 q2, .int .i64 q3]) := Fq.out.ext xe
            have Fv : Hid (HV we nv [.int .i64 v0, .int .i64 v1, .int .i64 v2]) := Fv.out.ext xe
            have Fu : Hid (HV we nu [.int .i64 r0, .int .i64 r1, .int .i64 r2]) := Fu.out.ext xe
            have Fa : Hid (HV we na [.int .i64 X0, .int .i64 X1, .int .i64 X2]) := Fa.out.ext xe
            have Fb : Hid (HV we nb [.int .i64 Y0, .int .i64 Y1, .int .i64 Y2]) := Fb.out.ext xe
            have FX : Hid (Ext w we) := FX.out.trans xe
            clear qq0 qq1 qq2 qq3 qv0 qv1 qv2 xe T3 bq0 bq1 bq2 bq3 wq0 wq1 wq2 wq3
            have ltpc : np < we.heap.size := Fp.out.1
            have ltqc : nq < we.heap.size := Fq.out.1
            have ltvc : nv < we.heap.size := Fv.out.1
            have ltuc : nu < we.heap.size := Fu.out.1
            have ltac : na < we.heap.size := Fa.out.1
            have ltbc : nb < we.heap.size := Fb.out.1
            have Lc : Hid (w.heap.size ≤ we.heap.size) := FX.out.size
            have Fp : Hid (HV (we.alloc (.cells #[.int .i64 X0, .int .i64 X1, .int .i64 X2] 26)) np [.int .i64 y0, .int .i64 y1, .int .i64 y2, .int .i64 y3, .int .i64 y4, .int .i64 y5, .int .i64 y6, .int .i64 y7, .int .i64 y8, .int .i64 y9, .int .i64 y10, .int .i64 y11, .int .i64 y12, .int .i64 y13]) := Fp.out.alloc _
            have Fq : Hid (HV (we.alloc (.cells #[.int .i64 X0, .int .i64 X1, .int .i64 X2] 26)) nq [.int .i64 q0, .int .i64 q1, .int .i64 q2, .int .i64 q3]) := Fq.out.alloc _
            have Fv : Hid (HV (we.alloc (.cells #[.int .i64 X0, .int .i64 X1, .int .i64 X2] 26)) nv [.int .i64 v0, .int .i64 v1, .int .i64 v2]) := Fv.out.alloc _
            have Fu : Hid (HV (we.alloc (.cells #[.int .i64 X0, .int .i64 X1, .int .i64 X2] 26)) nu [.int .i64 r0, .int .i64 r1, .int .i64 r2]) := Fu.out.alloc _
            have Fa : Hid (HV (we.alloc (.cells #[.int .i64 X0, .int .i64 X1, .int .i64 X2] 26)) na [.int .i64 X0, .int .i64 X1, .int .i64 X2]) := Fa.out.alloc _
            have Fb : Hid (HV (we.alloc (.cells #[.int .i64 X0, .int .i64 X1, .int .i64 X2] 26)) nb [.int .i64 Y0, .int .i64 Y1, .int .i64 Y2]) := Fb.out.alloc _
            have Fc : Hid (HV (we.alloc (.cells #[.int .i64 X0, .int .i64 X1, .int .i64 X2] 26)) we.heap.size [.int .i64 X0, .int .i64 X1, .int .i64 X2]) := hv_at rfl
            have FX : Hid (Ext w (we.alloc (.cells #[.int .i64 X0, .int .i64 X1, .int .i64 X2] 26))) := FX.out.alloc _
            generalize (we.alloc (.cells #[.int .i64 X0, .int .i64 X1, .int .i64 X2] 26)) = wx27 at *
            generalize we.heap.size = nc at *
            have qa0 : wx27.cell? ⟨na, 0, none⟩ = some (.int .i64 X0) := Fa.out.c 0 rfl
            have qa1 : wx27.cell? ⟨na, 1, none⟩ = some (.int .i64 X1) := Fa.out.c 1 rfl
            have qa2 : wx27.cell? ⟨na, 2, none⟩ = some (.int .i64 X2) := Fa.out.c 2 rfl
            have qc0 : wx27.cell? ⟨nc, 0, none⟩ = some (.int .i64 X0) := Fc.out.c 0 rfl
            have qc1 : wx27.cell? ⟨nc, 1, none⟩ = some (.int .i64 X1) := Fc.out.c 1 rfl
            have qc2 : wx27.cell? ⟨nc, 2, none⟩ = some (.int .i64 X2) := Fc.out.c 2 rfl
            have qb0 : wx27.cell? ⟨nb, 0, none⟩ = some (.int .i64 Y0) := Fb.out.c 0 rfl
            have qb1 : wx27.cell? ⟨nb, 1, none⟩ = some (.int .i64 Y1) := Fb.out.c 1 rfl
            have qb2 : wx27.cell? ⟨nb, 2, none⟩ = some (.int .i64 Y2) := Fb.out.c 2 rfl
            have qv0 : wx27.cell? ⟨nv, 0, none⟩ = some (.int .i64 v0) := Fv.out.c 0 rfl
            have qv1 : wx27.cell? ⟨nv, 1, none⟩ = some (.int .i64 v1) := Fv.out.c 1 rfl
            have qv2 : wx27.cell? ⟨nv, 2, none⟩ = some (.int .i64 v2) := Fv.out.c 2 rfl
            have hv3 := eqV4 X0 X1 X2 X0 X1 X2
            simp only [beq_self_eq_true, Bool.and_self] at hv3
            go_upto_region 14 with (first | (go_at_call 10; refine (num4_any _ _).mono ?_; rintro e wx ⟨rfl, hwx⟩; have hwy := hwx.symm; clear hwx; subst hwy) | (go_at_call 16; refine (NR.out _).mono ?_; rintro e wf ⟨rfl, xf⟩))
            have Fp : Hid (HV wf np [.int .i64 y0, .int .i64 y1, .int .i64 y2, .int .i64 y3, .int .i64 y4, .int .i64 y5, .int .i64 y6, .int .i64 y7, .int .i64 y8, .int .i64 y9, .int .i64 y10, .int .i64 y11, .int .i64 y12, .int .i64 y13]) := Fp.out.ext xf
            have Fq : Hid (HV wf nq [.int .i64 q0, .int .i64 q1, .int .i64 q2, .int .i64 q3]) := Fq.out.ext xf
            have Fv : Hid (HV wf nv [.int .i64 v0, .int .i64 v1, .int .i64 v2]) := Fv.out.ext xf
            have Fu : Hid (HV wf nu [.int .i64 r0, .int .i64 r1, .int .i64 r2]) := Fu.out.ext xf
            have Fa : Hid (HV wf na [.int .i64 X0, .int .i64 X1, .int .i64 X2]) := Fa.out.ext xf
            have Fb : Hid (HV wf nb [.int .i64 Y0, .int .i64 Y1, .int .i64 Y2]) := Fb.out.ext xf
            have Fc : Hid (HV wf nc [.int .i64 X0, .int .i64 X1, .int .i64 X2]) := Fc.out.ext xf
            have FX : Hid (Ext w wf) := FX.out.trans xf
            clear qa0 qa1 qa2 qc0 qc1 qc2 qb0 qb1 qb2 qv0 qv1 qv2 xf NR hv3
            have qv0 : wf.cell? ⟨nv, 0, none⟩ = some (.int .i64 v0) := Fv.out.c 0 rfl
            have qv1 : wf.cell? ⟨nv, 1, none⟩ = some (.int .i64 v1) := Fv.out.c 1 rfl
            have qv2 : wf.cell? ⟨nv, 2, none⟩ = some (.int .i64 v2) := Fv.out.c 2 rfl
            go_upto_region 15 with (first | (go_at_call 17; refine (N1.out _).mono ?_; rintro e wg ⟨rfl, xg⟩))
            have Fp : Hid (HV wg np [.int .i64 y0, .int .i64 y1, .int .i64 y2, .int .i64 y3, .int .i64 y4, .int .i64 y5, .int .i64 y6, .int .i64 y7, .int .i64 y8, .int .i64 y9, .int .i64 y10, .int .i64 y11, .int .i64 y12, .int .i64 y13]) := Fp.out.ext xg
            have Fq : Hid (HV wg nq [.int .i64 q0, .int .i64 q1, .int .i64 q2, .int .i64 q3]) := Fq.out.ext xg
            have Fv : Hid (HV wg nv [.int .i64 v0, .int .i64 v1, .int .i64 v2]) := Fv.out.ext xg
            have Fu : Hid (HV wg nu [.int .i64 r0, .int .i64 r1, .int .i64 r2]) := Fu.out.ext xg
            have Fa : Hid (HV wg na [.int .i64 X0, .int .i64 X1, .int .i64 X2]) := Fa.out.ext xg
            have Fb : Hid (HV wg nb [.int .i64 Y0, .int .i64 Y1, .int .i64 Y2]) := Fb.out.ext xg
            have Fc : Hid (HV wg nc [.int .i64 X0, .int .i64 X1, .int .i64 X2]) := Fc.out.ext xg
            have FX : Hid (Ext w wg) := FX.out.trans xg
            clear qv0 qv1 qv2 xg N1
            have qa0 : wg.cell? ⟨na, 0, none⟩ = some (.int .i64 X0) := Fa.out.c 0 rfl
            have qa1 : wg.cell? ⟨na, 1, none⟩ = some (.int .i64 X1) := Fa.out.c 1 rfl
            have qa2 : wg.cell? ⟨na, 2, none⟩ = some (.int .i64 X2) := Fa.out.c 2 rfl
            go_upto_region 16 with (first | (go_at_call 17; refine (N2.out _).mono ?_; rintro e wh ⟨rfl, xh⟩))
            have Fp : Hid (HV wh np [.int .i64 y0, .int .i64 y1, .int .i64 y2, .int .i64 y3, .int .i64 y4, .int .i64 y5, .int .i64 y6, .int .i64 y7, .int .i64 y8, .int .i64 y9, .int .i64 y10, .int .i64 y11, .int .i64 y12, .int .i64 y13]) := Fp.out.ext xh
            have Fq : Hid (HV wh nq [.int .i64 q0, .int .i64 q1, .int .i64 q2, .int .i64 q3]) := Fq.out.ext xh
            have Fv : Hid (HV wh nv [.int .i64 v0, .int .i64 v1, .int .i64 v2]) := Fv.out.ext xh
            have Fu : Hid (HV wh nu [.int .i64 r0, .int .i64 r1, .int .i64 r2]) := Fu.out.ext xh
            have Fa : Hid (HV wh na [.int .i64 X0, .int .i64 X1, .int .i64 X2]) := Fa.out.ext xh
            have Fb : Hid (HV wh nb [.int .i64 Y0, .int .i64 Y1, .int .i64 Y2]) := Fb.out.ext xh
            have Fc : Hid (HV wh nc [.int .i64 X0, .int .i64 X1, .int .i64 X2]) := Fc.out.ext xh
            have FX : Hid (Ext w wh) := FX.out.trans xh
            clear qa0 qa1 qa2 xh N2
            obtain ⟨m0, m1, m2, m3, m4, m5⟩ := EN.out
            go_upto_region 18 with (first | (go_at_call 10; refine (num4_any _ _).mono ?_; rintro e wx ⟨rfl, hwx⟩; have hwy := hwx.symm; clear hwx; subst hwy))
            clear m0 m1 m2 m3 m4 m5 EN
            have qq0 : wh.cell? ⟨nq, 0, none⟩ = some (.int .i64 q0) := Fq.out.c 0 rfl
            have qq1 : wh.cell? ⟨nq, 1, none⟩ = some (.int .i64 q1) := Fq.out.c 1 rfl
            have qq2 : wh.cell? ⟨nq, 2, none⟩ = some (.int .i64 q2) := Fq.out.c 2 rfl
            have qq3 : wh.cell? ⟨nq, 3, none⟩ = some (.int .i64 q3) := Fq.out.c 3 rfl
            have qu0 : wh.cell? ⟨nu, 0, none⟩ = some (.int .i64 r0) := Fu.out.c 0 rfl
            have qu1 : wh.cell? ⟨nu, 1, none⟩ = some (.int .i64 r1) := Fu.out.c 1 rfl
            have qu2 : wh.cell? ⟨nu, 2, none⟩ = some (.int .i64 r2) := Fu.out.c 2 rfl
            go_upto_region 19 with (first | (go_at_call 14; refine (T4.out _).mono ?_; rintro e wi ⟨rfl, xi⟩))
            have Fp : Hid (HV wi np [.int .i64 y0, .int .i64 y1, .int .i64 y2, .int .i64 y3, .int .i64 y4, .int .i64 y5, .int .i64 y6, .int .i64 y7, .int .i64 y8, .int .i64 y9, .int .i64 y10, .int .i64 y11, .int .i64 y12, .int .i64 y13]) := Fp.out.ext xi
            have Fq : Hid (HV wi nq [.int .i64 q0, .int .i64 q1, .int .i64 q2, .int .i64 q3]) := Fq.out.ext xi
            have Fv : Hid (HV wi nv [.int .i64 v0, .int .i64 v1, .int .i64 v2]) := Fv.out.ext xi
            have Fu : Hid (HV wi nu [.int .i64 r0, .int .i64 r1, .int .i64 r2]) := Fu.out.ext xi
            have Fa : Hid (HV wi na [.int .i64 X0, .int .i64 X1, .int .i64 X2]) := Fa.out.ext xi
            have Fb : Hid (HV wi nb [.int .i64 Y0, .int .i64 Y1, .int .i64 Y2]) := Fb.out.ext xi
            have Fc : Hid (HV wi nc [.int .i64 X0, .int .i64 X1, .int .i64 X2]) := Fc.out.ext xi
            have FX : Hid (Ext w wi) := FX.out.trans xi
            clear qq0 qq1 qq2 qq3 qu0 qu1 qu2 xi T4
            have ltpd : np < wi.heap.size := Fp.out.1
            have ltqd : nq < wi.heap.size := Fq.out.1
            have ltvd : nv < wi.heap.size := Fv.out.1
            have ltud : nu < wi.heap.size := Fu.out.1
            have ltad : na < wi.heap.size := Fa.out.1
            have ltbd : nb < wi.heap.size := Fb.out.1
            have ltcd : nc < wi.heap.size := Fc.out.1
            have Ld : Hid (w.heap.size ≤ wi.heap.size) := FX.out.size
            have Fp : Hid (HV (wi.alloc (.cells #[.int .i64 Z0, .int .i64 Z1, .int .i64 Z2] 26)) np [.int .i64 y0, .int .i64 y1, .int .i64 y2, .int .i64 y3, .int .i64 y4, .int .i64 y5, .int .i64 y6, .int .i64 y7, .int .i64 y8, .int .i64 y9, .int .i64 y10, .int .i64 y11, .int .i64 y12, .int .i64 y13]) := Fp.out.alloc _
            have Fq : Hid (HV (wi.alloc (.cells #[.int .i64 Z0, .int .i64 Z1, .int .i64 Z2] 26)) nq [.int .i64 q0, .int .i64 q1, .int .i64 q2, .int .i64 q3]) := Fq.out.alloc _
            have Fv : Hid (HV (wi.alloc (.cells #[.int .i64 Z0, .int .i64 Z1, .int .i64 Z2] 26)) nv [.int .i64 v0, .int .i64 v1, .int .i64 v2]) := Fv.out.alloc _
            have Fu : Hid (HV (wi.alloc (.cells #[.int .i64 Z0, .int .i64 Z1, .int .i64 Z2] 26)) nu [.int .i64 r0, .int .i64 r1, .int .i64 r2]) := Fu.out.alloc _
            have Fa : Hid (HV (wi.alloc (.cells #[.int .i64 Z0, .int .i64 Z1, .int .i64 Z2] 26)) na [.int .i64 X0, .int .i64 X1, .int .i64 X2]) := Fa.out.alloc _
            have Fb : Hid (HV (wi.alloc (.cells #[.int .i64 Z0, .int .i64 Z1, .int .i64 Z2] 26)) nb [.int .i64 Y0, .int .i64 Y1, .int .i64 Y2]) := Fb.out.alloc _
            have Fc : Hid (HV (wi.alloc (.cells #[.int .i64 Z0, .int .i64 Z1, .int .i64 Z2] 26)) nc [.int .i64 X0, .int .i64 X1, .int .i64 X2]) := Fc.out.alloc _
            have Fd : Hid (HV (wi.alloc (.cells #[.int .i64 Z0, .int .i64 Z1, .int .i64 Z2] 26)) wi.heap.size [.int .i64 Z0, .int .i64 Z1, .int .i64 Z2]) := hv_at rfl
            have FX : Hid (Ext w (wi.alloc (.cells #[.int .i64 Z0, .int .i64 Z1, .int .i64 Z2] 26))) := FX.out.alloc _
            generalize (wi.alloc (.cells #[.int .i64 Z0, .int .i64 Z1, .int .i64 Z2] 26)) = wx28 at *
            generalize wi.heap.size = nd at *
            have qv0 : wx28.cell? ⟨nv, 0, none⟩ = some (.int .i64 v0) := Fv.out.c 0 rfl
            have qv1 : wx28.cell? ⟨nv, 1, none⟩ = some (.int .i64 v1) := Fv.out.c 1 rfl
            have qv2 : wx28.cell? ⟨nv, 2, none⟩ = some (.int .i64 v2) := Fv.out.c 2 rfl
            have qu0 : wx28.cell? ⟨nu, 0, none⟩ = some (.int .i64 r0) := Fu.out.c 0 rfl
            have qu1 : wx28.cell? ⟨nu, 1, none⟩ = some (.int .i64 r1) := Fu.out.c 1 rfl
            have qu2 : wx28.cell? ⟨nu, 2, none⟩ = some (.int .i64 r2) := Fu.out.c 2 rfl
            go_upto_region 20 with (first | (go_at_call 18; refine (D1.out _).mono ?_; rintro e wj ⟨rfl, xj⟩))
            have Fp : Hid (HV wj np [.int .i64 y0, .int .i64 y1, .int .i64 y2, .int .i64 y3, .int .i64 y4, .int .i64 y5, .int .i64 y6, .int .i64 y7, .int .i64 y8, .int .i64 y9, .int .i64 y10, .int .i64 y11, .int .i64 y12, .int .i64 y13]) := Fp.out.ext xj
            have Fq : Hid (HV wj nq [.int .i64 q0, .int .i64 q1, .int .i64 q2, .int .i64 q3]) := Fq.out.ext xj
            have Fv : Hid (HV wj nv [.int .i64 v0, .int .i64 v1, .int .i64 v2]) := Fv.out.ext xj
            have Fu : Hid (HV wj nu [.int .i64 r0, .int .i64 r1, .int .i64 r2]) := Fu.out.ext xj
            have Fa : Hid (HV wj na [.int .i64 X0, .int .i64 X1, .int .i64 X2]) := Fa.out.ext xj
            have Fb : Hid (HV wj nb [.int .i64 Y0, .int .i64 Y1, .int .i64 Y2]) := Fb.out.ext xj
            have Fc : Hid (HV wj nc [.int .i64 X0, .int .i64 X1, .int .i64 X2]) := Fc.out.ext xj
            have Fd : Hid (HV wj nd [.int .i64 Z0, .int .i64 Z1, .int .i64 Z2]) := Fd.out.ext xj
            have FX : Hid (Ext w wj) := FX.out.trans xj
            clear qv0 qv1 qv2 qu0 qu1 qu2 xj D1
            have qa0 : wj.cell? ⟨na, 0, none⟩ = some (.int .i64 X0) := Fa.out.c 0 rfl
            have qa1 : wj.cell? ⟨na, 1, none⟩ = some (.int .i64 X1) := Fa.out.c 1 rfl
            have qa2 : wj.cell? ⟨na, 2, none⟩ = some (.int .i64 X2) := Fa.out.c 2 rfl
            have qd0 : wj.cell? ⟨nd, 0, none⟩ = some (.int .i64 Z0) := Fd.out.c 0 rfl
            have qd1 : wj.cell? ⟨nd, 1, none⟩ = some (.int .i64 Z1) := Fd.out.c 1 rfl
            have qd2 : wj.cell? ⟨nd, 2, none⟩ = some (.int .i64 Z2) := Fd.out.c 2 rfl
            go_upto_region 21 with (first | (go_at_call 18; refine (D2.out _).mono ?_; rintro e wk ⟨rfl, xk⟩))
            have Fp : Hid (HV wk np [.int .i64 y0, .int .i64 y1, .int .i64 y2, .int .i64 y3, .int .i64 y4, .int .i64 y5, .int .i64 y6, .int .i64 y7, .int .i64 y8, .int .i64 y9, .int .i64 y10, .int .i64 y11, .int .i64 y12, .int .i64 y13]) := Fp.out.ext xk
            have Fq : Hid (HV wk nq [.int .i64 q0, .int .i64 q1, .int .i64 q2, .int .i64 q3]) := Fq.out.ext xk
            have Fv : Hid (HV wk nv [.int .i64 v0, .int .i64 v1, .int .i64 v2]) := Fv.out.ext xk
            have Fu : Hid (HV wk nu [.int .i64 r0, .int .i64 r1, .int .i64 r2]) := Fu.out.ext xk
            have Fa : Hid (HV wk na [.int .i64 X0, .int .i64 X1, .int .i64 X2]) := Fa.out.ext xk
            have Fb : Hid (HV wk nb [.int .i64 Y0, .int .i64 Y1, .int .i64 Y2]) := Fb.out.ext xk
            have Fc : Hid (HV wk nc [.int .i64 X0, .int .i64 X1, .int .i64 X2]) := Fc.out.ext xk
            have Fd : Hid (HV wk nd [.int .i64 Z0, .int .i64 Z1, .int .i64 Z2]) := Fd.out.ext xk
            have FX : Hid (Ext w wk) := FX.out.trans xk
            clear qa0 qa1 qa2 qd0 qd1 qd2 xk D2
            obtain ⟨m0, m1, m2, m3, m4, m5⟩ := ED.out
            go_wp2_with (go_at_call 10; refine (num4_any _ _).mono ?_; rintro e wx ⟨rfl, hwx⟩; have hwy := hwx.symm; clear hwx; subst hwy)
            go_roundw
            case rel => exact ⟨k + 1, by omega, by go_num, FX⟩
            case measure => simp [intOf]; omega
          · rw [hz] at he
            go_wp2_with fail
            go_roundw
            case rel => exact ⟨k + 1, by omega, by go_num, FX⟩
            case measure => simp [intOf]; omega
      · go_wp2_with fail
        refine (wakes4_any _).mono ?_
        rintro e w1 ⟨rfl, x1⟩
        have E1 : Ext w w1 := FX.out.trans x1
        go_wp2_with fail
        go_ret
        exact ⟨rfl, E1⟩
    · have hk' : k = len := by omega
      subst hk'
      go_wp2_with fail
      refine (wakes4_any _).mono ?_
      rintro e w1 ⟨rfl, x1⟩
      have E1 : Ext w w1 := FX.out.trans x1
      go_wp2_with fail
      go_ret
      exact ⟨rfl, E1⟩
set_option maxRecDepth 20000 in
set_option maxHeartbeats 4000000 in
theorem turns_none (a : Option Addr) (cap : Nat) (w : World) :
    Calls Try.prog 4 #[.slice a 0 cap] w fun e w' => e = .returned (.bool true) ∧ Ext w w' := by
  go_enter Try.func4, Try.ntmps4
  go_wp2_with fail
  go_loopw [3] (fun i wr => i = .int .i64 0 ∧ Hid (Ext w wr)) (fun _ _ => 0)
  case atStart => exact ⟨rfl, Ext.refl _⟩
  case round =>
    obtain ⟨rfl, FX⟩ := hrel
    go_wp2_with fail
    refine (wakes4_any _).mono ?_
    rintro e w1 ⟨rfl, x1⟩
    have E1 : Ext w w1 := FX.out.trans x1
    go_wp2_with fail
    go_ret
    exact ⟨rfl, E1⟩
end Go.Proofs.Ytfmalpnlencmbaa
