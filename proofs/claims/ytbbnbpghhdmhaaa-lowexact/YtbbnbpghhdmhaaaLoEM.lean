/- LowExact. -/
import Derived.Test.YtbbnbpghhdmhaaaLoXM
namespace Go.Proofs.Ytbbnbpghhdmhaaa
open Go.RowKit Go.Shelf
theorem exact_told (on : Bool) (y0 y1 y2 s v0 v1 v2 : Int) (h : okA y0 y1 y2 s v0 v1 v2 = true) : ∃ a0 a1 a2 : Int,
    (∀ w, Calls Try.prog 7 #[.agg #[.bool on, .int .i64 y0, .int .i64 y1, .int .i64 y2], .int .i64 s, .agg #[.int .i64 v0, .int .i64 v1, .int .i64 v2]] w fun e w' => e = .returned (.agg #[.bool true, .int .i64 a0, .int .i64 a1, .int .i64 a2]) ∧ Ext w w') ∧
    (∀ w, Calls Try.prog 8 #[.agg #[.bool on, .int .i64 y0, .int .i64 y1, .int .i64 y2], .int .i64 s, .agg #[.int .i64 v0, .int .i64 v1, .int .i64 v2]] w fun e w' => e = .returned (.tuple #[.agg #[.bool true, .int .i64 a0, .int .i64 a1, .int .i64 a2], .int .i64 0]) ∧ Ext w w') := by
  have h0 := h
  unfold okA at h
  simp only [Bool.and_eq_true] at h
  obtain ⟨⟨a, b⟩, c⟩ := h
  obtain ⟨a1, a2⟩ := okSh_iff.1 a
  obtain ⟨n, rfl⟩ := Int.eq_ofNat_of_zero_le a1
  have k1 := fun w => rLow_any on y0 y1 y2 n v0 v1 v2 w (by omega) b c
  have k2 := otake_any on y0 y1 y2 n v0 v1 v2
  unfold takeO at k2
  rw [a, b, c] at k2
  unfold lowR at k1
  cases on
  · exact ⟨v0, v1, v2, k1, k2⟩
  · exact ⟨_, _, _, k1, k2⟩
theorem refused_told (on : Bool) (y0 y1 y2 s v0 v1 v2 : Int) (h : okA y0 y1 y2 s v0 v1 v2 = false) :
    ∀ w, Calls Try.prog 8 #[.agg #[.bool on, .int .i64 y0, .int .i64 y1, .int .i64 y2], .int .i64 s, .agg #[.int .i64 v0, .int .i64 v1, .int .i64 v2]] w fun e w' => e = .returned (.tuple #[.agg #[.bool false, .int .i64 0, .int .i64 0, .int .i64 0], .int .i64 1]) ∧ Ext w w' := by
  have k2 := otake_any on y0 y1 y2 s v0 v1 v2
  unfold takeO at k2
  unfold okA at h
  rw [h] at k2
  exact k2
set_option maxRecDepth 20000 in
set_option maxHeartbeats 40000000 in
theorem lowexact_any (b off len cap : Nat) (C : Nat → Nat → Value) (w : World) (hl : len ≤ maxLen) (hc : ML 8 (fun j => j == 0) w b off len C) :
    Calls Try.prog 3 #[.slice (some ⟨b, off, none⟩) len cap] w fun e w' => e = .returned (.bool true) ∧ Ext w w' := by
  have hl' : len ≤ 9223372036854775807 := by unfold maxLen at hl; omega
  clear hl
  go_enter Try.func3, Try.ntmps3
  go_wp2_with fail
  go_loopw [3] (fun i wr => ∃ k : Nat, k ≤ len ∧ i = .int .i64 k ∧ Hid (Ext w wr)) (fun i _ => len - (intOf i).toNat)
  case atStart => exact ⟨0, Nat.zero_le _, rfl, Ext.refl _⟩
  case round =>
    obtain ⟨k, hk, rfl, FX⟩ := hrel
    by_cases hlt : k < len
    · by_cases h5 : k < 30
      · skip
        obtain ⟨on, c0⟩ := (hc.ext FX.out).bool hlt (j := 0) (by omega) rfl
        rw [Nat.add_zero] at c0
        obtain ⟨y0, c1, _⟩ := (hc.ext FX.out).num hlt (j := 1) (by omega) rfl
        obtain ⟨y1, c2, _⟩ := (hc.ext FX.out).num hlt (j := 2) (by omega) rfl
        obtain ⟨y2, c3, _⟩ := (hc.ext FX.out).num hlt (j := 3) (by omega) rfl
        obtain ⟨s, c4, _⟩ := (hc.ext FX.out).num hlt (j := 4) (by omega) rfl
        obtain ⟨v0, c5, _⟩ := (hc.ext FX.out).num hlt (j := 5) (by omega) rfl
        obtain ⟨v1, c6, _⟩ := (hc.ext FX.out).num hlt (j := 6) (by omega) rfl
        obtain ⟨v2, c7, _⟩ := (hc.ext FX.out).num hlt (j := 7) (by omega) rfl
        have hlt' : (k : Int) < (len : Int) := by omega
        clear hc
        go_upto_region 5 with fail
        clear c0 c1 c2 c3 c4 c5 c6 c7
        have Lp : Hid (w.heap.size ≤ wr.heap.size) := FX.out.size
        have Fp : Hid (HV (wr.alloc (.cells #[.bool on, .int .i64 y0, .int .i64 y1, .int .i64 y2, .int .i64 s, .int .i64 v0, .int .i64 v1, .int .i64 v2] 28)) wr.heap.size [.bool on, .int .i64 y0, .int .i64 y1, .int .i64 y2, .int .i64 s, .int .i64 v0, .int .i64 v1, .int .i64 v2]) := hv_at rfl
        have FX : Hid (Ext w (wr.alloc (.cells #[.bool on, .int .i64 y0, .int .i64 y1, .int .i64 y2, .int .i64 s, .int .i64 v0, .int .i64 v1, .int .i64 v2] 28))) := FX.out.alloc _
        generalize (wr.alloc (.cells #[.bool on, .int .i64 y0, .int .i64 y1, .int .i64 y2, .int .i64 s, .int .i64 v0, .int .i64 v1, .int .i64 v2] 28)) = wx1 at *
        generalize wr.heap.size = np at *
        have HM : Hid (∀ w, Calls Try.prog 6 #[.agg #[.bool on, .int .i64 y0, .int .i64 y1, .int .i64 y2, .int .i64 s, .int .i64 v0, .int .i64 v1, .int .i64 v2]] w fun e w' => e = .returned (.bool (okA y0 y1 y2 s v0 v1 v2)) ∧ Ext w w') := may12_any _ _ _ _ _ _ _ _
        cases ho : okA y0 y1 y2 s v0 v1 v2
        · have HT : Hid (∀ w, Calls Try.prog 8 #[.agg #[.bool on, .int .i64 y0, .int .i64 y1, .int .i64 y2], .int .i64 s, .agg #[.int .i64 v0, .int .i64 v1, .int .i64 v2]] w fun e w' => e = .returned (.tuple #[.agg #[.bool false, .int .i64 0, .int .i64 0, .int .i64 0], .int .i64 1]) ∧ Ext w w') := refused_told on y0 y1 y2 s v0 v1 v2 ho
          rw [ho] at HM
          clear ho
          go_upto_region 7 with fail
          have ltpw : np < wx1.heap.size := Fp.out.1
          have Lw : Hid (w.heap.size ≤ wx1.heap.size) := FX.out.size
          have Fp : Hid (HV (wx1.alloc (.cells #[.bool false, .int .i64 0, .int .i64 0, .int .i64 0] 26)) np [.bool on, .int .i64 y0, .int .i64 y1, .int .i64 y2, .int .i64 s, .int .i64 v0, .int .i64 v1, .int .i64 v2]) := Fp.out.alloc _
          have Fw : Hid (HV (wx1.alloc (.cells #[.bool false, .int .i64 0, .int .i64 0, .int .i64 0] 26)) wx1.heap.size [.bool false, .int .i64 0, .int .i64 0, .int .i64 0]) := hv_at rfl
          have FX : Hid (Ext w (wx1.alloc (.cells #[.bool false, .int .i64 0, .int .i64 0, .int .i64 0] 26))) := FX.out.alloc _
          generalize (wx1.alloc (.cells #[.bool false, .int .i64 0, .int .i64 0, .int .i64 0] 26)) = wx11 at *
          generalize wx1.heap.size = nw at *
          have qp0 : wx11.cell? ⟨np, 0, none⟩ = some (.bool on) := Fp.out.c 0 rfl
          have qp1 : wx11.cell? ⟨np, 1, none⟩ = some (.int .i64 y0) := Fp.out.c 1 rfl
          have qp2 : wx11.cell? ⟨np, 2, none⟩ = some (.int .i64 y1) := Fp.out.c 2 rfl
          have qp3 : wx11.cell? ⟨np, 3, none⟩ = some (.int .i64 y2) := Fp.out.c 3 rfl
          have qp4 : wx11.cell? ⟨np, 4, none⟩ = some (.int .i64 s) := Fp.out.c 4 rfl
          have qp5 : wx11.cell? ⟨np, 5, none⟩ = some (.int .i64 v0) := Fp.out.c 5 rfl
          have qp6 : wx11.cell? ⟨np, 6, none⟩ = some (.int .i64 v1) := Fp.out.c 6 rfl
          have qp7 : wx11.cell? ⟨np, 7, none⟩ = some (.int .i64 v2) := Fp.out.c 7 rfl
          go_upto_region 10 with (first | (go_at_call 6; refine (HM.out _).mono ?_; rintro e wq0 ⟨rfl, xq0⟩))
          have Fp : Hid (HV wq0 np [.bool on, .int .i64 y0, .int .i64 y1, .int .i64 y2, .int .i64 s, .int .i64 v0, .int .i64 v1, .int .i64 v2]) := Fp.out.ext xq0
          have Fw : Hid (HV wq0 nw [.bool false, .int .i64 0, .int .i64 0, .int .i64 0]) := Fw.out.ext xq0
          have FX : Hid (Ext w wq0) := FX.out.trans xq0
          clear qp0 qp1 qp2 qp3 qp4 qp5 qp6 qp7 xq0 HM
          have qp0 : wq0.cell? ⟨np, 0, none⟩ = some (.bool on) := Fp.out.c 0 rfl
          have qp1 : wq0.cell? ⟨np, 1, none⟩ = some (.int .i64 y0) := Fp.out.c 1 rfl
          have qp2 : wq0.cell? ⟨np, 2, none⟩ = some (.int .i64 y1) := Fp.out.c 2 rfl
          have qp3 : wq0.cell? ⟨np, 3, none⟩ = some (.int .i64 y2) := Fp.out.c 3 rfl
          have qp4 : wq0.cell? ⟨np, 4, none⟩ = some (.int .i64 s) := Fp.out.c 4 rfl
          have qp5 : wq0.cell? ⟨np, 5, none⟩ = some (.int .i64 v0) := Fp.out.c 5 rfl
          have qp6 : wq0.cell? ⟨np, 6, none⟩ = some (.int .i64 v1) := Fp.out.c 6 rfl
          have qp7 : wq0.cell? ⟨np, 7, none⟩ = some (.int .i64 v2) := Fp.out.c 7 rfl
          go_upto_region 11 with (first | (go_at_call 8; refine (HT.out _).mono ?_; rintro e wq2 ⟨rfl, xq2⟩))
          have Fp : Hid (HV wq2 np [.bool on, .int .i64 y0, .int .i64 y1, .int .i64 y2, .int .i64 s, .int .i64 v0, .int .i64 v1, .int .i64 v2]) := Fp.out.ext xq2
          have Fw : Hid (HV wq2 nw [.bool false, .int .i64 0, .int .i64 0, .int .i64 0]) := Fw.out.ext xq2
          have FX : Hid (Ext w wq2) := FX.out.trans xq2
          clear qp0 qp1 qp2 qp3 qp4 qp5 qp6 qp7 xq2 HT
          have ltpu : np < wq2.heap.size := Fp.out.1
          have ltwu : nw < wq2.heap.size := Fw.out.1
          have Lu : Hid (w.heap.size ≤ wq2.heap.size) := FX.out.size
          have Fp : Hid (HV (wq2.alloc (.cells #[.bool false, .int .i64 0, .int .i64 0, .int .i64 0] 26)) np [.bool on, .int .i64 y0, .int .i64 y1, .int .i64 y2, .int .i64 s, .int .i64 v0, .int .i64 v1, .int .i64 v2]) := Fp.out.alloc _
          have Fw : Hid (HV (wq2.alloc (.cells #[.bool false, .int .i64 0, .int .i64 0, .int .i64 0] 26)) nw [.bool false, .int .i64 0, .int .i64 0, .int .i64 0]) := Fw.out.alloc _
          have Fu : Hid (HV (wq2.alloc (.cells #[.bool false, .int .i64 0, .int .i64 0, .int .i64 0] 26)) wq2.heap.size [.bool false, .int .i64 0, .int .i64 0, .int .i64 0]) := hv_at rfl
          have FX : Hid (Ext w (wq2.alloc (.cells #[.bool false, .int .i64 0, .int .i64 0, .int .i64 0] 26))) := FX.out.alloc _
          generalize (wq2.alloc (.cells #[.bool false, .int .i64 0, .int .i64 0, .int .i64 0] 26)) = wx12 at *
          generalize wq2.heap.size = nu at *
          have qu0 : wx12.cell? ⟨nu, 0, none⟩ = some (.bool false) := Fu.out.c 0 rfl
          have qu1 : wx12.cell? ⟨nu, 1, none⟩ = some (.int .i64 0) := Fu.out.c 1 rfl
          have qu2 : wx12.cell? ⟨nu, 2, none⟩ = some (.int .i64 0) := Fu.out.c 2 rfl
          have qu3 : wx12.cell? ⟨nu, 3, none⟩ = some (.int .i64 0) := Fu.out.c 3 rfl
          have qw0 : wx12.cell? ⟨nw, 0, none⟩ = some (.bool false) := Fw.out.c 0 rfl
          have qw1 : wx12.cell? ⟨nw, 1, none⟩ = some (.int .i64 0) := Fw.out.c 1 rfl
          have qw2 : wx12.cell? ⟨nw, 2, none⟩ = some (.int .i64 0) := Fw.out.c 2 rfl
          have qw3 : wx12.cell? ⟨nw, 3, none⟩ = some (.int .i64 0) := Fw.out.c 3 rfl
          go_wp2_with (go_at_call 9; refine (num12_any _ _).mono ?_; rintro e wx ⟨rfl, hwx⟩; have hwy := hwx.symm; clear hwx; subst hwy)
          go_roundw
          case rel => exact ⟨k + 1, by omega, by go_num, FX⟩
          case measure => simp [intOf]; omega
        · obtain ⟨a0, a1, a2, T0, T1⟩ := exact_told on y0 y1 y2 s v0 v1 v2 ho
          have HG : Hid (∀ w, Calls Try.prog 7 #[.agg #[.bool on, .int .i64 y0, .int .i64 y1, .int .i64 y2], .int .i64 s, .agg #[.int .i64 v0, .int .i64 v1, .int .i64 v2]] w fun e w' => e = .returned (.agg #[.bool true, .int .i64 a0, .int .i64 a1, .int .i64 a2]) ∧ Ext w w') := T0
          have HT : Hid (∀ w, Calls Try.prog 8 #[.agg #[.bool on, .int .i64 y0, .int .i64 y1, .int .i64 y2], .int .i64 s, .agg #[.int .i64 v0, .int .i64 v1, .int .i64 v2]] w fun e w' => e = .returned (.tuple #[.agg #[.bool true, .int .i64 a0, .int .i64 a1, .int .i64 a2], .int .i64 0]) ∧ Ext w w') := T1
          clear T0 T1
          rw [ho] at HM
          clear ho
          go_upto_region 7 with fail
          have ltpw : np < wx1.heap.size := Fp.out.1
          have Lw : Hid (w.heap.size ≤ wx1.heap.size) := FX.out.size
          have Fp : Hid (HV (wx1.alloc (.cells #[.bool false, .int .i64 0, .int .i64 0, .int .i64 0] 26)) np [.bool on, .int .i64 y0, .int .i64 y1, .int .i64 y2, .int .i64 s, .int .i64 v0, .int .i64 v1, .int .i64 v2]) := Fp.out.alloc _
          have Fw : Hid (HV (wx1.alloc (.cells #[.bool false, .int .i64 0, .int .i64 0, .int .i64 0] 26)) wx1.heap.size [.bool false, .int .i64 0, .int .i64 0, .int .i64 0]) := hv_at rfl
          have FX : Hid (Ext w (wx1.alloc (.cells #[.bool false, .int .i64 0, .int .i64 0, .int .i64 0] 26))) := FX.out.alloc _
          generalize (wx1.alloc (.cells #[.bool false, .int .i64 0, .int .i64 0, .int .i64 0] 26)) = wx11 at *
          generalize wx1.heap.size = nw at *
          have qp0 : wx11.cell? ⟨np, 0, none⟩ = some (.bool on) := Fp.out.c 0 rfl
          have qp1 : wx11.cell? ⟨np, 1, none⟩ = some (.int .i64 y0) := Fp.out.c 1 rfl
          have qp2 : wx11.cell? ⟨np, 2, none⟩ = some (.int .i64 y1) := Fp.out.c 2 rfl
          have qp3 : wx11.cell? ⟨np, 3, none⟩ = some (.int .i64 y2) := Fp.out.c 3 rfl
          have qp4 : wx11.cell? ⟨np, 4, none⟩ = some (.int .i64 s) := Fp.out.c 4 rfl
          have qp5 : wx11.cell? ⟨np, 5, none⟩ = some (.int .i64 v0) := Fp.out.c 5 rfl
          have qp6 : wx11.cell? ⟨np, 6, none⟩ = some (.int .i64 v1) := Fp.out.c 6 rfl
          have qp7 : wx11.cell? ⟨np, 7, none⟩ = some (.int .i64 v2) := Fp.out.c 7 rfl
          go_upto_region 9 with (first | (go_at_call 6; refine (HM.out _).mono ?_; rintro e wq0 ⟨rfl, xq0⟩))
          have Fp : Hid (HV wq0 np [.bool on, .int .i64 y0, .int .i64 y1, .int .i64 y2, .int .i64 s, .int .i64 v0, .int .i64 v1, .int .i64 v2]) := Fp.out.ext xq0
          have Fw : Hid (HV wq0 nw [.bool false, .int .i64 0, .int .i64 0, .int .i64 0]) := Fw.out.ext xq0
          have FX : Hid (Ext w wq0) := FX.out.trans xq0
          clear qp0 qp1 qp2 qp3 qp4 qp5 qp6 qp7 xq0 HM
          have qp0 : wq0.cell? ⟨np, 0, none⟩ = some (.bool on) := Fp.out.c 0 rfl
          have qp1 : wq0.cell? ⟨np, 1, none⟩ = some (.int .i64 y0) := Fp.out.c 1 rfl
          have qp2 : wq0.cell? ⟨np, 2, none⟩ = some (.int .i64 y1) := Fp.out.c 2 rfl
          have qp3 : wq0.cell? ⟨np, 3, none⟩ = some (.int .i64 y2) := Fp.out.c 3 rfl
          have qp4 : wq0.cell? ⟨np, 4, none⟩ = some (.int .i64 s) := Fp.out.c 4 rfl
          have qp5 : wq0.cell? ⟨np, 5, none⟩ = some (.int .i64 v0) := Fp.out.c 5 rfl
          have qp6 : wq0.cell? ⟨np, 6, none⟩ = some (.int .i64 v1) := Fp.out.c 6 rfl
          have qp7 : wq0.cell? ⟨np, 7, none⟩ = some (.int .i64 v2) := Fp.out.c 7 rfl
          go_upto_region 10 with (first | (go_at_call 7; refine (HG.out _).mono ?_; rintro e wq1 ⟨rfl, xq1⟩; have kw0 : wq1.cell? ⟨nw, 0, none⟩ = some (.bool false) := (Fw.out.ext xq1).c 0 rfl; have zw0 : wq1.frozen? ⟨nw, 0, none⟩ = false := (Fw.out.ext xq1).f 0 rfl; have kw1 : wq1.cell? ⟨nw, 1, none⟩ = some (.int .i64 0) := (Fw.out.ext xq1).c 1 rfl; have zw1 : wq1.frozen? ⟨nw, 1, none⟩ = false := (Fw.out.ext xq1).f 1 rfl; have kw2 : wq1.cell? ⟨nw, 2, none⟩ = some (.int .i64 0) := (Fw.out.ext xq1).c 2 rfl; have zw2 : wq1.frozen? ⟨nw, 2, none⟩ = false := (Fw.out.ext xq1).f 2 rfl; have kw3 : wq1.cell? ⟨nw, 3, none⟩ = some (.int .i64 0) := (Fw.out.ext xq1).c 3 rfl; have zw3 : wq1.frozen? ⟨nw, 3, none⟩ = false := (Fw.out.ext xq1).f 3 rfl))
          have Fp : Hid (HV wq1 np [.bool on, .int .i64 y0, .int .i64 y1, .int .i64 y2, .int .i64 s, .int .i64 v0, .int .i64 v1, .int .i64 v2]) := Fp.out.ext xq1
          have Fw : Hid (HV wq1 nw [.bool false, .int .i64 0, .int .i64 0, .int .i64 0]) := Fw.out.ext xq1
          have FX : Hid (Ext w wq1) := FX.out.trans xq1
          clear qp0 qp1 qp2 qp3 qp4 qp5 qp6 qp7 xq1 HG kw0 kw1 kw2 kw3 zw0 zw1 zw2 zw3
          have Fp : Hid (HV ((((wq1.setCell ⟨nw, 0, none⟩ (.bool true)).setCell ⟨nw, 1, none⟩ (.int .i64 a0)).setCell ⟨nw, 2, none⟩ (.int .i64 a1)).setCell ⟨nw, 3, none⟩ (.int .i64 a2)) np [.bool on, .int .i64 y0, .int .i64 y1, .int .i64 y2, .int .i64 s, .int .i64 v0, .int .i64 v1, .int .i64 v2]) := ((((Fp.out.far (by omega)).far (by omega)).far (by omega)).far (by omega))
          have Fw : Hid (HV ((((wq1.setCell ⟨nw, 0, none⟩ (.bool true)).setCell ⟨nw, 1, none⟩ (.int .i64 a0)).setCell ⟨nw, 2, none⟩ (.int .i64 a1)).setCell ⟨nw, 3, none⟩ (.int .i64 a2)) nw [.bool true, .int .i64 a0, .int .i64 a1, .int .i64 a2]) := ((((Fw.out.set 0 (.bool true)).set 1 (.int .i64 a0)).set 2 (.int .i64 a1)).set 3 (.int .i64 a2))
          have FX : Hid (Ext w ((((wq1.setCell ⟨nw, 0, none⟩ (.bool true)).setCell ⟨nw, 1, none⟩ (.int .i64 a0)).setCell ⟨nw, 2, none⟩ (.int .i64 a1)).setCell ⟨nw, 3, none⟩ (.int .i64 a2))) := ((((FX.out.set (p := ⟨nw, 0, none⟩) Lw.out (.bool true)).set (p := ⟨nw, 1, none⟩) Lw.out (.int .i64 a0)).set (p := ⟨nw, 2, none⟩) Lw.out (.int .i64 a1)).set (p := ⟨nw, 3, none⟩) Lw.out (.int .i64 a2))
          generalize ((((wq1.setCell ⟨nw, 0, none⟩ (.bool true)).setCell ⟨nw, 1, none⟩ (.int .i64 a0)).setCell ⟨nw, 2, none⟩ (.int .i64 a1)).setCell ⟨nw, 3, none⟩ (.int .i64 a2)) = wx12 at *
          have qp0 : wx12.cell? ⟨np, 0, none⟩ = some (.bool on) := Fp.out.c 0 rfl
          have qp1 : wx12.cell? ⟨np, 1, none⟩ = some (.int .i64 y0) := Fp.out.c 1 rfl
          have qp2 : wx12.cell? ⟨np, 2, none⟩ = some (.int .i64 y1) := Fp.out.c 2 rfl
          have qp3 : wx12.cell? ⟨np, 3, none⟩ = some (.int .i64 y2) := Fp.out.c 3 rfl
          have qp4 : wx12.cell? ⟨np, 4, none⟩ = some (.int .i64 s) := Fp.out.c 4 rfl
          have qp5 : wx12.cell? ⟨np, 5, none⟩ = some (.int .i64 v0) := Fp.out.c 5 rfl
          have qp6 : wx12.cell? ⟨np, 6, none⟩ = some (.int .i64 v1) := Fp.out.c 6 rfl
          have qp7 : wx12.cell? ⟨np, 7, none⟩ = some (.int .i64 v2) := Fp.out.c 7 rfl
          go_upto_region 11 with (first | (go_at_call 8; refine (HT.out _).mono ?_; rintro e wq2 ⟨rfl, xq2⟩))
          have Fp : Hid (HV wq2 np [.bool on, .int .i64 y0, .int .i64 y1, .int .i64 y2, .int .i64 s, .int .i64 v0, .int .i64 v1, .int .i64 v2]) := Fp.out.ext xq2
          have Fw : Hid (HV wq2 nw [.bool true, .int .i64 a0, .int .i64 a1, .int .i64 a2]) := Fw.out.ext xq2
          have FX : Hid (Ext w wq2) := FX.out.trans xq2
          clear qp0 qp1 qp2 qp3 qp4 qp5 qp6 qp7 xq2 HT
          have ltpu : np < wq2.heap.size := Fp.out.1
          have ltwu : nw < wq2.heap.size := Fw.out.1
          have Lu : Hid (w.heap.size ≤ wq2.heap.size) := FX.out.size
          have Fp : Hid (HV (wq2.alloc (.cells #[.bool true, .int .i64 a0, .int .i64 a1, .int .i64 a2] 26)) np [.bool on, .int .i64 y0, .int .i64 y1, .int .i64 y2, .int .i64 s, .int .i64 v0, .int .i64 v1, .int .i64 v2]) := Fp.out.alloc _
          have Fw : Hid (HV (wq2.alloc (.cells #[.bool true, .int .i64 a0, .int .i64 a1, .int .i64 a2] 26)) nw [.bool true, .int .i64 a0, .int .i64 a1, .int .i64 a2]) := Fw.out.alloc _
          have Fu : Hid (HV (wq2.alloc (.cells #[.bool true, .int .i64 a0, .int .i64 a1, .int .i64 a2] 26)) wq2.heap.size [.bool true, .int .i64 a0, .int .i64 a1, .int .i64 a2]) := hv_at rfl
          have FX : Hid (Ext w (wq2.alloc (.cells #[.bool true, .int .i64 a0, .int .i64 a1, .int .i64 a2] 26))) := FX.out.alloc _
          generalize (wq2.alloc (.cells #[.bool true, .int .i64 a0, .int .i64 a1, .int .i64 a2] 26)) = wx13 at *
          generalize wq2.heap.size = nu at *
          have qu0 : wx13.cell? ⟨nu, 0, none⟩ = some (.bool true) := Fu.out.c 0 rfl
          have qu1 : wx13.cell? ⟨nu, 1, none⟩ = some (.int .i64 a0) := Fu.out.c 1 rfl
          have qu2 : wx13.cell? ⟨nu, 2, none⟩ = some (.int .i64 a1) := Fu.out.c 2 rfl
          have qu3 : wx13.cell? ⟨nu, 3, none⟩ = some (.int .i64 a2) := Fu.out.c 3 rfl
          have qw0 : wx13.cell? ⟨nw, 0, none⟩ = some (.bool true) := Fw.out.c 0 rfl
          have qw1 : wx13.cell? ⟨nw, 1, none⟩ = some (.int .i64 a0) := Fw.out.c 1 rfl
          have qw2 : wx13.cell? ⟨nw, 2, none⟩ = some (.int .i64 a1) := Fw.out.c 2 rfl
          have qw3 : wx13.cell? ⟨nw, 3, none⟩ = some (.int .i64 a2) := Fw.out.c 3 rfl
          go_wp2_with (go_at_call 9; refine (num12_any _ _).mono ?_; rintro e wx ⟨rfl, hwx⟩; have hwy := hwx.symm; clear hwx; subst hwy)
          go_roundw
          case rel => exact ⟨k + 1, by omega, by go_num, FX⟩
          case measure => simp [intOf]; omega
      · go_wp2_with fail
        refine (wakes12_any _).mono ?_
        rintro e w1 ⟨rfl, x1⟩
        have E1 : Ext w w1 := FX.out.trans x1
        go_wp2_with fail
        go_ret
        exact ⟨rfl, E1⟩
    · have hk' : k = len := by omega
      subst hk'
      go_wp2_with fail
      refine (wakes12_any _).mono ?_
      rintro e w1 ⟨rfl, x1⟩
      have E1 : Ext w w1 := FX.out.trans x1
      go_wp2_with fail
      go_ret
      exact ⟨rfl, E1⟩
set_option maxRecDepth 20000 in
set_option maxHeartbeats 4000000 in
theorem lowexact_none (a : Option Addr) (cap : Nat) (w : World) :
    Calls Try.prog 3 #[.slice a 0 cap] w fun e w' => e = .returned (.bool true) ∧ Ext w w' := by
  go_enter Try.func3, Try.ntmps3
  go_wp2_with fail
  go_loopw [3] (fun i wr => i = .int .i64 0 ∧ Hid (Ext w wr)) (fun _ _ => 0)
  case atStart => exact ⟨rfl, Ext.refl _⟩
  case round =>
    obtain ⟨rfl, FX⟩ := hrel
    go_wp2_with fail
    refine (wakes12_any _).mono ?_
    rintro e w1 ⟨rfl, x1⟩
    have E1 : Ext w w1 := FX.out.trans x1
    go_wp2_with fail
    go_ret
    exact ⟨rfl, E1⟩
end Go.Proofs.Ytbbnbpghhdmhaaa
