/- LowSettles. -/
import Derived.Test.YtbbnbpghhdmhaaaLoBa
import Derived.Test.YtbbnbpghhdmhaaaLoN
namespace Go.Proofs.Ytbbnbpghhdmhaaa
open Go.RowKit Go.Shelf
/-- one sample more -/
theorem settle_step (z0 z1 z2 : Int) (n : Nat) (v0 v1 v2 : Int) (h : okA z0 z1 z2 n v0 v1 v2 = true) (j : Nat) (hc : Cme (pw n) j (aw z0 v0)) (hf : pw n < aw z0 v0) : ∃ r0 r1 r2 f' : Int,
    (∀ w, Calls Try.prog 8 #[.agg #[.bool true, .int .i64 z0, .int .i64 z1, .int .i64 z2], .int .i64 (n : Int), .agg #[.int .i64 v0, .int .i64 v1, .int .i64 v2]] w fun e w' => e = .returned (.tuple #[.agg #[.bool true, .int .i64 r0, .int .i64 r1, .int .i64 r2], .int .i64 0]) ∧ Ext w w') ∧
    (∀ w, Calls Try.prog 13 #[.int .i64 r0, .int .i64 v0] w fun e w' => e = .returned (.int .i64 f') ∧ w' = w) ∧ f' = aw r0 v0 ∧ okA r0 r1 r2 n v0 v1 v2 = true ∧ Cme (pw n) (j + 1) f' ∧ f' ≤ aw z0 v0 := by
  obtain ⟨a, b, c⟩ := okA_parts h
  obtain ⟨a1, a2⟩ := okSh_iff.1 a
  obtain ⟨b0, b1, b2⟩ := ok3_parts b
  obtain ⟨c0, c1, c2⟩ := ok3_parts c
  have hr : ok3 (lw n z0 v0) (lw n z1 v1) (lw n z2 v2) = true := by unfold ok3; rw [lw_ok n z0 v0 a b0 c0, lw_ok n z1 v1 a b1 c1, lw_ok n z2 v2 a b2 c2]; rfl
  have hp := pw_bounds a1 a2
  have hn := near_far (pw n) z0 v0 (lw n z0 v0) hp.1 (lw_near n z0 v0 a1 a2)
  refine ⟨_, _, _, aw (lw n z0 v0) v0, fun w => otake_on _ _ _ _ _ _ _ w h, fun w => away_any _ _ w (lw_ok n z0 v0 a b0 c0) c0, rfl, okA_of a hr c, cme_step _ _ _ j hp.1 hc hn, ?_⟩
  have e : (pw n - 1) * aw z0 v0 = pw n * aw z0 v0 - aw z0 v0 := by grind
  rw [e] at hn
  by_cases hg : aw (lw n z0 v0) v0 ≤ aw z0 v0
  · exact hg
  · exfalso
    have m := Int.mul_le_mul_of_nonneg_left (show aw z0 v0 + 1 ≤ aw (lw n z0 v0) v0 by omega) (show 0 ≤ pw n by omega)
    rw [Int.mul_add, Int.mul_one] at m
    omega
theorem settle_begin (y0 y1 y2 : Int) (n : Nat) (v0 v1 v2 : Int) (h : okA y0 y1 y2 n v0 v1 v2 = true) : Cme (pw n) 0 (aw y0 v0) ∧ ∀ w, Calls Try.prog 13 #[.int .i64 y0, .int .i64 v0] w fun e w' => e = .returned (.int .i64 (aw y0 v0)) ∧ w' = w := by
  obtain ⟨a, b, c⟩ := okA_parts h
  obtain ⟨a1, a2⟩ := okSh_iff.1 a
  obtain ⟨b0, b1, b2⟩ := ok3_parts b
  obtain ⟨c0, c1, c2⟩ := ok3_parts c
  have g0 := okW_bounds b0
  have g1 := okW_bounds c0
  exact ⟨cme_zero _ _ (pw_bounds a1 a2).1 (by unfold aw; omega), fun w => away_any _ _ w b0 c0⟩
theorem pow_pw (n : Nat) (h : n ≤ 15) : wrap64 (2 ^ n) = pw n := by
  have h1 := pw_bounds (s := (n : Int)) (by omega) (by omega)
  have e : pw (n : Int) = 2 ^ n := by unfold pw; rw [Int.toNat_natCast]
  rw [← e]
  exact wrap_le _ (by omega) (by omega)
theorem pw_six (n : Nat) (h : n ≤ 6) : 1 ≤ pw n ∧ pw n ≤ 64 := by
  unfold pw
  rw [Int.toNat_natCast]
  revert h
  revert n
  decide
set_option maxRecDepth 20000 in
set_option maxHeartbeats 40000000 in
theorem lowsettles_any (b off len cap : Nat) (C : Nat → Nat → Value) (w : World) (hl : len ≤ maxLen) (hc : ML 8 (fun j => j == 0) w b off len C) :
    Calls Try.prog 5 #[.slice (some ⟨b, off, none⟩) len cap] w fun e w' => e = .returned (.bool true) ∧ Ext w w' := by
  have hl' : len ≤ 9223372036854775807 := by unfold maxLen at hl; omega
  clear hl
  go_enter Try.func5, Try.ntmps5
  go_wp2_with fail
  go_loopw [3] (fun i wr => ∃ k : Nat, k ≤ len ∧ i = .int .i64 k ∧ Hid (Ext w wr)) (fun i _ => len - (intOf i).toNat)
  case atStart => exact ⟨0, Nat.zero_le _, rfl, Ext.refl _⟩
  case round =>
    obtain ⟨k, hk, rfl, FX⟩ := hrel
    by_cases hlt : k < len
    · by_cases h5 : k < 3
      · skip
        obtain ⟨on, c0⟩ := (hc.ext FX.out).bool hlt (j := 0) (by omega) rfl
        rw [Nat.add_zero] at c0
        obtain ⟨y0, c1, _⟩ := (hc.ext FX.out).num hlt (j := 1) (by omega) rfl
        obtain ⟨y1, c2, _⟩ := (hc.ext FX.out).num hlt (j := 2) (by omega) rfl
        obtain ⟨y2, c3, _⟩ := (hc.ext FX.out).num hlt (j := 3) (by omega) rfl
        obtain ⟨s, c4, _⟩ := (hc.ext FX.out).num hlt (j := 4) (by omega) rfl
        obtain ⟨v0, c5, _⟩ := (hc.ext FX.out).num hlt (j := 5) (by omega) rfl
        obtain ⟨v1, c6, _⟩ := (hc.ext FX.out).num hlt (j := 6) (by omega) rfl
        obtain ⟨v2, c7, _⟩ := (hc.ext FX.out).num hlt (j := 7) (by omega) rfl
        have hlt' : (k : Int) < (len : Int) := by omega
        clear hc
        go_upto_region 5 with fail
        clear c0 c1 c2 c3 c4 c5 c6 c7
        have Lp : Hid (w.heap.size ≤ wr.heap.size) := FX.out.size
        have Fp : Hid (HV (wr.alloc (.cells #[.bool on, .int .i64 y0, .int .i64 y1, .int .i64 y2, .int .i64 s, .int .i64 v0, .int .i64 v1, .int .i64 v2] 28)) wr.heap.size [.bool on, .int .i64 y0, .int .i64 y1, .int .i64 y2, .int .i64 s, .int .i64 v0, .int .i64 v1, .int .i64 v2]) := hv_at rfl
        have FX : Hid (Ext w (wr.alloc (.cells #[.bool on, .int .i64 y0, .int .i64 y1, .int .i64 y2, .int .i64 s, .int .i64 v0, .int .i64 v1, .int .i64 v2] 28))) := FX.out.alloc _
        generalize (wr.alloc (.cells #[.bool on, .int .i64 y0, .int .i64 y1, .int .i64 y2, .int .i64 s, .int .i64 v0, .int .i64 v1, .int .i64 v2] 28)) = wx1 at *
        generalize wr.heap.size = np at *
        have HM : Hid (∀ w, Calls Try.prog 6 #[.agg #[.bool on, .int .i64 y0, .int .i64 y1, .int .i64 y2, .int .i64 s, .int .i64 v0, .int .i64 v1, .int .i64 v2]] w fun e w' => e = .returned (.bool (okA y0 y1 y2 s v0 v1 v2)) ∧ Ext w w') := may12_any _ _ _ _ _ _ _ _
        cases ho : okA y0 y1 y2 s v0 v1 v2
        · rw [ho] at HM
          clear ho
          have qp0 : wx1.cell? ⟨np, 0, none⟩ = some (.bool on) := Fp.out.c 0 rfl
          have qp1 : wx1.cell? ⟨np, 1, none⟩ = some (.int .i64 y0) := Fp.out.c 1 rfl
          have qp2 : wx1.cell? ⟨np, 2, none⟩ = some (.int .i64 y1) := Fp.out.c 2 rfl
          have qp3 : wx1.cell? ⟨np, 3, none⟩ = some (.int .i64 y2) := Fp.out.c 3 rfl
          have qp4 : wx1.cell? ⟨np, 4, none⟩ = some (.int .i64 s) := Fp.out.c 4 rfl
          have qp5 : wx1.cell? ⟨np, 5, none⟩ = some (.int .i64 v0) := Fp.out.c 5 rfl
          have qp6 : wx1.cell? ⟨np, 6, none⟩ = some (.int .i64 v1) := Fp.out.c 6 rfl
          have qp7 : wx1.cell? ⟨np, 7, none⟩ = some (.int .i64 v2) := Fp.out.c 7 rfl
          go_wp2_with fail
          refine (HM.out _).mono ?_
          rintro e wq0 ⟨rfl, xq0⟩
          have Fp : Hid (HV wq0 np [.bool on, .int .i64 y0, .int .i64 y1, .int .i64 y2, .int .i64 s, .int .i64 v0, .int .i64 v1, .int .i64 v2]) := Fp.out.ext xq0
          have FX : Hid (Ext w wq0) := FX.out.trans xq0
          clear qp0 qp1 qp2 qp3 qp4 qp5 qp6 qp7 xq0 HM
          go_wp2_with fail
          go_roundw
          case rel => exact ⟨k + 1, by omega, by go_num, FX⟩
          case measure => simp [intOf]; omega
        · by_cases h6 : s ≤ 6
          · obtain ⟨n, en⟩ := Int.eq_ofNat_of_zero_le ((okSh_iff.1 (okA_parts ho).1).1)
            subst en
            have hn6 : n ≤ 6 := by omega
            have hp6 : Hid (1 ≤ pw n ∧ pw n ≤ 64) := pw_six n hn6
            have ep : wrap64 (2 ^ n) = pw n := pow_pw n (by omega)
            obtain ⟨hc0, HA0⟩ := settle_begin y0 y1 y2 n v0 v1 v2 ho
            have HA : Hid (∀ w, Calls Try.prog 13 #[.int .i64 y0, .int .i64 v0] w fun e w' => e = .returned (.int .i64 (aw y0 v0)) ∧ w' = w) := HA0
            have HS : Hid (∀ (z0 z1 z2 : Int), okA z0 z1 z2 n v0 v1 v2 = true → ∀ j : Nat, Cme (pw n) j (aw z0 v0) → pw n < aw z0 v0 → ∃ r0 r1 r2 f' : Int, (∀ w, Calls Try.prog 8 #[.agg #[.bool true, .int .i64 z0, .int .i64 z1, .int .i64 z2], .int .i64 (n : Int), .agg #[.int .i64 v0, .int .i64 v1, .int .i64 v2]] w fun e w' => e = .returned (.tuple #[.agg #[.bool true, .int .i64 r0, .int .i64 r1, .int .i64 r2], .int .i64 0]) ∧ Ext w w') ∧ (∀ w, Calls Try.prog 13 #[.int .i64 r0, .int .i64 v0] w fun e w' => e = .returned (.int .i64 f') ∧ w' = w) ∧ f' = aw r0 v0 ∧ okA r0 r1 r2 n v0 v1 v2 = true ∧ Cme (pw n) (j + 1) f' ∧ f' ≤ aw z0 v0) := fun z0 z1 z2 h j hc hf => settle_step z0 z1 z2 n v0 v1 v2 h j hc hf
            have IC : Hid (Cme (pw n) 0 (aw y0 v0)) := hc0
            have IW : Hid (okA y0 y1 y2 n v0 v1 v2 = true) := ho
            rw [ho] at HM
            clear ho hc0 HA0
            generalize pw n = p at *
            have qp0 : wx1.cell? ⟨np, 0, none⟩ = some (.bool on) := Fp.out.c 0 rfl
            have qp1 : wx1.cell? ⟨np, 1, none⟩ = some (.int .i64 y0) := Fp.out.c 1 rfl
            have qp2 : wx1.cell? ⟨np, 2, none⟩ = some (.int .i64 y1) := Fp.out.c 2 rfl
            have qp3 : wx1.cell? ⟨np, 3, none⟩ = some (.int .i64 y2) := Fp.out.c 3 rfl
            have qp4 : wx1.cell? ⟨np, 4, none⟩ = some (.int .i64 (n : Int)) := Fp.out.c 4 rfl
            have qp5 : wx1.cell? ⟨np, 5, none⟩ = some (.int .i64 v0) := Fp.out.c 5 rfl
            have qp6 : wx1.cell? ⟨np, 6, none⟩ = some (.int .i64 v1) := Fp.out.c 6 rfl
            have qp7 : wx1.cell? ⟨np, 7, none⟩ = some (.int .i64 v2) := Fp.out.c 7 rfl
            go_upto_region 6 with (first | (go_at_call 6; refine (HM.out _).mono ?_; rintro e wq0 ⟨rfl, xq0⟩; have kp4 : wq0.cell? ⟨np, 4, none⟩ = some (.int .i64 (n : Int)) := (Fp.out.ext xq0).c 4 rfl))
            have Fp : Hid (HV wq0 np [.bool on, .int .i64 y0, .int .i64 y1, .int .i64 y2, .int .i64 (n : Int), .int .i64 v0, .int .i64 v1, .int .i64 v2]) := Fp.out.ext xq0
            have FX : Hid (Ext w wq0) := FX.out.trans xq0
            clear qp0 qp1 qp2 qp3 qp4 qp5 qp6 qp7 xq0 HM kp4
            have qp1 : wq0.cell? ⟨np, 1, none⟩ = some (.int .i64 y0) := Fp.out.c 1 rfl
            have qp2 : wq0.cell? ⟨np, 2, none⟩ = some (.int .i64 y1) := Fp.out.c 2 rfl
            have qp3 : wq0.cell? ⟨np, 3, none⟩ = some (.int .i64 y2) := Fp.out.c 3 rfl
            go_upto_region 7 with fail
            clear qp1 qp2 qp3
            have ltpx : np < wq0.heap.size := Fp.out.1
            have Lx : Hid (w.heap.size ≤ wq0.heap.size) := FX.out.size
            have Fp : Hid (HV (wq0.alloc (.cells #[.bool true, .int .i64 y0, .int .i64 y1, .int .i64 y2] 26)) np [.bool on, .int .i64 y0, .int .i64 y1, .int .i64 y2, .int .i64 (n : Int), .int .i64 v0, .int .i64 v1, .int .i64 v2]) := Fp.out.alloc _
            have Fx : Hid (HV (wq0.alloc (.cells #[.bool true, .int .i64 y0, .int .i64 y1, .int .i64 y2] 26)) wq0.heap.size [.bool true, .int .i64 y0, .int .i64 y1, .int .i64 y2]) := hv_at rfl
            have FX : Hid (Ext w (wq0.alloc (.cells #[.bool true, .int .i64 y0, .int .i64 y1, .int .i64 y2] 26))) := FX.out.alloc _
            generalize (wq0.alloc (.cells #[.bool true, .int .i64 y0, .int .i64 y1, .int .i64 y2] 26)) = wx21 at *
            generalize wq0.heap.size = nx at *
            have qx1 : wx21.cell? ⟨nx, 1, none⟩ = some (.int .i64 y0) := Fx.out.c 1 rfl
            have qp5 : wx21.cell? ⟨np, 5, none⟩ = some (.int .i64 v0) := Fp.out.c 5 rfl
            go_upto_region 8 with (first | (go_at_call 13; refine (HA.out _).mono ?_; rintro e wx ⟨rfl, hwx⟩; have hwy := hwx.symm; clear hwx; subst hwy))
            clear qx1 qp5 HA
            generalize wx21 = wb at *
            go_wp2_with fail
            go_loopw [6, 7] (fun f q wr => ∃ (j : Nat) (z0 z1 z2 : Int), Hid (j ≤ 3000) ∧ q = .int .i64 (j : Int) ∧ f = .int .i64 (aw z0 v0) ∧ Hid (okA z0 z1 z2 n v0 v1 v2 = true) ∧ Hid (Cme p j (aw z0 v0)) ∧ Hid (HV wr nx [.bool true, .int .i64 z0, .int .i64 z1, .int .i64 z2]) ∧ Hid (HV wr np [.bool on, .int .i64 y0, .int .i64 y1, .int .i64 y2, .int .i64 (n : Int), .int .i64 v0, .int .i64 v1, .int .i64 v2]) ∧ Hid (Ext w wr)) (fun _ q _ => 3000 - (intOf q).toNat)
            case atStart =>
              exact ⟨0, y0, y1, y2, Nat.zero_le _, rfl, rfl, IW, IC, Fx, Fp, FX⟩
            case round =>
              clear Fx Fp FX IW IC
              obtain ⟨j, z0, z1, z2, hj, rfl, rfl, IW, IC, Fx, Fp, FX⟩ := hrel
              by_cases hj2 : j < 3000
              · have hj3 : (j : Int) < 3000 := by omega
                by_cases hf : p < aw z0 v0
                · obtain ⟨r0, r1, r2, f', T10, A10, ef0, ok, hc, hle⟩ := HS.out z0 z1 z2 IW.out j IC.out hf
                  have T1 : Hid (∀ w, Calls Try.prog 8 #[.agg #[.bool true, .int .i64 z0, .int .i64 z1, .int .i64 z2], .int .i64 (n : Int), .agg #[.int .i64 v0, .int .i64 v1, .int .i64 v2]] w fun e w' => e = .returned (.tuple #[.agg #[.bool true, .int .i64 r0, .int .i64 r1, .int .i64 r2], .int .i64 0]) ∧ Ext w w') := T10
                  have A1 : Hid (∀ w, Calls Try.prog 13 #[.int .i64 r0, .int .i64 v0] w fun e w' => e = .returned (.int .i64 f') ∧ w' = w) := A10
                  have ef : Hid (f' = aw r0 v0) := ef0
                  have IW1 : Hid (okA r0 r1 r2 n v0 v1 v2 = true) := ok
                  have IC1 : Hid (Cme p (j + 1) f') := hc
                  clear HS ok hc T10 A10 ef0 IW IC
                  generalize aw z0 v0 = f at *
                  have qp4 : wr.cell? ⟨np, 4, none⟩ = some (.int .i64 (n : Int)) := Fp.out.c 4 rfl
                  go_upto_region 11 with fail
                  clear qp4
                  have qx0 : wr.cell? ⟨nx, 0, none⟩ = some (.bool true) := Fx.out.c 0 rfl
                  have qx1 : wr.cell? ⟨nx, 1, none⟩ = some (.int .i64 z0) := Fx.out.c 1 rfl
                  have qx2 : wr.cell? ⟨nx, 2, none⟩ = some (.int .i64 z1) := Fx.out.c 2 rfl
                  have qx3 : wr.cell? ⟨nx, 3, none⟩ = some (.int .i64 z2) := Fx.out.c 3 rfl
                  have qp4 : wr.cell? ⟨np, 4, none⟩ = some (.int .i64 (n : Int)) := Fp.out.c 4 rfl
                  have qp5 : wr.cell? ⟨np, 5, none⟩ = some (.int .i64 v0) := Fp.out.c 5 rfl
                  have qp6 : wr.cell? ⟨np, 6, none⟩ = some (.int .i64 v1) := Fp.out.c 6 rfl
                  have qp7 : wr.cell? ⟨np, 7, none⟩ = some (.int .i64 v2) := Fp.out.c 7 rfl
                  go_upto_region 12 with (first | (go_at_call 8; refine (T1.out _).mono ?_; rintro e wq1 ⟨rfl, xq1⟩))
                  have Fx : Hid (HV wq1 nx [.bool true, .int .i64 z0, .int .i64 z1, .int .i64 z2]) := Fx.out.ext xq1
                  have Fp : Hid (HV wq1 np [.bool on, .int .i64 y0, .int .i64 y1, .int .i64 y2, .int .i64 (n : Int), .int .i64 v0, .int .i64 v1, .int .i64 v2]) := Fp.out.ext xq1
                  have FX : Hid (Ext w wq1) := FX.out.trans xq1
                  clear qx0 qx1 qx2 qx3 qp4 qp5 qp6 qp7 xq1 T1
                  have ltxu : nx < wq1.heap.size := Fx.out.1
                  have ltpu : np < wq1.heap.size := Fp.out.1
                  have Lu : Hid (w.heap.size ≤ wq1.heap.size) := FX.out.size
                  have Fx : Hid (HV (wq1.alloc (.cells #[.bool true, .int .i64 r0, .int .i64 r1, .int .i64 r2] 26)) nx [.bool true, .int .i64 z0, .int .i64 z1, .int .i64 z2]) := Fx.out.alloc _
                  have Fp : Hid (HV (wq1.alloc (.cells #[.bool true, .int .i64 r0, .int .i64 r1, .int .i64 r2] 26)) np [.bool on, .int .i64 y0, .int .i64 y1, .int .i64 y2, .int .i64 (n : Int), .int .i64 v0, .int .i64 v1, .int .i64 v2]) := Fp.out.alloc _
                  have Fu : Hid (HV (wq1.alloc (.cells #[.bool true, .int .i64 r0, .int .i64 r1, .int .i64 r2] 26)) wq1.heap.size [.bool true, .int .i64 r0, .int .i64 r1, .int .i64 r2]) := hv_at rfl
                  have FX : Hid (Ext w (wq1.alloc (.cells #[.bool true, .int .i64 r0, .int .i64 r1, .int .i64 r2] 26))) := FX.out.alloc _
                  generalize (wq1.alloc (.cells #[.bool true, .int .i64 r0, .int .i64 r1, .int .i64 r2] 26)) = wx31 at *
                  generalize wq1.heap.size = nu at *
                  have qu0 : wx31.cell? ⟨nu, 0, none⟩ = some (.bool true) := Fu.out.c 0 rfl
                  have qu1 : wx31.cell? ⟨nu, 1, none⟩ = some (.int .i64 r0) := Fu.out.c 1 rfl
                  have qu2 : wx31.cell? ⟨nu, 2, none⟩ = some (.int .i64 r1) := Fu.out.c 2 rfl
                  have qu3 : wx31.cell? ⟨nu, 3, none⟩ = some (.int .i64 r2) := Fu.out.c 3 rfl
                  have qp5 : wx31.cell? ⟨np, 5, none⟩ = some (.int .i64 v0) := Fp.out.c 5 rfl
                  go_upto_region 14 with (first | (go_at_call 9; refine (num12_any _ _).mono ?_; rintro e wx ⟨rfl, hwx⟩; have hwy := hwx.symm; clear hwx; subst hwy) | (go_at_call 13; refine (A1.out _).mono ?_; rintro e wx ⟨rfl, hwx⟩; have hwy := hwx.symm; clear hwx; subst hwy))
                  go_upto_region 15 with (first | (go_at_call 13; refine (A1.out _).mono ?_; rintro e wx ⟨rfl, hwx⟩; have hwy := hwx.symm; clear hwx; subst hwy))
                  clear qu0 qu1 qu2 qu3 qp5 A1
                  have qu0 : wx31.cell? ⟨nu, 0, none⟩ = some (.bool true) := Fu.out.c 0 rfl
                  have qu1 : wx31.cell? ⟨nu, 1, none⟩ = some (.int .i64 r0) := Fu.out.c 1 rfl
                  have qu2 : wx31.cell? ⟨nu, 2, none⟩ = some (.int .i64 r1) := Fu.out.c 2 rfl
                  have qu3 : wx31.cell? ⟨nu, 3, none⟩ = some (.int .i64 r2) := Fu.out.c 3 rfl
                  have qx0 : wx31.cell? ⟨nx, 0, none⟩ = some (.bool true) := Fx.out.c 0 rfl
                  have zx0 : wx31.frozen? ⟨nx, 0, none⟩ = false := Fx.out.f 0 rfl
                  have qx1 : wx31.cell? ⟨nx, 1, none⟩ = some (.int .i64 z0) := Fx.out.c 1 rfl
                  have zx1 : wx31.frozen? ⟨nx, 1, none⟩ = false := Fx.out.f 1 rfl
                  have qx2 : wx31.cell? ⟨nx, 2, none⟩ = some (.int .i64 z1) := Fx.out.c 2 rfl
                  have zx2 : wx31.frozen? ⟨nx, 2, none⟩ = false := Fx.out.f 2 rfl
                  have qx3 : wx31.cell? ⟨nx, 3, none⟩ = some (.int .i64 z2) := Fx.out.c 3 rfl
                  have zx3 : wx31.frozen? ⟨nx, 3, none⟩ = false := Fx.out.f 3 rfl
                  go_wp2_with fail
                  go_roundw
                  case rel => exact ⟨j + 1, r0, r1, r2, (by show j + 1 ≤ 3000; omega), by go_num, by rw [ef.out], IW1, (by rw [← ef.out]; exact IC1), ((((Fx.out.set 0 (.bool true)).set 1 (.int .i64 r0)).set 2 (.int .i64 r1)).set 3 (.int .i64 r2)), ((((Fp.out.far (by omega)).far (by omega)).far (by omega)).far (by omega)), ((((FX.out.set (p := ⟨nx, 0, none⟩) Lx.out _).set (p := ⟨nx, 1, none⟩) Lx.out _).set (p := ⟨nx, 2, none⟩) Lx.out _).set (p := ⟨nx, 3, none⟩) Lx.out _)⟩
                  case measure => simp [intOf]; omega
                · clear HS IW IC
                  generalize aw z0 v0 = f at *
                  have qp4 : wr.cell? ⟨np, 4, none⟩ = some (.int .i64 (n : Int)) := Fp.out.c 4 rfl
                  go_wp2_with fail
                  go_roundw
                  case rel => exact ⟨k + 1, by omega, by go_num, FX⟩
                  case measure => simp [intOf]; omega
              · have hj3 : ¬ ((j : Int) < 3000) := by omega
                have hf : ¬ p < aw z0 v0 := by have := cme_end p _ j (by have := hj.out; omega) hp6.out.1 hp6.out.2 IC.out; have := hp6.out.1; omega
                clear HS IW IC hj2
                generalize aw z0 v0 = f at *
                have qp4 : wr.cell? ⟨np, 4, none⟩ = some (.int .i64 (n : Int)) := Fp.out.c 4 rfl
                go_wp2_with fail
                go_roundw
                case rel => exact ⟨k + 1, by omega, by go_num, FX⟩
                case measure => simp [intOf]; omega
          · rw [ho] at HM
            clear ho
            have qp0 : wx1.cell? ⟨np, 0, none⟩ = some (.bool on) := Fp.out.c 0 rfl
            have qp1 : wx1.cell? ⟨np, 1, none⟩ = some (.int .i64 y0) := Fp.out.c 1 rfl
            have qp2 : wx1.cell? ⟨np, 2, none⟩ = some (.int .i64 y1) := Fp.out.c 2 rfl
            have qp3 : wx1.cell? ⟨np, 3, none⟩ = some (.int .i64 y2) := Fp.out.c 3 rfl
            have qp4 : wx1.cell? ⟨np, 4, none⟩ = some (.int .i64 s) := Fp.out.c 4 rfl
            have qp5 : wx1.cell? ⟨np, 5, none⟩ = some (.int .i64 v0) := Fp.out.c 5 rfl
            have qp6 : wx1.cell? ⟨np, 6, none⟩ = some (.int .i64 v1) := Fp.out.c 6 rfl
            have qp7 : wx1.cell? ⟨np, 7, none⟩ = some (.int .i64 v2) := Fp.out.c 7 rfl
            go_wp2_with fail
            refine (HM.out _).mono ?_
            rintro e wq0 ⟨rfl, xq0⟩
            have Fp : Hid (HV wq0 np [.bool on, .int .i64 y0, .int .i64 y1, .int .i64 y2, .int .i64 s, .int .i64 v0, .int .i64 v1, .int .i64 v2]) := Fp.out.ext xq0
            have FX : Hid (Ext w wq0) := FX.out.trans xq0
            clear qp0 qp1 qp2 qp3 qp4 qp5 qp6 qp7 xq0 HM
            have qp4 : wq0.cell? ⟨np, 4, none⟩ = some (.int .i64 s) := Fp.out.c 4 rfl
            go_wp2_with fail
            go_roundw
            case rel => exact ⟨k + 1, by omega, by go_num, FX⟩
            case measure => simp [intOf]; omega
      · go_wp2_with fail
        refine (wakes12_any _).mono ?_
        rintro e w1 ⟨rfl, x1⟩
        have E1 : Ext w w1 := FX.out.trans x1
        go_wp2_with fail
        go_ret
        exact ⟨rfl, E1⟩
    · have hk' : k = len := by omega
      subst hk'
      go_wp2_with fail
      refine (wakes12_any _).mono ?_
      rintro e w1 ⟨rfl, x1⟩
      have E1 : Ext w w1 := FX.out.trans x1
      go_wp2_with fail
      go_ret
      exact ⟨rfl, E1⟩
set_option maxRecDepth 20000 in
set_option maxHeartbeats 4000000 in
theorem lowsettles_none (a : Option Addr) (cap : Nat) (w : World) :
    Calls Try.prog 5 #[.slice a 0 cap] w fun e w' => e = .returned (.bool true) ∧ Ext w w' := by
  go_enter Try.func5, Try.ntmps5
  go_wp2_with fail
  go_loopw [3] (fun i wr => i = .int .i64 0 ∧ Hid (Ext w wr)) (fun _ _ => 0)
  case atStart => exact ⟨rfl, Ext.refl _⟩
  case round =>
    obtain ⟨rfl, FX⟩ := hrel
    go_wp2_with fail
    refine (wakes12_any _).mono ?_
    rintro e w1 ⟨rfl, x1⟩
    have E1 : Ext w w1 := FX.out.trans x1
    go_wp2_with fail
    go_ret
    exact ⟨rfl, E1⟩
end Go.Proofs.Ytbbnbpghhdmhaaa
