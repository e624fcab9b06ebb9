/- FallExact. -/
import Derived.Test.YtleiiiagdkcckaaFb2
namespace Go.Proofs.Ytleiiiagdkcckaa
open Go.RowKit
set_option maxRecDepth 20000 in
set_option maxHeartbeats 40000000 in
theorem fallexact_any (b off len cap : Nat) (C : Nat → Nat → Value) (w : World) (hl : len ≤ maxLen) (hc : ML 5 (fun j => j == 0 || j == 1) w b off len C) :
    Calls Try.prog 3 #[.slice (some ⟨b, off, none⟩) len cap] w fun e w' => e = .returned (.bool true) ∧ Ext w w' := by
  have hl' : len ≤ 9223372036854775807 := by unfold maxLen at hl; omega
  clear hl
  go_enter Try.func3, Try.ntmps3
  go_wp2_with fail
  go_loopw [3] (fun i wr => ∃ k : Nat, k ≤ len ∧ i = .int .i64 k ∧ Hid (Ext w wr)) (fun i _ => len - (intOf i).toNat)
  case atStart => exact ⟨0, Nat.zero_le _, rfl, Ext.refl _⟩
  case round =>
    obtain ⟨k, hk, rfl, FX⟩ := hrel
    by_cases hlt : k < len
    · by_cases h5 : k < 80
      · skip
        obtain ⟨u, c0⟩ := (hc.ext FX.out).bool hlt (j := 0) (by omega) rfl
        rw [Nat.add_zero] at c0
        obtain ⟨tl, c1⟩ := (hc.ext FX.out).bool hlt (j := 1) (by omega) rfl
        obtain ⟨s, c2, _⟩ := (hc.ext FX.out).num hlt (j := 2) (by omega) rfl
        obtain ⟨m, c3, _⟩ := (hc.ext FX.out).num hlt (j := 3) (by omega) rfl
        obtain ⟨n, c4, _⟩ := (hc.ext FX.out).num hlt (j := 4) (by omega) rfl
        have hlt' : (k : Int) < (len : Int) := by omega
        clear hc
        go_upto_region 5 with fail
        clear c0 c1 c2 c3 c4
        have Lp : Hid (w.heap.size ≤ wr.heap.size) := FX.out.size
        have Fp : Hid (HV (wr.alloc (.cells #[.bool u, .bool tl, .int .i64 s, .int .i64 m, .int .i64 n] 26)) wr.heap.size [.bool u, .bool tl, .int .i64 s, .int .i64 m, .int .i64 n]) := hv_at rfl
        have FX : Hid (Ext w (wr.alloc (.cells #[.bool u, .bool tl, .int .i64 s, .int .i64 m, .int .i64 n] 26))) := FX.out.alloc _
        generalize (wr.alloc (.cells #[.bool u, .bool tl, .int .i64 s, .int .i64 m, .int .i64 n] 26)) = wx1 at *
        generalize wr.heap.size = np at *
        have HI : Hid (∀ w, Calls Try.prog 6 #[.agg #[.bool u, .bool tl, .int .i64 s]] w fun e w' => e = .returned (.bool (okF u tl s)) ∧ Ext w w') := mayfall_any u tl s
        have HM : Hid (∀ w, Calls Try.prog 7 #[.int .i64 m] w fun e w' => e = .returned (.bool (okMg m)) ∧ w' = w) := rmag_any m
        have HZ : Hid (∀ w, Calls Try.prog 8 #[.int .i64 n] w fun e w' => e = .returned (.bool (okTm n)) ∧ w' = w) := rtime_any n
        have HT0 := ftake_any u tl s m n
        cases a1 : okF u tl s
        · have eb : takeF u tl s m n = .tuple #[.agg #[.bool false, .bool false, .int .i64 0], .bool false, .int .i64 1] := by unfold takeF; rw [a1]; rfl
          rw [eb] at HT0
          rw [a1] at HI
          clear eb a1
          have HT : Hid (∀ w, Calls Try.prog 10 #[.agg #[.bool u, .bool tl, .int .i64 s], .int .i64 m, .int .i64 n] w fun e w' => e = .returned (.tuple #[.agg #[.bool false, .bool false, .int .i64 0], .bool false, .int .i64 1]) ∧ Ext w w') := HT0
          clear HT0
          go_upto_region 7 with fail
          have ltpw : np < wx1.heap.size := Fp.out.1
          have Lw : Hid (w.heap.size ≤ wx1.heap.size) := FX.out.size
          have Fp : Hid (HV (wx1.alloc (.cells #[.bool false, .bool false, .int .i64 0] 24)) np [.bool u, .bool tl, .int .i64 s, .int .i64 m, .int .i64 n]) := Fp.out.alloc _
          have Fw : Hid (HV (wx1.alloc (.cells #[.bool false, .bool false, .int .i64 0] 24)) wx1.heap.size [.bool false, .bool false, .int .i64 0]) := hv_at rfl
          have FX : Hid (Ext w (wx1.alloc (.cells #[.bool false, .bool false, .int .i64 0] 24))) := FX.out.alloc _
          generalize (wx1.alloc (.cells #[.bool false, .bool false, .int .i64 0] 24)) = wx11 at *
          generalize wx1.heap.size = nw at *
          have qp0 : wx11.cell? ⟨np, 0, none⟩ = some (.bool u) := Fp.out.c 0 rfl
          have qp1 : wx11.cell? ⟨np, 1, none⟩ = some (.bool tl) := Fp.out.c 1 rfl
          have qp2 : wx11.cell? ⟨np, 2, none⟩ = some (.int .i64 s) := Fp.out.c 2 rfl
          have qp3 : wx11.cell? ⟨np, 3, none⟩ = some (.int .i64 m) := Fp.out.c 3 rfl
          have qp4 : wx11.cell? ⟨np, 4, none⟩ = some (.int .i64 n) := Fp.out.c 4 rfl
          go_upto_region 11 with (first | (go_at_call 6; refine (HI.out _).mono ?_; rintro e wq0 ⟨rfl, xq0⟩; have kp3 : wq0.cell? ⟨np, 3, none⟩ = some (.int .i64 m) := (Fp.out.ext xq0).c 3 rfl; have kp4 : wq0.cell? ⟨np, 4, none⟩ = some (.int .i64 n) := (Fp.out.ext xq0).c 4 rfl; have kp2 : wq0.cell? ⟨np, 2, none⟩ = some (.int .i64 s) := (Fp.out.ext xq0).c 2 rfl))
          have Fp : Hid (HV wq0 np [.bool u, .bool tl, .int .i64 s, .int .i64 m, .int .i64 n]) := Fp.out.ext xq0
          have Fw : Hid (HV wq0 nw [.bool false, .bool false, .int .i64 0]) := Fw.out.ext xq0
          have FX : Hid (Ext w wq0) := FX.out.trans xq0
          clear qp0 qp1 qp2 qp3 qp4 xq0 HI HM HZ kp3 kp4 kp2
          have qp0 : wq0.cell? ⟨np, 0, none⟩ = some (.bool u) := Fp.out.c 0 rfl
          have qp1 : wq0.cell? ⟨np, 1, none⟩ = some (.bool tl) := Fp.out.c 1 rfl
          have qp2 : wq0.cell? ⟨np, 2, none⟩ = some (.int .i64 s) := Fp.out.c 2 rfl
          have qp3 : wq0.cell? ⟨np, 3, none⟩ = some (.int .i64 m) := Fp.out.c 3 rfl
          have qp4 : wq0.cell? ⟨np, 4, none⟩ = some (.int .i64 n) := Fp.out.c 4 rfl
          go_upto_region 12 with (first | (go_at_call 10; refine (HT.out _).mono ?_; rintro e wq2 ⟨rfl, xq2⟩))
          have Fp : Hid (HV wq2 np [.bool u, .bool tl, .int .i64 s, .int .i64 m, .int .i64 n]) := Fp.out.ext xq2
          have Fw : Hid (HV wq2 nw [.bool false, .bool false, .int .i64 0]) := Fw.out.ext xq2
          have FX : Hid (Ext w wq2) := FX.out.trans xq2
          clear qp0 qp1 qp2 qp3 qp4 xq2 HT
          have ltpu : np < wq2.heap.size := Fp.out.1
          have ltwu : nw < wq2.heap.size := Fw.out.1
          have Lu : Hid (w.heap.size ≤ wq2.heap.size) := FX.out.size
          have Fp : Hid (HV (wq2.alloc (.cells #[.bool false, .bool false, .int .i64 0] 24)) np [.bool u, .bool tl, .int .i64 s, .int .i64 m, .int .i64 n]) := Fp.out.alloc _
          have Fw : Hid (HV (wq2.alloc (.cells #[.bool false, .bool false, .int .i64 0] 24)) nw [.bool false, .bool false, .int .i64 0]) := Fw.out.alloc _
          have Fu : Hid (HV (wq2.alloc (.cells #[.bool false, .bool false, .int .i64 0] 24)) wq2.heap.size [.bool false, .bool false, .int .i64 0]) := hv_at rfl
          have FX : Hid (Ext w (wq2.alloc (.cells #[.bool false, .bool false, .int .i64 0] 24))) := FX.out.alloc _
          generalize (wq2.alloc (.cells #[.bool false, .bool false, .int .i64 0] 24)) = wx12 at *
          generalize wq2.heap.size = nu at *
          have qu0 : wx12.cell? ⟨nu, 0, none⟩ = some (.bool false) := Fu.out.c 0 rfl
          have qu1 : wx12.cell? ⟨nu, 1, none⟩ = some (.bool false) := Fu.out.c 1 rfl
          have qu2 : wx12.cell? ⟨nu, 2, none⟩ = some (.int .i64 0) := Fu.out.c 2 rfl
          have qw0 : wx12.cell? ⟨nw, 0, none⟩ = some (.bool false) := Fw.out.c 0 rfl
          have qw1 : wx12.cell? ⟨nw, 1, none⟩ = some (.bool false) := Fw.out.c 1 rfl
          have qw2 : wx12.cell? ⟨nw, 2, none⟩ = some (.int .i64 0) := Fw.out.c 2 rfl
          go_wp2_with (go_at_call 11; refine (num20_any _ _).mono ?_; rintro e wx ⟨rfl, hwx⟩; have hwy := hwx.symm; clear hwx; subst hwy)
          go_roundw
          case rel => exact ⟨k + 1, by omega, by go_num, FX⟩
          case measure => simp [intOf]; omega
        · cases a2 : okMg m
          · have eb : takeF u tl s m n = .tuple #[.agg #[.bool false, .bool false, .int .i64 0], .bool false, .int .i64 1] := by unfold takeF; rw [a1, a2]; rfl
            rw [eb] at HT0
            rw [a1] at HI
            rw [a2] at HM
            clear eb a1 a2
            have HT : Hid (∀ w, Calls Try.prog 10 #[.agg #[.bool u, .bool tl, .int .i64 s], .int .i64 m, .int .i64 n] w fun e w' => e = .returned (.tuple #[.agg #[.bool false, .bool false, .int .i64 0], .bool false, .int .i64 1]) ∧ Ext w w') := HT0
            clear HT0
            go_upto_region 7 with fail
            have ltpw : np < wx1.heap.size := Fp.out.1
            have Lw : Hid (w.heap.size ≤ wx1.heap.size) := FX.out.size
            have Fp : Hid (HV (wx1.alloc (.cells #[.bool false, .bool false, .int .i64 0] 24)) np [.bool u, .bool tl, .int .i64 s, .int .i64 m, .int .i64 n]) := Fp.out.alloc _
            have Fw : Hid (HV (wx1.alloc (.cells #[.bool false, .bool false, .int .i64 0] 24)) wx1.heap.size [.bool false, .bool false, .int .i64 0]) := hv_at rfl
            have FX : Hid (Ext w (wx1.alloc (.cells #[.bool false, .bool false, .int .i64 0] 24))) := FX.out.alloc _
            generalize (wx1.alloc (.cells #[.bool false, .bool false, .int .i64 0] 24)) = wx11 at *
            generalize wx1.heap.size = nw at *
            have qp0 : wx11.cell? ⟨np, 0, none⟩ = some (.bool u) := Fp.out.c 0 rfl
            have qp1 : wx11.cell? ⟨np, 1, none⟩ = some (.bool tl) := Fp.out.c 1 rfl
            have qp2 : wx11.cell? ⟨np, 2, none⟩ = some (.int .i64 s) := Fp.out.c 2 rfl
            have qp3 : wx11.cell? ⟨np, 3, none⟩ = some (.int .i64 m) := Fp.out.c 3 rfl
            have qp4 : wx11.cell? ⟨np, 4, none⟩ = some (.int .i64 n) := Fp.out.c 4 rfl
            go_upto_region 11 with (first | (go_at_call 6; refine (HI.out _).mono ?_; rintro e wq0 ⟨rfl, xq0⟩; have kp3 : wq0.cell? ⟨np, 3, none⟩ = some (.int .i64 m) := (Fp.out.ext xq0).c 3 rfl; have kp4 : wq0.cell? ⟨np, 4, none⟩ = some (.int .i64 n) := (Fp.out.ext xq0).c 4 rfl; have kp2 : wq0.cell? ⟨np, 2, none⟩ = some (.int .i64 s) := (Fp.out.ext xq0).c 2 rfl) | (go_at_call 7; refine (HM.out _).mono ?_; rintro e wx ⟨rfl, hwx⟩; have hwy := hwx.symm; clear hwx; subst hwy))
            have Fp : Hid (HV wq0 np [.bool u, .bool tl, .int .i64 s, .int .i64 m, .int .i64 n]) := Fp.out.ext xq0
            have Fw : Hid (HV wq0 nw [.bool false, .bool false, .int .i64 0]) := Fw.out.ext xq0
            have FX : Hid (Ext w wq0) := FX.out.trans xq0
            clear qp0 qp1 qp2 qp3 qp4 xq0 HI HM HZ kp3 kp4 kp2
            have qp0 : wq0.cell? ⟨np, 0, none⟩ = some (.bool u) := Fp.out.c 0 rfl
            have qp1 : wq0.cell? ⟨np, 1, none⟩ = some (.bool tl) := Fp.out.c 1 rfl
            have qp2 : wq0.cell? ⟨np, 2, none⟩ = some (.int .i64 s) := Fp.out.c 2 rfl
            have qp3 : wq0.cell? ⟨np, 3, none⟩ = some (.int .i64 m) := Fp.out.c 3 rfl
            have qp4 : wq0.cell? ⟨np, 4, none⟩ = some (.int .i64 n) := Fp.out.c 4 rfl
            go_upto_region 12 with (first | (go_at_call 10; refine (HT.out _).mono ?_; rintro e wq2 ⟨rfl, xq2⟩))
            have Fp : Hid (HV wq2 np [.bool u, .bool tl, .int .i64 s, .int .i64 m, .int .i64 n]) := Fp.out.ext xq2
            have Fw : Hid (HV wq2 nw [.bool false, .bool false, .int .i64 0]) := Fw.out.ext xq2
            have FX : Hid (Ext w wq2) := FX.out.trans xq2
            clear qp0 qp1 qp2 qp3 qp4 xq2 HT
            have ltpu : np < wq2.heap.size := Fp.out.1
            have ltwu : nw < wq2.heap.size := Fw.out.1
            have Lu : Hid (w.heap.size ≤ wq2.heap.size) := FX.out.size
            have Fp : Hid (HV (wq2.alloc (.cells #[.bool false, .bool false, .int .i64 0] 24)) np [.bool u, .bool tl, .int .i64 s, .int .i64 m, .int .i64 n]) := Fp.out.alloc _
            have Fw : Hid (HV (wq2.alloc (.cells #[.bool false, .bool false, .int .i64 0] 24)) nw [.bool false, .bool false, .int .i64 0]) := Fw.out.alloc _
            have Fu : Hid (HV (wq2.alloc (.cells #[.bool false, .bool false, .int .i64 0] 24)) wq2.heap.size [.bool false, .bool false, .int .i64 0]) := hv_at rfl
            have FX : Hid (Ext w (wq2.alloc (.cells #[.bool false, .bool false, .int .i64 0] 24))) := FX.out.alloc _
            generalize (wq2.alloc (.cells #[.bool false, .bool false, .int .i64 0] 24)) = wx12 at *
            generalize wq2.heap.size = nu at *
            have qu0 : wx12.cell? ⟨nu, 0, none⟩ = some (.bool false) := Fu.out.c 0 rfl
            have qu1 : wx12.cell? ⟨nu, 1, none⟩ = some (.bool false) := Fu.out.c 1 rfl
            have qu2 : wx12.cell? ⟨nu, 2, none⟩ = some (.int .i64 0) := Fu.out.c 2 rfl
            have qw0 : wx12.cell? ⟨nw, 0, none⟩ = some (.bool false) := Fw.out.c 0 rfl
            have qw1 : wx12.cell? ⟨nw, 1, none⟩ = some (.bool false) := Fw.out.c 1 rfl
            have qw2 : wx12.cell? ⟨nw, 2, none⟩ = some (.int .i64 0) := Fw.out.c 2 rfl
            go_wp2_with (go_at_call 11; refine (num20_any _ _).mono ?_; rintro e wx ⟨rfl, hwx⟩; have hwy := hwx.symm; clear hwx; subst hwy)
            go_roundw
            case rel => exact ⟨k + 1, by omega, by go_num, FX⟩
            case measure => simp [intOf]; omega
          · cases a3 : okTm n
            · have eb : takeF u tl s m n = .tuple #[.agg #[.bool false, .bool false, .int .i64 0], .bool false, .int .i64 1] := by unfold takeF; rw [a1, a2, a3]; rfl
              rw [eb] at HT0
              rw [a1] at HI
              rw [a2] at HM
              rw [a3] at HZ
              clear eb a1 a2 a3
              have HT : Hid (∀ w, Calls Try.prog 10 #[.agg #[.bool u, .bool tl, .int .i64 s], .int .i64 m, .int .i64 n] w fun e w' => e = .returned (.tuple #[.agg #[.bool false, .bool false, .int .i64 0], .bool false, .int .i64 1]) ∧ Ext w w') := HT0
              clear HT0
              go_upto_region 7 with fail
              have ltpw : np < wx1.heap.size := Fp.out.1
              have Lw : Hid (w.heap.size ≤ wx1.heap.size) := FX.out.size
              have Fp : Hid (HV (wx1.alloc (.cells #[.bool false, .bool false, .int .i64 0] 24)) np [.bool u, .bool tl, .int .i64 s, .int .i64 m, .int .i64 n]) := Fp.out.alloc _
              have Fw : Hid (HV (wx1.alloc (.cells #[.bool false, .bool false, .int .i64 0] 24)) wx1.heap.size [.bool false, .bool false, .int .i64 0]) := hv_at rfl
              have FX : Hid (Ext w (wx1.alloc (.cells #[.bool false, .bool false, .int .i64 0] 24))) := FX.out.alloc _
              generalize (wx1.alloc (.cells #[.bool false, .bool false, .int .i64 0] 24)) = wx11 at *
              generalize wx1.heap.size = nw at *
              have qp0 : wx11.cell? ⟨np, 0, none⟩ = some (.bool u) := Fp.out.c 0 rfl
              have qp1 : wx11.cell? ⟨np, 1, none⟩ = some (.bool tl) := Fp.out.c 1 rfl
              have qp2 : wx11.cell? ⟨np, 2, none⟩ = some (.int .i64 s) := Fp.out.c 2 rfl
              have qp3 : wx11.cell? ⟨np, 3, none⟩ = some (.int .i64 m) := Fp.out.c 3 rfl
              have qp4 : wx11.cell? ⟨np, 4, none⟩ = some (.int .i64 n) := Fp.out.c 4 rfl
              go_upto_region 11 with (first | (go_at_call 6; refine (HI.out _).mono ?_; rintro e wq0 ⟨rfl, xq0⟩; have kp3 : wq0.cell? ⟨np, 3, none⟩ = some (.int .i64 m) := (Fp.out.ext xq0).c 3 rfl; have kp4 : wq0.cell? ⟨np, 4, none⟩ = some (.int .i64 n) := (Fp.out.ext xq0).c 4 rfl; have kp2 : wq0.cell? ⟨np, 2, none⟩ = some (.int .i64 s) := (Fp.out.ext xq0).c 2 rfl) | (go_at_call 7; refine (HM.out _).mono ?_; rintro e wx ⟨rfl, hwx⟩; have hwy := hwx.symm; clear hwx; subst hwy) | (go_at_call 8; refine (HZ.out _).mono ?_; rintro e wx ⟨rfl, hwx⟩; have hwy := hwx.symm; clear hwx; subst hwy))
              have Fp : Hid (HV wq0 np [.bool u, .bool tl, .int .i64 s, .int .i64 m, .int .i64 n]) := Fp.out.ext xq0
              have Fw : Hid (HV wq0 nw [.bool false, .bool false, .int .i64 0]) := Fw.out.ext xq0
              have FX : Hid (Ext w wq0) := FX.out.trans xq0
              clear qp0 qp1 qp2 qp3 qp4 xq0 HI HM HZ kp3 kp4 kp2
              have qp0 : wq0.cell? ⟨np, 0, none⟩ = some (.bool u) := Fp.out.c 0 rfl
              have qp1 : wq0.cell? ⟨np, 1, none⟩ = some (.bool tl) := Fp.out.c 1 rfl
              have qp2 : wq0.cell? ⟨np, 2, none⟩ = some (.int .i64 s) := Fp.out.c 2 rfl
              have qp3 : wq0.cell? ⟨np, 3, none⟩ = some (.int .i64 m) := Fp.out.c 3 rfl
              have qp4 : wq0.cell? ⟨np, 4, none⟩ = some (.int .i64 n) := Fp.out.c 4 rfl
              go_upto_region 12 with (first | (go_at_call 10; refine (HT.out _).mono ?_; rintro e wq2 ⟨rfl, xq2⟩))
              have Fp : Hid (HV wq2 np [.bool u, .bool tl, .int .i64 s, .int .i64 m, .int .i64 n]) := Fp.out.ext xq2
              have Fw : Hid (HV wq2 nw [.bool false, .bool false, .int .i64 0]) := Fw.out.ext xq2
              have FX : Hid (Ext w wq2) := FX.out.trans xq2
              clear qp0 qp1 qp2 qp3 qp4 xq2 HT
              have ltpu : np < wq2.heap.size := Fp.out.1
              have ltwu : nw < wq2.heap.size := Fw.out.1
              have Lu : Hid (w.heap.size ≤ wq2.heap.size) := FX.out.size
              have Fp : Hid (HV (wq2.alloc (.cells #[.bool false, .bool false, .int .i64 0] 24)) np [.bool u, .bool tl, .int .i64 s, .int .i64 m, .int .i64 n]) := Fp.out.alloc _
              have Fw : Hid (HV (wq2.alloc (.cells #[.bool false, .bool false, .int .i64 0] 24)) nw [.bool false, .bool false, .int .i64 0]) := Fw.out.alloc _
              have Fu : Hid (HV (wq2.alloc (.cells #[.bool false, .bool false, .int .i64 0] 24)) wq2.heap.size [.bool false, .bool false, .int .i64 0]) := hv_at rfl
              have FX : Hid (Ext w (wq2.alloc (.cells #[.bool false, .bool false, .int .i64 0] 24))) := FX.out.alloc _
              generalize (wq2.alloc (.cells #[.bool false, .bool false, .int .i64 0] 24)) = wx12 at *
              generalize wq2.heap.size = nu at *
              have qu0 : wx12.cell? ⟨nu, 0, none⟩ = some (.bool false) := Fu.out.c 0 rfl
              have qu1 : wx12.cell? ⟨nu, 1, none⟩ = some (.bool false) := Fu.out.c 1 rfl
              have qu2 : wx12.cell? ⟨nu, 2, none⟩ = some (.int .i64 0) := Fu.out.c 2 rfl
              have qw0 : wx12.cell? ⟨nw, 0, none⟩ = some (.bool false) := Fw.out.c 0 rfl
              have qw1 : wx12.cell? ⟨nw, 1, none⟩ = some (.bool false) := Fw.out.c 1 rfl
              have qw2 : wx12.cell? ⟨nw, 2, none⟩ = some (.int .i64 0) := Fw.out.c 2 rfl
              go_wp2_with (go_at_call 11; refine (num20_any _ _).mono ?_; rintro e wx ⟨rfl, hwx⟩; have hwy := hwx.symm; clear hwx; subst hwy)
              go_roundw
              case rel => exact ⟨k + 1, by omega, by go_num, FX⟩
              case measure => simp [intOf]; omega
            · by_cases a4 : n < s
              · have eb : takeF u tl s m n = .tuple #[.agg #[.bool false, .bool false, .int .i64 0], .bool false, .int .i64 1] := by unfold takeF; rw [a1, a2, a3, if_neg (by simp; omega)]
                rw [eb] at HT0
                rw [a1] at HI
                rw [a2] at HM
                rw [a3] at HZ
                have a5 : decide (s ≤ n) = false := by simp; omega
                clear eb a1 a2 a3 a4
                have HT : Hid (∀ w, Calls Try.prog 10 #[.agg #[.bool u, .bool tl, .int .i64 s], .int .i64 m, .int .i64 n] w fun e w' => e = .returned (.tuple #[.agg #[.bool false, .bool false, .int .i64 0], .bool false, .int .i64 1]) ∧ Ext w w') := HT0
                clear HT0
                go_upto_region 7 with fail
                have ltpw : np < wx1.heap.size := Fp.out.1
                have Lw : Hid (w.heap.size ≤ wx1.heap.size) := FX.out.size
                have Fp : Hid (HV (wx1.alloc (.cells #[.bool false, .bool false, .int .i64 0] 24)) np [.bool u, .bool tl, .int .i64 s, .int .i64 m, .int .i64 n]) := Fp.out.alloc _
                have Fw : Hid (HV (wx1.alloc (.cells #[.bool false, .bool false, .int .i64 0] 24)) wx1.heap.size [.bool false, .bool false, .int .i64 0]) := hv_at rfl
                have FX : Hid (Ext w (wx1.alloc (.cells #[.bool false, .bool false, .int .i64 0] 24))) := FX.out.alloc _
                generalize (wx1.alloc (.cells #[.bool false, .bool false, .int .i64 0] 24)) = wx11 at *
                generalize wx1.heap.size = nw at *
                have qp0 : wx11.cell? ⟨np, 0, none⟩ = some (.bool u) := Fp.out.c 0 rfl
                have qp1 : wx11.cell? ⟨np, 1, none⟩ = some (.bool tl) := Fp.out.c 1 rfl
                have qp2 : wx11.cell? ⟨np, 2, none⟩ = some (.int .i64 s) := Fp.out.c 2 rfl
                have qp3 : wx11.cell? ⟨np, 3, none⟩ = some (.int .i64 m) := Fp.out.c 3 rfl
                have qp4 : wx11.cell? ⟨np, 4, none⟩ = some (.int .i64 n) := Fp.out.c 4 rfl
                go_upto_region 11 with (first | (go_at_call 6; refine (HI.out _).mono ?_; rintro e wq0 ⟨rfl, xq0⟩; have kp3 : wq0.cell? ⟨np, 3, none⟩ = some (.int .i64 m) := (Fp.out.ext xq0).c 3 rfl; have kp4 : wq0.cell? ⟨np, 4, none⟩ = some (.int .i64 n) := (Fp.out.ext xq0).c 4 rfl; have kp2 : wq0.cell? ⟨np, 2, none⟩ = some (.int .i64 s) := (Fp.out.ext xq0).c 2 rfl) | (go_at_call 7; refine (HM.out _).mono ?_; rintro e wx ⟨rfl, hwx⟩; have hwy := hwx.symm; clear hwx; subst hwy) | (go_at_call 8; refine (HZ.out _).mono ?_; rintro e wx ⟨rfl, hwx⟩; have hwy := hwx.symm; clear hwx; subst hwy))
                have Fp : Hid (HV wq0 np [.bool u, .bool tl, .int .i64 s, .int .i64 m, .int .i64 n]) := Fp.out.ext xq0
                have Fw : Hid (HV wq0 nw [.bool false, .bool false, .int .i64 0]) := Fw.out.ext xq0
                have FX : Hid (Ext w wq0) := FX.out.trans xq0
                clear qp0 qp1 qp2 qp3 qp4 xq0 HI HM HZ kp3 kp4 kp2
                have qp0 : wq0.cell? ⟨np, 0, none⟩ = some (.bool u) := Fp.out.c 0 rfl
                have qp1 : wq0.cell? ⟨np, 1, none⟩ = some (.bool tl) := Fp.out.c 1 rfl
                have qp2 : wq0.cell? ⟨np, 2, none⟩ = some (.int .i64 s) := Fp.out.c 2 rfl
                have qp3 : wq0.cell? ⟨np, 3, none⟩ = some (.int .i64 m) := Fp.out.c 3 rfl
                have qp4 : wq0.cell? ⟨np, 4, none⟩ = some (.int .i64 n) := Fp.out.c 4 rfl
                go_upto_region 12 with (first | (go_at_call 10; refine (HT.out _).mono ?_; rintro e wq2 ⟨rfl, xq2⟩))
                have Fp : Hid (HV wq2 np [.bool u, .bool tl, .int .i64 s, .int .i64 m, .int .i64 n]) := Fp.out.ext xq2
                have Fw : Hid (HV wq2 nw [.bool false, .bool false, .int .i64 0]) := Fw.out.ext xq2
                have FX : Hid (Ext w wq2) := FX.out.trans xq2
                clear qp0 qp1 qp2 qp3 qp4 xq2 HT
                have ltpu : np < wq2.heap.size := Fp.out.1
                have ltwu : nw < wq2.heap.size := Fw.out.1
                have Lu : Hid (w.heap.size ≤ wq2.heap.size) := FX.out.size
                have Fp : Hid (HV (wq2.alloc (.cells #[.bool false, .bool false, .int .i64 0] 24)) np [.bool u, .bool tl, .int .i64 s, .int .i64 m, .int .i64 n]) := Fp.out.alloc _
                have Fw : Hid (HV (wq2.alloc (.cells #[.bool false, .bool false, .int .i64 0] 24)) nw [.bool false, .bool false, .int .i64 0]) := Fw.out.alloc _
                have Fu : Hid (HV (wq2.alloc (.cells #[.bool false, .bool false, .int .i64 0] 24)) wq2.heap.size [.bool false, .bool false, .int .i64 0]) := hv_at rfl
                have FX : Hid (Ext w (wq2.alloc (.cells #[.bool false, .bool false, .int .i64 0] 24))) := FX.out.alloc _
                generalize (wq2.alloc (.cells #[.bool false, .bool false, .int .i64 0] 24)) = wx12 at *
                generalize wq2.heap.size = nu at *
                have qu0 : wx12.cell? ⟨nu, 0, none⟩ = some (.bool false) := Fu.out.c 0 rfl
                have qu1 : wx12.cell? ⟨nu, 1, none⟩ = some (.bool false) := Fu.out.c 1 rfl
                have qu2 : wx12.cell? ⟨nu, 2, none⟩ = some (.int .i64 0) := Fu.out.c 2 rfl
                have qw0 : wx12.cell? ⟨nw, 0, none⟩ = some (.bool false) := Fw.out.c 0 rfl
                have qw1 : wx12.cell? ⟨nw, 1, none⟩ = some (.bool false) := Fw.out.c 1 rfl
                have qw2 : wx12.cell? ⟨nw, 2, none⟩ = some (.int .i64 0) := Fw.out.c 2 rfl
                go_wp2_with (go_at_call 11; refine (num20_any _ _).mono ?_; rintro e wx ⟨rfl, hwx⟩; have hwy := hwx.symm; clear hwx; subst hwy)
                go_roundw
                case rel => exact ⟨k + 1, by omega, by go_num, FX⟩
                case measure => simp [intOf]; omega
              · have HG0 := fun w => rfall_any u tl s m n w a1 a2 a3 (by omega)
                obtain ⟨r0, r1, r2, r3, ef, HG⟩ : ∃ (a b : Bool) (d : Int) (t : Bool), takeF u tl s m n = .tuple #[.agg #[.bool a, .bool b, .int .i64 d], .bool t, .int .i64 0] ∧ Hid (∀ w, Calls Try.prog 9 #[.agg #[.bool u, .bool tl, .int .i64 s], .int .i64 m, .int .i64 n] w fun e w' => e = .returned (.tuple #[.agg #[.bool a, .bool b, .int .i64 d], .bool t]) ∧ Ext w w') := by
                  obtain ⟨a, b, d, t, ef, _⟩ := HG0 w
                  refine ⟨a, b, d, t, ef, fun w => ?_⟩
                  obtain ⟨a2, b2, d2, t2, ef2, h⟩ := HG0 w
                  rw [ef] at ef2
                  simp only [Value.tuple.injEq, Array.mk.injEq, List.cons.injEq, Value.agg.injEq, Value.bool.injEq, Value.int.injEq, and_true, true_and] at ef2
                  obtain ⟨⟨rfl, rfl, rfl⟩, rfl⟩ := ef2
                  exact h
                rw [ef] at HT0
                rw [a1] at HI
                rw [a2] at HM
                rw [a3] at HZ
                have a5 : decide (s ≤ n) = true := by simp; omega
                clear HG0 ef a1 a2 a3 a4
                have HT : Hid (∀ w, Calls Try.prog 10 #[.agg #[.bool u, .bool tl, .int .i64 s], .int .i64 m, .int .i64 n] w fun e w' => e = .returned (.tuple #[.agg #[.bool r0, .bool r1, .int .i64 r2], .bool r3, .int .i64 0]) ∧ Ext w w') := HT0
                clear HT0
                go_upto_region 7 with fail
                have ltpw : np < wx1.heap.size := Fp.out.1
                have Lw : Hid (w.heap.size ≤ wx1.heap.size) := FX.out.size
                have Fp : Hid (HV (wx1.alloc (.cells #[.bool false, .bool false, .int .i64 0] 24)) np [.bool u, .bool tl, .int .i64 s, .int .i64 m, .int .i64 n]) := Fp.out.alloc _
                have Fw : Hid (HV (wx1.alloc (.cells #[.bool false, .bool false, .int .i64 0] 24)) wx1.heap.size [.bool false, .bool false, .int .i64 0]) := hv_at rfl
                have FX : Hid (Ext w (wx1.alloc (.cells #[.bool false, .bool false, .int .i64 0] 24))) := FX.out.alloc _
                generalize (wx1.alloc (.cells #[.bool false, .bool false, .int .i64 0] 24)) = wx11 at *
                generalize wx1.heap.size = nw at *
                have qp0 : wx11.cell? ⟨np, 0, none⟩ = some (.bool u) := Fp.out.c 0 rfl
                have qp1 : wx11.cell? ⟨np, 1, none⟩ = some (.bool tl) := Fp.out.c 1 rfl
                have qp2 : wx11.cell? ⟨np, 2, none⟩ = some (.int .i64 s) := Fp.out.c 2 rfl
                have qp3 : wx11.cell? ⟨np, 3, none⟩ = some (.int .i64 m) := Fp.out.c 3 rfl
                have qp4 : wx11.cell? ⟨np, 4, none⟩ = some (.int .i64 n) := Fp.out.c 4 rfl
                go_upto_region 10 with (first | (go_at_call 6; refine (HI.out _).mono ?_; rintro e wq0 ⟨rfl, xq0⟩; have kp3 : wq0.cell? ⟨np, 3, none⟩ = some (.int .i64 m) := (Fp.out.ext xq0).c 3 rfl; have kp4 : wq0.cell? ⟨np, 4, none⟩ = some (.int .i64 n) := (Fp.out.ext xq0).c 4 rfl; have kp2 : wq0.cell? ⟨np, 2, none⟩ = some (.int .i64 s) := (Fp.out.ext xq0).c 2 rfl) | (go_at_call 7; refine (HM.out _).mono ?_; rintro e wx ⟨rfl, hwx⟩; have hwy := hwx.symm; clear hwx; subst hwy) | (go_at_call 8; refine (HZ.out _).mono ?_; rintro e wx ⟨rfl, hwx⟩; have hwy := hwx.symm; clear hwx; subst hwy))
                have Fp : Hid (HV wq0 np [.bool u, .bool tl, .int .i64 s, .int .i64 m, .int .i64 n]) := Fp.out.ext xq0
                have Fw : Hid (HV wq0 nw [.bool false, .bool false, .int .i64 0]) := Fw.out.ext xq0
                have FX : Hid (Ext w wq0) := FX.out.trans xq0
                clear qp0 qp1 qp2 qp3 qp4 xq0 HI HM HZ kp3 kp4 kp2
                have qp0 : wq0.cell? ⟨np, 0, none⟩ = some (.bool u) := Fp.out.c 0 rfl
                have qp1 : wq0.cell? ⟨np, 1, none⟩ = some (.bool tl) := Fp.out.c 1 rfl
                have qp2 : wq0.cell? ⟨np, 2, none⟩ = some (.int .i64 s) := Fp.out.c 2 rfl
                have qp3 : wq0.cell? ⟨np, 3, none⟩ = some (.int .i64 m) := Fp.out.c 3 rfl
                have qp4 : wq0.cell? ⟨np, 4, none⟩ = some (.int .i64 n) := Fp.out.c 4 rfl
                go_upto_region 11 with (first | (go_at_call 9; refine (HG.out _).mono ?_; rintro e wq1 ⟨rfl, xq1⟩; have kw0 : wq1.cell? ⟨nw, 0, none⟩ = some (.bool false) := (Fw.out.ext xq1).c 0 rfl; have zw0 : wq1.frozen? ⟨nw, 0, none⟩ = false := (Fw.out.ext xq1).f 0 rfl; have kw1 : wq1.cell? ⟨nw, 1, none⟩ = some (.bool false) := (Fw.out.ext xq1).c 1 rfl; have zw1 : wq1.frozen? ⟨nw, 1, none⟩ = false := (Fw.out.ext xq1).f 1 rfl; have kw2 : wq1.cell? ⟨nw, 2, none⟩ = some (.int .i64 0) := (Fw.out.ext xq1).c 2 rfl; have zw2 : wq1.frozen? ⟨nw, 2, none⟩ = false := (Fw.out.ext xq1).f 2 rfl))
                have Fp : Hid (HV wq1 np [.bool u, .bool tl, .int .i64 s, .int .i64 m, .int .i64 n]) := Fp.out.ext xq1
                have Fw : Hid (HV wq1 nw [.bool false, .bool false, .int .i64 0]) := Fw.out.ext xq1
                have FX : Hid (Ext w wq1) := FX.out.trans xq1
                clear qp0 qp1 qp2 qp3 qp4 xq1 HG kw0 kw1 kw2 zw0 zw1 zw2
                have Fp : Hid (HV (((wq1.setCell ⟨nw, 0, none⟩ (.bool r0)).setCell ⟨nw, 1, none⟩ (.bool r1)).setCell ⟨nw, 2, none⟩ (.int .i64 r2)) np [.bool u, .bool tl, .int .i64 s, .int .i64 m, .int .i64 n]) := (((Fp.out.far (by omega)).far (by omega)).far (by omega))
                have Fw : Hid (HV (((wq1.setCell ⟨nw, 0, none⟩ (.bool r0)).setCell ⟨nw, 1, none⟩ (.bool r1)).setCell ⟨nw, 2, none⟩ (.int .i64 r2)) nw [.bool r0, .bool r1, .int .i64 r2]) := (((Fw.out.set 0 (.bool r0)).set 1 (.bool r1)).set 2 (.int .i64 r2))
                have FX : Hid (Ext w (((wq1.setCell ⟨nw, 0, none⟩ (.bool r0)).setCell ⟨nw, 1, none⟩ (.bool r1)).setCell ⟨nw, 2, none⟩ (.int .i64 r2))) := (((FX.out.set (p := ⟨nw, 0, none⟩) Lw.out (.bool r0)).set (p := ⟨nw, 1, none⟩) Lw.out (.bool r1)).set (p := ⟨nw, 2, none⟩) Lw.out (.int .i64 r2))
                generalize (((wq1.setCell ⟨nw, 0, none⟩ (.bool r0)).setCell ⟨nw, 1, none⟩ (.bool r1)).setCell ⟨nw, 2, none⟩ (.int .i64 r2)) = wx12 at *
                have qp0 : wx12.cell? ⟨np, 0, none⟩ = some (.bool u) := Fp.out.c 0 rfl
                have qp1 : wx12.cell? ⟨np, 1, none⟩ = some (.bool tl) := Fp.out.c 1 rfl
                have qp2 : wx12.cell? ⟨np, 2, none⟩ = some (.int .i64 s) := Fp.out.c 2 rfl
                have qp3 : wx12.cell? ⟨np, 3, none⟩ = some (.int .i64 m) := Fp.out.c 3 rfl
                have qp4 : wx12.cell? ⟨np, 4, none⟩ = some (.int .i64 n) := Fp.out.c 4 rfl
                go_upto_region 12 with (first | (go_at_call 10; refine (HT.out _).mono ?_; rintro e wq2 ⟨rfl, xq2⟩))
                have Fp : Hid (HV wq2 np [.bool u, .bool tl, .int .i64 s, .int .i64 m, .int .i64 n]) := Fp.out.ext xq2
                have Fw : Hid (HV wq2 nw [.bool r0, .bool r1, .int .i64 r2]) := Fw.out.ext xq2
                have FX : Hid (Ext w wq2) := FX.out.trans xq2
                clear qp0 qp1 qp2 qp3 qp4 xq2 HT
                have ltpu : np < wq2.heap.size := Fp.out.1
                have ltwu : nw < wq2.heap.size := Fw.out.1
                have Lu : Hid (w.heap.size ≤ wq2.heap.size) := FX.out.size
                have Fp : Hid (HV (wq2.alloc (.cells #[.bool r0, .bool r1, .int .i64 r2] 24)) np [.bool u, .bool tl, .int .i64 s, .int .i64 m, .int .i64 n]) := Fp.out.alloc _
                have Fw : Hid (HV (wq2.alloc (.cells #[.bool r0, .bool r1, .int .i64 r2] 24)) nw [.bool r0, .bool r1, .int .i64 r2]) := Fw.out.alloc _
                have Fu : Hid (HV (wq2.alloc (.cells #[.bool r0, .bool r1, .int .i64 r2] 24)) wq2.heap.size [.bool r0, .bool r1, .int .i64 r2]) := hv_at rfl
                have FX : Hid (Ext w (wq2.alloc (.cells #[.bool r0, .bool r1, .int .i64 r2] 24))) := FX.out.alloc _
                generalize (wq2.alloc (.cells #[.bool r0, .bool r1, .int .i64 r2] 24)) = wx13 at *
                generalize wq2.heap.size = nu at *
                have qu0 : wx13.cell? ⟨nu, 0, none⟩ = some (.bool r0) := Fu.out.c 0 rfl
                have qu1 : wx13.cell? ⟨nu, 1, none⟩ = some (.bool r1) := Fu.out.c 1 rfl
                have qu2 : wx13.cell? ⟨nu, 2, none⟩ = some (.int .i64 r2) := Fu.out.c 2 rfl
                have qw0 : wx13.cell? ⟨nw, 0, none⟩ = some (.bool r0) := Fw.out.c 0 rfl
                have qw1 : wx13.cell? ⟨nw, 1, none⟩ = some (.bool r1) := Fw.out.c 1 rfl
                have qw2 : wx13.cell? ⟨nw, 2, none⟩ = some (.int .i64 r2) := Fw.out.c 2 rfl
                go_wp2_with (go_at_call 11; refine (num20_any _ _).mono ?_; rintro e wx ⟨rfl, hwx⟩; have hwy := hwx.symm; clear hwx; subst hwy)
                go_roundw
                case rel => exact ⟨k + 1, by omega, by go_num, FX⟩
                case measure => simp [intOf]; omega
      · go_wp2_with fail
        refine (wakes20_any _).mono ?_
        rintro e w1 ⟨rfl, x1⟩
        have E1 : Ext w w1 := FX.out.trans x1
        go_wp2_with fail
        go_ret
        exact ⟨rfl, E1⟩
    · have hk' : k = len := by omega
      subst hk'
      go_wp2_with fail
      refine (wakes20_any _).mono ?_
      rintro e w1 ⟨rfl, x1⟩
      have E1 : Ext w w1 := FX.out.trans x1
      go_wp2_with fail
      go_ret
      exact ⟨rfl, E1⟩
set_option maxRecDepth 20000 in
set_option maxHeartbeats 4000000 in
theorem fallexact_none (a : Option Addr) (cap : Nat) (w : World) :
    Calls Try.prog 3 #[.slice a 0 cap] w fun e w' => e = .returned (.bool true) ∧ Ext w w' := by
  go_enter Try.func3, Try.ntmps3
  go_wp2_with fail
  go_loopw [3] (fun i wr => i = .int .i64 0 ∧ Hid (Ext w wr)) (fun _ _ => 0)
  case atStart => exact ⟨rfl, Ext.refl _⟩
  case round =>
    obtain ⟨rfl, FX⟩ := hrel
    go_wp2_with fail
    refine (wakes20_any _).mono ?_
    rintro e w1 ⟨rfl, x1⟩
    have E1 : Ext w w1 := FX.out.trans x1
    go_wp2_with fail
    go_ret
    exact ⟨rfl, E1⟩
end Go.Proofs.Ytleiiiagdkcckaa
