/- LearnExact. -/
import Derived.Test.YtcbelhalckehcaaLeXM
import Derived.Deep.Cut
import Derived.Deep.DeepCutAuto
namespace Go.Proofs.Ytcbelhalckehcaa
open Go.RowKit Go.Shelf
theorem takeL_form (b0 b1 b2 s0 s1 s2 n v0 v1 v2 : Int) : ∃ (m0 m1 m2 m3 m4 m5 m6 : Int) (told : Bool) (e : Int), takeL b0 b1 b2 s0 s1 s2 n v0 v1 v2 = .tuple #[.agg #[.int .i64 m0, .int .i64 m1, .int .i64 m2, .int .i64 m3, .int .i64 m4, .int .i64 m5, .int .i64 m6], .bool told, .int .i64 e] := by
  unfold takeL
  split
  · split
    · split
      · exact ⟨_, _, _, _, _, _, _, _, _, rfl⟩
      · split
        · exact ⟨_, _, _, _, _, _, _, _, _, rfl⟩
        · exact ⟨_, _, _, _, _, _, _, _, _, rfl⟩
    · exact ⟨_, _, _, _, _, _, _, _, _, rfl⟩
  · exact ⟨_, _, _, _, _, _, _, _, _, rfl⟩
set_option maxRecDepth 20000 in
set_option maxHeartbeats 40000000 in
theorem learnexact_any (b off len cap : Nat) (Z : Nat → Nat → Int) (w : World) (hl : len ≤ maxLen) (hc : NL 10 w b off len Z) :
    Calls Try.prog 3 #[.slice (some ⟨b, off, none⟩) len cap] w fun e w' => e = .returned (.bool true) ∧ Ext w w' := by
  have hl' : len ≤ 9223372036854775807 := by unfold maxLen at hl; omega
  clear hl
  go_enter Try.func3, Try.ntmps3
  go_wp2_with fail
  go_loopw [3] (fun i wr => ∃ k : Nat, k ≤ len ∧ i = .int .i64 k ∧ Hid (Ext w wr)) (fun i _ => len - (intOf i).toNat)
  case atStart => exact ⟨0, Nat.zero_le _, rfl, Ext.refl _⟩
  case round =>
    obtain ⟨k, hk, rfl, FX⟩ := hrel
    by_cases hlt : k < len
    · by_cases h5 : k < 80
      · skip
        have c0 := ((hc.ext FX.out) k hlt 0 (by omega)).1
        have c1 := ((hc.ext FX.out) k hlt 1 (by omega)).1
        have c2 := ((hc.ext FX.out) k hlt 2 (by omega)).1
        have c3 := ((hc.ext FX.out) k hlt 3 (by omega)).1
        have c4 := ((hc.ext FX.out) k hlt 4 (by omega)).1
        have c5 := ((hc.ext FX.out) k hlt 5 (by omega)).1
        have c6 := ((hc.ext FX.out) k hlt 6 (by omega)).1
        have c7 := ((hc.ext FX.out) k hlt 7 (by omega)).1
        have c8 := ((hc.ext FX.out) k hlt 8 (by omega)).1
        have c9 := ((hc.ext FX.out) k hlt 9 (by omega)).1
        rw [Nat.add_zero] at c0
        have hlt' : (k : Int) < (len : Int) := by omega
        clear hc
        generalize Z k = z at *
        go_upto_region 5 with fail
        clear c0 c1 c2 c3 c4 c5 c6 c7 c8 c9
        have Lp : Hid (w.heap.size ≤ wr.heap.size) := FX.out.size
        have Fp : Hid (HV (wr.alloc (.cells #[.int .i64 (z 0), .int .i64 (z 1), .int .i64 (z 2), .int .i64 (z 3), .int .i64 (z 4), .int .i64 (z 5), .int .i64 (z 6), .int .i64 (z 7), .int .i64 (z 8), .int .i64 (z 9)] 28)) wr.heap.size [.int .i64 (z 0), .int .i64 (z 1), .int .i64 (z 2), .int .i64 (z 3), .int .i64 (z 4), .int .i64 (z 5), .int .i64 (z 6), .int .i64 (z 7), .int .i64 (z 8), .int .i64 (z 9)]) := hv_at rfl
        have FX : Hid (Ext w (wr.alloc (.cells #[.int .i64 (z 0), .int .i64 (z 1), .int .i64 (z 2), .int .i64 (z 3), .int .i64 (z 4), .int .i64 (z 5), .int .i64 (z 6), .int .i64 (z 7), .int .i64 (z 8), .int .i64 (z 9)] 28))) := FX.out.alloc _
        generalize (wr.alloc (.cells #[.int .i64 (z 0), .int .i64 (z 1), .int .i64 (z 2), .int .i64 (z 3), .int .i64 (z 4), .int .i64 (z 5), .int .i64 (z 6), .int .i64 (z 7), .int .i64 (z 8), .int .i64 (z 9)] 28)) = wx1 at *
        generalize wr.heap.size = np at *
        have HL : Hid (∀ w, Calls Try.prog 6 #[.agg #[.int .i64 (z 0), .int .i64 (z 1), .int .i64 (z 2), .int .i64 (z 3), .int .i64 (z 4), .int .i64 (z 5), .int .i64 (z 6)]] w fun e w' => e = .returned (.bool (okLn (z 0) (z 1) (z 2) (z 3) (z 4) (z 5) (z 6))) ∧ Ext w w') := maylearn_any _ _ _ _ _ _ _
        have HV1 : Hid (∀ w, Calls Try.prog 7 #[.agg #[.int .i64 (z 7), .int .i64 (z 8), .int .i64 (z 9)]] w fun e w' => e = .returned (.bool (ok3 (z 7) (z 8) (z 9))) ∧ Ext w w') := mayv_any _ _ _
        have HT : Hid (∀ w, Calls Try.prog 9 #[.agg #[.int .i64 (z 0), .int .i64 (z 1), .int .i64 (z 2), .int .i64 (z 3), .int .i64 (z 4), .int .i64 (z 5), .int .i64 (z 6)], .agg #[.int .i64 (z 7), .int .i64 (z 8), .int .i64 (z 9)]] w fun e w' => e = .returned (takeL (z 0) (z 1) (z 2) (z 3) (z 4) (z 5) (z 6) (z 7) (z 8) (z 9)) ∧ Ext w w') := fun w => ltake_any _ _ _ _ _ _ _ _ _ _ w
        have HK : Hid (∀ w, Calls Try.prog 11 #[.agg #[.int .i64 (z 0), .int .i64 (z 1), .int .i64 (z 2), .int .i64 (z 3), .int .i64 (z 4), .int .i64 (z 5), .int .i64 (z 6)]] w fun e w' => e = .returned (.int .i64 (chkLn (z 0) (z 1) (z 2) (z 3) (z 4) (z 5) (z 6))) ∧ Ext w w') := lcheck_any _ _ _ _ _ _ _
        cases h1 : okLn (z 0) (z 1) (z 2) (z 3) (z 4) (z 5) (z 6)
        · have ec : chkLn (z 0) (z 1) (z 2) (z 3) (z 4) (z 5) (z 6) = 1 := by unfold chkLn; rw [h1]; rfl
          have et : takeL (z 0) (z 1) (z 2) (z 3) (z 4) (z 5) (z 6) (z 7) (z 8) (z 9) = .tuple #[.agg #[.int .i64 0, .int .i64 0, .int .i64 0, .int .i64 0, .int .i64 0, .int .i64 0, .int .i64 0], .bool false, .int .i64 1] := by unfold takeL; rw [h1]; rfl
          rw [ec] at HK
          rw [et] at HT
          rw [h1] at HL
          clear ec et h1
          have qp0 : wx1.cell? ⟨np, 0, none⟩ = some (.int .i64 (z 0)) := Fp.out.c 0 rfl
          have qp1 : wx1.cell? ⟨np, 1, none⟩ = some (.int .i64 (z 1)) := Fp.out.c 1 rfl
          have qp2 : wx1.cell? ⟨np, 2, none⟩ = some (.int .i64 (z 2)) := Fp.out.c 2 rfl
          have qp3 : wx1.cell? ⟨np, 3, none⟩ = some (.int .i64 (z 3)) := Fp.out.c 3 rfl
          have qp4 : wx1.cell? ⟨np, 4, none⟩ = some (.int .i64 (z 4)) := Fp.out.c 4 rfl
          have qp5 : wx1.cell? ⟨np, 5, none⟩ = some (.int .i64 (z 5)) := Fp.out.c 5 rfl
          have qp6 : wx1.cell? ⟨np, 6, none⟩ = some (.int .i64 (z 6)) := Fp.out.c 6 rfl
          go_upto_region 8 with (first | (go_at_call 6; refine (HL.out _).mono ?_; rintro e wq0 ⟨rfl, xq0⟩))
          have Fp : Hid (HV wq0 np [.int .i64 (z 0), .int .i64 (z 1), .int .i64 (z 2), .int .i64 (z 3), .int .i64 (z 4), .int .i64 (z 5), .int .i64 (z 6), .int .i64 (z 7), .int .i64 (z 8), .int .i64 (z 9)]) := Fp.out.ext xq0
          have FX : Hid (Ext w wq0) := FX.out.trans xq0
          clear qp0 qp1 qp2 qp3 qp4 qp5 qp6 xq0 HL
          cases hv : ok3 (z 7) (z 8) (z 9)
          · rw [hv] at HV1
            clear hv
            have qp7 : wq0.cell? ⟨np, 7, none⟩ = some (.int .i64 (z 7)) := Fp.out.c 7 rfl
            have qp8 : wq0.cell? ⟨np, 8, none⟩ = some (.int .i64 (z 8)) := Fp.out.c 8 rfl
            have qp9 : wq0.cell? ⟨np, 9, none⟩ = some (.int .i64 (z 9)) := Fp.out.c 9 rfl
            go_upto_region 11 with (first | (go_at_call 7; refine (HV1.out _).mono ?_; rintro e wq1 ⟨rfl, xq1⟩))
            have Fp : Hid (HV wq1 np [.int .i64 (z 0), .int .i64 (z 1), .int .i64 (z 2), .int .i64 (z 3), .int .i64 (z 4), .int .i64 (z 5), .int .i64 (z 6), .int .i64 (z 7), .int .i64 (z 8), .int .i64 (z 9)]) := Fp.out.ext xq1
            have FX : Hid (Ext w wq1) := FX.out.trans xq1
            clear qp7 qp8 qp9 xq1 HV1
            go_upto_region 12 with fail
            have ltpw : np < wq1.heap.size := Fp.out.1
            have Lw : Hid (w.heap.size ≤ wq1.heap.size) := FX.out.size
            have Fp : Hid (HV (wq1.alloc (.cells #[.int .i64 0, .int .i64 0, .int .i64 0, .int .i64 0, .int .i64 0, .int .i64 0, .int .i64 0] 26)) np [.int .i64 (z 0), .int .i64 (z 1), .int .i64 (z 2), .int .i64 (z 3), .int .i64 (z 4), .int .i64 (z 5), .int .i64 (z 6), .int .i64 (z 7), .int .i64 (z 8), .int .i64 (z 9)]) := Fp.out.alloc _
            have Fw : Hid (HV (wq1.alloc (.cells #[.int .i64 0, .int .i64 0, .int .i64 0, .int .i64 0, .int .i64 0, .int .i64 0, .int .i64 0] 26)) wq1.heap.size [.int .i64 0, .int .i64 0, .int .i64 0, .int .i64 0, .int .i64 0, .int .i64 0, .int .i64 0]) := hv_at rfl
            have FX : Hid (Ext w (wq1.alloc (.cells #[.int .i64 0, .int .i64 0, .int .i64 0, .int .i64 0, .int .i64 0, .int .i64 0, .int .i64 0] 26))) := FX.out.alloc _
            generalize (wq1.alloc (.cells #[.int .i64 0, .int .i64 0, .int .i64 0, .int .i64 0, .int .i64 0, .int .i64 0, .int .i64 0] 26)) = wx1 at *
            generalize wq1.heap.size = nw at *
            go_upto_region 15 with fail
            have qp0 : wx1.cell? ⟨np, 0, none⟩ = some (.int .i64 (z 0)) := Fp.out.c 0 rfl
            have qp1 : wx1.cell? ⟨np, 1, none⟩ = some (.int .i64 (z 1)) := Fp.out.c 1 rfl
            have qp2 : wx1.cell? ⟨np, 2, none⟩ = some (.int .i64 (z 2)) := Fp.out.c 2 rfl
            have qp3 : wx1.cell? ⟨np, 3, none⟩ = some (.int .i64 (z 3)) := Fp.out.c 3 rfl
            have qp4 : wx1.cell? ⟨np, 4, none⟩ = some (.int .i64 (z 4)) := Fp.out.c 4 rfl
            have qp5 : wx1.cell? ⟨np, 5, none⟩ = some (.int .i64 (z 5)) := Fp.out.c 5 rfl
            have qp6 : wx1.cell? ⟨np, 6, none⟩ = some (.int .i64 (z 6)) := Fp.out.c 6 rfl
            have qp7 : wx1.cell? ⟨np, 7, none⟩ = some (.int .i64 (z 7)) := Fp.out.c 7 rfl
            have qp8 : wx1.cell? ⟨np, 8, none⟩ = some (.int .i64 (z 8)) := Fp.out.c 8 rfl
            have qp9 : wx1.cell? ⟨np, 9, none⟩ = some (.int .i64 (z 9)) := Fp.out.c 9 rfl
            go_upto_region 16 with (first | (go_at_call 9; refine (HT.out _).mono ?_; rintro e wq3 ⟨rfl, xq3⟩))
            have Fp : Hid (HV wq3 np [.int .i64 (z 0), .int .i64 (z 1), .int .i64 (z 2), .int .i64 (z 3), .int .i64 (z 4), .int .i64 (z 5), .int .i64 (z 6), .int .i64 (z 7), .int .i64 (z 8), .int .i64 (z 9)]) := Fp.out.ext xq3
            have Fw : Hid (HV wq3 nw [.int .i64 0, .int .i64 0, .int .i64 0, .int .i64 0, .int .i64 0, .int .i64 0, .int .i64 0]) := Fw.out.ext xq3
            have FX : Hid (Ext w wq3) := FX.out.trans xq3
            clear qp0 qp1 qp2 qp3 qp4 qp5 qp6 qp7 qp8 qp9 xq3 HT
            have ltpm : np < wq3.heap.size := Fp.out.1
            have ltwm : nw < wq3.heap.size := Fw.out.1
            have Lm : Hid (w.heap.size ≤ wq3.heap.size) := FX.out.size
            have Fp : Hid (HV (wq3.alloc (.cells #[.int .i64 0, .int .i64 0, .int .i64 0, .int .i64 0, .int .i64 0, .int .i64 0, .int .i64 0] 26)) np [.int .i64 (z 0), .int .i64 (z 1), .int .i64 (z 2), .int .i64 (z 3), .int .i64 (z 4), .int .i64 (z 5), .int .i64 (z 6), .int .i64 (z 7), .int .i64 (z 8), .int .i64 (z 9)]) := Fp.out.alloc _
            have Fw : Hid (HV (wq3.alloc (.cells #[.int .i64 0, .int .i64 0, .int .i64 0, .int .i64 0, .int .i64 0, .int .i64 0, .int .i64 0] 26)) nw [.int .i64 0, .int .i64 0, .int .i64 0, .int .i64 0, .int .i64 0, .int .i64 0, .int .i64 0]) := Fw.out.alloc _
            have Fm : Hid (HV (wq3.alloc (.cells #[.int .i64 0, .int .i64 0, .int .i64 0, .int .i64 0, .int .i64 0, .int .i64 0, .int .i64 0] 26)) wq3.heap.size [.int .i64 0, .int .i64 0, .int .i64 0, .int .i64 0, .int .i64 0, .int .i64 0, .int .i64 0]) := hv_at rfl
            have FX : Hid (Ext w (wq3.alloc (.cells #[.int .i64 0, .int .i64 0, .int .i64 0, .int .i64 0, .int .i64 0, .int .i64 0, .int .i64 0] 26))) := FX.out.alloc _
            generalize (wq3.alloc (.cells #[.int .i64 0, .int .i64 0, .int .i64 0, .int .i64 0, .int .i64 0, .int .i64 0, .int .i64 0] 26)) = wx2 at *
            generalize wq3.heap.size = nm at *
            have qp0 : wx2.cell? ⟨np, 0, none⟩ = some (.int .i64 (z 0)) := Fp.out.c 0 rfl
            have qp1 : wx2.cell? ⟨np, 1, none⟩ = some (.int .i64 (z 1)) := Fp.out.c 1 rfl
            have qp2 : wx2.cell? ⟨np, 2, none⟩ = some (.int .i64 (z 2)) := Fp.out.c 2 rfl
            have qp3 : wx2.cell? ⟨np, 3, none⟩ = some (.int .i64 (z 3)) := Fp.out.c 3 rfl
            have qp4 : wx2.cell? ⟨np, 4, none⟩ = some (.int .i64 (z 4)) := Fp.out.c 4 rfl
            have qp5 : wx2.cell? ⟨np, 5, none⟩ = some (.int .i64 (z 5)) := Fp.out.c 5 rfl
            have qp6 : wx2.cell? ⟨np, 6, none⟩ = some (.int .i64 (z 6)) := Fp.out.c 6 rfl
            go_wp2_with fail
            refine (HK.out _).mono ?_
            rintro e wq4 ⟨rfl, xq4⟩
            have Fp : Hid (HV wq4 np [.int .i64 (z 0), .int .i64 (z 1), .int .i64 (z 2), .int .i64 (z 3), .int .i64 (z 4), .int .i64 (z 5), .int .i64 (z 6), .int .i64 (z 7), .int .i64 (z 8), .int .i64 (z 9)]) := Fp.out.ext xq4
            have Fw : Hid (HV wq4 nw [.int .i64 0, .int .i64 0, .int .i64 0, .int .i64 0, .int .i64 0, .int .i64 0, .int .i64 0]) := Fw.out.ext xq4
            have Fm : Hid (HV wq4 nm [.int .i64 0, .int .i64 0, .int .i64 0, .int .i64 0, .int .i64 0, .int .i64 0, .int .i64 0]) := Fm.out.ext xq4
            have FX : Hid (Ext w wq4) := FX.out.trans xq4
            clear qp0 qp1 qp2 qp3 qp4 qp5 qp6 xq4 HK
            have qm0 : wq4.cell? ⟨nm, 0, none⟩ = some (.int .i64 0) := Fm.out.c 0 rfl
            have qm1 : wq4.cell? ⟨nm, 1, none⟩ = some (.int .i64 0) := Fm.out.c 1 rfl
            have qm2 : wq4.cell? ⟨nm, 2, none⟩ = some (.int .i64 0) := Fm.out.c 2 rfl
            have qm3 : wq4.cell? ⟨nm, 3, none⟩ = some (.int .i64 0) := Fm.out.c 3 rfl
            have qm4 : wq4.cell? ⟨nm, 4, none⟩ = some (.int .i64 0) := Fm.out.c 4 rfl
            have qm5 : wq4.cell? ⟨nm, 5, none⟩ = some (.int .i64 0) := Fm.out.c 5 rfl
            have qm6 : wq4.cell? ⟨nm, 6, none⟩ = some (.int .i64 0) := Fm.out.c 6 rfl
            have qw0 : wq4.cell? ⟨nw, 0, none⟩ = some (.int .i64 0) := Fw.out.c 0 rfl
            have qw1 : wq4.cell? ⟨nw, 1, none⟩ = some (.int .i64 0) := Fw.out.c 1 rfl
            have qw2 : wq4.cell? ⟨nw, 2, none⟩ = some (.int .i64 0) := Fw.out.c 2 rfl
            have qw3 : wq4.cell? ⟨nw, 3, none⟩ = some (.int .i64 0) := Fw.out.c 3 rfl
            have qw4 : wq4.cell? ⟨nw, 4, none⟩ = some (.int .i64 0) := Fw.out.c 4 rfl
            have qw5 : wq4.cell? ⟨nw, 5, none⟩ = some (.int .i64 0) := Fw.out.c 5 rfl
            have qw6 : wq4.cell? ⟨nw, 6, none⟩ = some (.int .i64 0) := Fw.out.c 6 rfl
            go_wp2_with (go_at_call 10; refine (num11_any _ _).mono ?_; rintro e wx ⟨rfl, hwx⟩; have hwy := hwx.symm; clear hwx; subst hwy)
            go_roundw
            case rel => exact ⟨k + 1, by omega, by go_num, FX⟩
            case measure => simp [intOf]; omega
          · rw [hv] at HV1
            clear hv
            have qp7 : wq0.cell? ⟨np, 7, none⟩ = some (.int .i64 (z 7)) := Fp.out.c 7 rfl
            have qp8 : wq0.cell? ⟨np, 8, none⟩ = some (.int .i64 (z 8)) := Fp.out.c 8 rfl
            have qp9 : wq0.cell? ⟨np, 9, none⟩ = some (.int .i64 (z 9)) := Fp.out.c 9 rfl
            go_upto_region 11 with (first | (go_at_call 7; refine (HV1.out _).mono ?_; rintro e wq1 ⟨rfl, xq1⟩))
            have Fp : Hid (HV wq1 np [.int .i64 (z 0), .int .i64 (z 1), .int .i64 (z 2), .int .i64 (z 3), .int .i64 (z 4), .int .i64 (z 5), .int .i64 (z 6), .int .i64 (z 7), .int .i64 (z 8), .int .i64 (z 9)]) := Fp.out.ext xq1
            have FX : Hid (Ext w wq1) := FX.out.trans xq1
            clear qp7 qp8 qp9 xq1 HV1
            go_upto_region 12 with fail
            have ltpw : np < wq1.heap.size := Fp.out.1
            have Lw : Hid (w.heap.size ≤ wq1.heap.size) := FX.out.size
            have Fp : Hid (HV (wq1.alloc (.cells #[.int .i64 0, .int .i64 0, .int .i64 0, .int .i64 0, .int .i64 0, .int .i64 0, .int .i64 0] 26)) np [.int .i64 (z 0), .int .i64 (z 1), .int .i64 (z 2), .int .i64 (z 3), .int .i64 (z 4), .int .i64 (z 5), .int .i64 (z 6), .int .i64 (z 7), .int .i64 (z 8), .int .i64 (z 9)]) := Fp.out.alloc _
            have Fw : Hid (HV (wq1.alloc (.cells #[.int .i64 0, .int .i64 0, .int .i64 0, .int .i64 0, .int .i64 0, .int .i64 0, .int .i64 0] 26)) wq1.heap.size [.int .i64 0, .int .i64 0, .int .i64 0, .int .i64 0, .int .i64 0, .int .i64 0, .int .i64 0]) := hv_at rfl
            have FX : Hid (Ext w (wq1.alloc (.cells #[.int .i64 0, .int .i64 0, .int .i64 0, .int .i64 0, .int .i64 0, .int .i64 0, .int .i64 0] 26))) := FX.out.alloc _
            generalize (wq1.alloc (.cells #[.int .i64 0, .int .i64 0, .int .i64 0, .int .i64 0, .int .i64 0, .int .i64 0, .int .i64 0] 26)) = wx1 at *
            generalize wq1.heap.size = nw at *
            go_upto_region 15 with fail
            have qp0 : wx1.cell? ⟨np, 0, none⟩ = some (.int .i64 (z 0)) := Fp.out.c 0 rfl
            have qp1 : wx1.cell? ⟨np, 1, none⟩ = some (.int .i64 (z 1)) := Fp.out.c 1 rfl
            have qp2 : wx1.cell? ⟨np, 2, none⟩ = some (.int .i64 (z 2)) := Fp.out.c 2 rfl
            have qp3 : wx1.cell? ⟨np, 3, none⟩ = some (.int .i64 (z 3)) := Fp.out.c 3 rfl
            have qp4 : wx1.cell? ⟨np, 4, none⟩ = some (.int .i64 (z 4)) := Fp.out.c 4 rfl
            have qp5 : wx1.cell? ⟨np, 5, none⟩ = some (.int .i64 (z 5)) := Fp.out.c 5 rfl
            have qp6 : wx1.cell? ⟨np, 6, none⟩ = some (.int .i64 (z 6)) := Fp.out.c 6 rfl
            have qp7 : wx1.cell? ⟨np, 7, none⟩ = some (.int .i64 (z 7)) := Fp.out.c 7 rfl
            have qp8 : wx1.cell? ⟨np, 8, none⟩ = some (.int .i64 (z 8)) := Fp.out.c 8 rfl
            have qp9 : wx1.cell? ⟨np, 9, none⟩ = some (.int .i64 (z 9)) := Fp.out.c 9 rfl
            go_upto_region 16 with (first | (go_at_call 9; refine (HT.out _).mono ?_; rintro e wq3 ⟨rfl, xq3⟩))
            have Fp : Hid (HV wq3 np [.int .i64 (z 0), .int .i64 (z 1), .int .i64 (z 2), .int .i64 (z 3), .int .i64 (z 4), .int .i64 (z 5), .int .i64 (z 6), .int .i64 (z 7), .int .i64 (z 8), .int .i64 (z 9)]) := Fp.out.ext xq3
            have Fw : Hid (HV wq3 nw [.int .i64 0, .int .i64 0, .int .i64 0, .int .i64 0, .int .i64 0, .int .i64 0, .int .i64 0]) := Fw.out.ext xq3
            have FX : Hid (Ext w wq3) := FX.out.trans xq3
            clear qp0 qp1 qp2 qp3 qp4 qp5 qp6 qp7 qp8 qp9 xq3 HT
            have ltpm : np < wq3.heap.size := Fp.out.1
            have ltwm : nw < wq3.heap.size := Fw.out.1
            have Lm : Hid (w.heap.size ≤ wq3.heap.size) := FX.out.size
            have Fp : Hid (HV (wq3.alloc (.cells #[.int .i64 0, .int .i64 0, .int .i64 0, .int .i64 0, .int .i64 0, .int .i64 0, .int .i64 0] 26)) np [.int .i64 (z 0), .int .i64 (z 1), .int .i64 (z 2), .int .i64 (z 3), .int .i64 (z 4), .int .i64 (z 5), .int .i64 (z 6), .int .i64 (z 7), .int .i64 (z 8), .int .i64 (z 9)]) := Fp.out.alloc _
            have Fw : Hid (HV (wq3.alloc (.cells #[.int .i64 0, .int .i64 0, .int .i64 0, .int .i64 0, .int .i64 0, .int .i64 0, .int .i64 0] 26)) nw [.int .i64 0, .int .i64 0, .int .i64 0, .int .i64 0, .int .i64 0, .int .i64 0, .int .i64 0]) := Fw.out.alloc _
            have Fm : Hid (HV (wq3.alloc (.cells #[.int .i64 0, .int .i64 0, .int .i64 0, .int .i64 0, .int .i64 0, .int .i64 0, .int .i64 0] 26)) wq3.heap.size [.int .i64 0, .int .i64 0, .int .i64 0, .int .i64 0, .int .i64 0, .int .i64 0, .int .i64 0]) := hv_at rfl
            have FX : Hid (Ext w (wq3.alloc (.cells #[.int .i64 0, .int .i64 0, .int .i64 0, .int .i64 0, .int .i64 0, .int .i64 0, .int .i64 0] 26))) := FX.out.alloc _
            generalize (wq3.alloc (.cells #[.int .i64 0, .int .i64 0, .int .i64 0, .int .i64 0, .int .i64 0, .int .i64 0, .int .i64 0] 26)) = wx2 at *
            generalize wq3.heap.size = nm at *
            have qp0 : wx2.cell? ⟨np, 0, none⟩ = some (.int .i64 (z 0)) := Fp.out.c 0 rfl
            have qp1 : wx2.cell? ⟨np, 1, none⟩ = some (.int .i64 (z 1)) := Fp.out.c 1 rfl
            have qp2 : wx2.cell? ⟨np, 2, none⟩ = some (.int .i64 (z 2)) := Fp.out.c 2 rfl
            have qp3 : wx2.cell? ⟨np, 3, none⟩ = some (.int .i64 (z 3)) := Fp.out.c 3 rfl
            have qp4 : wx2.cell? ⟨np, 4, none⟩ = some (.int .i64 (z 4)) := Fp.out.c 4 rfl
            have qp5 : wx2.cell? ⟨np, 5, none⟩ = some (.int .i64 (z 5)) := Fp.out.c 5 rfl
            have qp6 : wx2.cell? ⟨np, 6, none⟩ = some (.int .i64 (z 6)) := Fp.out.c 6 rfl
            go_wp2_with fail
            refine (HK.out _).mono ?_
            rintro e wq4 ⟨rfl, xq4⟩
            have Fp : Hid (HV wq4 np [.int .i64 (z 0), .int .i64 (z 1), .int .i64 (z 2), .int .i64 (z 3), .int .i64 (z 4), .int .i64 (z 5), .int .i64 (z 6), .int .i64 (z 7), .int .i64 (z 8), .int .i64 (z 9)]) := Fp.out.ext xq4
            have Fw : Hid (HV wq4 nw [.int .i64 0, .int .i64 0, .int .i64 0, .int .i64 0, .int .i64 0, .int .i64 0, .int .i64 0]) := Fw.out.ext xq4
            have Fm : Hid (HV wq4 nm [.int .i64 0, .int .i64 0, .int .i64 0, .int .i64 0, .int .i64 0, .int .i64 0, .int .i64 0]) := Fm.out.ext xq4
            have FX : Hid (Ext w wq4) := FX.out.trans xq4
            clear qp0 qp1 qp2 qp3 qp4 qp5 qp6 xq4 HK
            have qm0 : wq4.cell? ⟨nm, 0, none⟩ = some (.int .i64 0) := Fm.out.c 0 rfl
            have qm1 : wq4.cell? ⟨nm, 1, none⟩ = some (.int .i64 0) := Fm.out.c 1 rfl
            have qm2 : wq4.cell? ⟨nm, 2, none⟩ = some (.int .i64 0) := Fm.out.c 2 rfl
            have qm3 : wq4.cell? ⟨nm, 3, none⟩ = some (.int .i64 0) := Fm.out.c 3 rfl
            have qm4 : wq4.cell? ⟨nm, 4, none⟩ = some (.int .i64 0) := Fm.out.c 4 rfl
            have qm5 : wq4.cell? ⟨nm, 5, none⟩ = some (.int .i64 0) := Fm.out.c 5 rfl
            have qm6 : wq4.cell? ⟨nm, 6, none⟩ = some (.int .i64 0) := Fm.out.c 6 rfl
            have qw0 : wq4.cell? ⟨nw, 0, none⟩ = some (.int .i64 0) := Fw.out.c 0 rfl
            have qw1 : wq4.cell? ⟨nw, 1, none⟩ = some (.int .i64 0) := Fw.out.c 1 rfl
            have qw2 : wq4.cell? ⟨nw, 2, none⟩ = some (.int .i64 0) := Fw.out.c 2 rfl
            have qw3 : wq4.cell? ⟨nw, 3, none⟩ = some (.int .i64 0) := Fw.out.c 3 rfl
            have qw4 : wq4.cell? ⟨nw, 4, none⟩ = some (.int .i64 0) := Fw.out.c 4 rfl
            have qw5 : wq4.cell? ⟨nw, 5, none⟩ = some (.int .i64 0) := Fw.out.c 5 rfl
            have qw6 : wq4.cell? ⟨nw, 6, none⟩ = some (.int .i64 0) := Fw.out.c 6 rfl
            go_wp2_with (go_at_call 10; refine (num11_any _ _).mono ?_; rintro e wx ⟨rfl, hwx⟩; have hwy := hwx.symm; clear hwx; subst hwy)
            go_roundw
            case rel => exact ⟨k + 1, by omega, by go_num, FX⟩
            case measure => simp [intOf]; omega
        · cases h2 : ok3 (z 7) (z 8) (z 9)
          · have ec : chkLn (z 0) (z 1) (z 2) (z 3) (z 4) (z 5) (z 6) = 0 := by unfold chkLn; rw [h1]; rfl
            have et : takeL (z 0) (z 1) (z 2) (z 3) (z 4) (z 5) (z 6) (z 7) (z 8) (z 9) = .tuple #[.agg #[.int .i64 0, .int .i64 0, .int .i64 0, .int .i64 0, .int .i64 0, .int .i64 0, .int .i64 0], .bool false, .int .i64 1] := by unfold takeL; rw [h1, h2]; rfl
            rw [ec] at HK
            rw [et] at HT
            rw [h1] at HL
            rw [h2] at HV1
            clear ec et h1 h2
            have qp0 : wx1.cell? ⟨np, 0, none⟩ = some (.int .i64 (z 0)) := Fp.out.c 0 rfl
            have qp1 : wx1.cell? ⟨np, 1, none⟩ = some (.int .i64 (z 1)) := Fp.out.c 1 rfl
            have qp2 : wx1.cell? ⟨np, 2, none⟩ = some (.int .i64 (z 2)) := Fp.out.c 2 rfl
            have qp3 : wx1.cell? ⟨np, 3, none⟩ = some (.int .i64 (z 3)) := Fp.out.c 3 rfl
            have qp4 : wx1.cell? ⟨np, 4, none⟩ = some (.int .i64 (z 4)) := Fp.out.c 4 rfl
            have qp5 : wx1.cell? ⟨np, 5, none⟩ = some (.int .i64 (z 5)) := Fp.out.c 5 rfl
            have qp6 : wx1.cell? ⟨np, 6, none⟩ = some (.int .i64 (z 6)) := Fp.out.c 6 rfl
            go_upto_region 8 with (first | (go_at_call 6; refine (HL.out _).mono ?_; rintro e wq0 ⟨rfl, xq0⟩))
            have Fp : Hid (HV wq0 np [.int .i64 (z 0), .int .i64 (z 1), .int .i64 (z 2), .int .i64 (z 3), .int .i64 (z 4), .int .i64 (z 5), .int .i64 (z 6), .int .i64 (z 7), .int .i64 (z 8), .int .i64 (z 9)]) := Fp.out.ext xq0
            have FX : Hid (Ext w wq0) := FX.out.trans xq0
            clear qp0 qp1 qp2 qp3 qp4 qp5 qp6 xq0 HL
            have qp7 : wq0.cell? ⟨np, 7, none⟩ = some (.int .i64 (z 7)) := Fp.out.c 7 rfl
            have qp8 : wq0.cell? ⟨np, 8, none⟩ = some (.int .i64 (z 8)) := Fp.out.c 8 rfl
            have qp9 : wq0.cell? ⟨np, 9, none⟩ = some (.int .i64 (z 9)) := Fp.out.c 9 rfl
            go_upto_region 11 with (first | (go_at_call 7; refine (HV1.out _).mono ?_; rintro e wq1 ⟨rfl, xq1⟩))
            have Fp : Hid (HV wq1 np [.int .i64 (z 0), .int .i64 (z 1), .int .i64 (z 2), .int .i64 (z 3), .int .i64 (z 4), .int .i64 (z 5), .int .i64 (z 6), .int .i64 (z 7), .int .i64 (z 8), .int .i64 (z 9)]) := Fp.out.ext xq1
            have FX : Hid (Ext w wq1) := FX.out.trans xq1
            clear qp7 qp8 qp9 xq1 HV1
            go_upto_region 12 with fail
            have ltpw : np < wq1.heap.size := Fp.out.1
            have Lw : Hid (w.heap.size ≤ wq1.heap.size) := FX.out.size
            have Fp : Hid (HV (wq1.alloc (.cells #[.int .i64 0, .int .i64 0, .int .i64 0, .int .i64 0, .int .i64 0, .int .i64 0, .int .i64 0] 26)) np [.int .i64 (z 0), .int .i64 (z 1), .int .i64 (z 2), .int .i64 (z 3), .int .i64 (z 4), .int .i64 (z 5), .int .i64 (z 6), .int .i64 (z 7), .int .i64 (z 8), .int .i64 (z 9)]) := Fp.out.alloc _
            have Fw : Hid (HV (wq1.alloc (.cells #[.int .i64 0, .int .i64 0, .int .i64 0, .int .i64 0, .int .i64 0, .int .i64 0, .int .i64 0] 26)) wq1.heap.size [.int .i64 0, .int .i64 0, .int .i64 0, .int .i64 0, .int .i64 0, .int .i64 0, .int .i64 0]) := hv_at rfl
            have FX : Hid (Ext w (wq1.alloc (.cells #[.int .i64 0, .int .i64 0, .int .i64 0, .int .i64 0, .int .i64 0, .int .i64 0, .int .i64 0] 26))) := FX.out.alloc _
            generalize (wq1.alloc (.cells #[.int .i64 0, .int .i64 0, .int .i64 0, .int .i64 0, .int .i64 0, .int .i64 0, .int .i64 0] 26)) = wx1 at *
            generalize wq1.heap.size = nw at *
            go_upto_region 15 with fail
            have qp0 : wx1.cell? ⟨np, 0, none⟩ = some (.int .i64 (z 0)) := Fp.out.c 0 rfl
            have qp1 : wx1.cell? ⟨np, 1, none⟩ = some (.int .i64 (z 1)) := Fp.out.c 1 rfl
            have qp2 : wx1.cell? ⟨np, 2, none⟩ = some (.int .i64 (z 2)) := Fp.out.c 2 rfl
            have qp3 : wx1.cell? ⟨np, 3, none⟩ = some (.int .i64 (z 3)) := Fp.out.c 3 rfl
            have qp4 : wx1.cell? ⟨np, 4, none⟩ = some (.int .i64 (z 4)) := Fp.out.c 4 rfl
            have qp5 : wx1.cell? ⟨np, 5, none⟩ = some (.int .i64 (z 5)) := Fp.out.c 5 rfl
            have qp6 : wx1.cell? ⟨np, 6, none⟩ = some (.int .i64 (z 6)) := Fp.out.c 6 rfl
            have qp7 : wx1.cell? ⟨np, 7, none⟩ = some (.int .i64 (z 7)) := Fp.out.c 7 rfl
            have qp8 : wx1.cell? ⟨np, 8, none⟩ = some (.int .i64 (z 8)) := Fp.out.c 8 rfl
            have qp9 : wx1.cell? ⟨np, 9, none⟩ = some (.int .i64 (z 9)) := Fp.out.c 9 rfl
            go_upto_region 16 with (first | (go_at_call 9; refine (HT.out _).mono ?_; rintro e wq3 ⟨rfl, xq3⟩))
            have Fp : Hid (HV wq3 np [.int .i64 (z 0), .int .i64 (z 1), .int .i64 (z 2), .int .i64 (z 3), .int .i64 (z 4), .int .i64 (z 5), .int .i64 (z 6), .int .i64 (z 7), .int .i64 (z 8), .int .i64 (z 9)]) := Fp.out.ext xq3
            have Fw : Hid (HV wq3 nw [.int .i64 0, .int .i64 0, .int .i64 0, .int .i64 0, .int .i64 0, .int .i64 0, .int .i64 0]) := Fw.out.ext xq3
            have FX : Hid (Ext w wq3) := FX.out.trans xq3
            clear qp0 qp1 qp2 qp3 qp4 qp5 qp6 qp7 qp8 qp9 xq3 HT
            have ltpm : np < wq3.heap.size := Fp.out.1
            have ltwm : nw < wq3.heap.size := Fw.out.1
            have Lm : Hid (w.heap.size ≤ wq3.heap.size) := FX.out.size
            have Fp : Hid (HV (wq3.alloc (.cells #[.int .i64 0, .int .i64 0, .int .i64 0, .int .i64 0, .int .i64 0, .int .i64 0, .int .i64 0] 26)) np [.int .i64 (z 0), .int .i64 (z 1), .int .i64 (z 2), .int .i64 (z 3), .int .i64 (z 4), .int .i64 (z 5), .int .i64 (z 6), .int .i64 (z 7), .int .i64 (z 8), .int .i64 (z 9)]) := Fp.out.alloc _
            have Fw : Hid (HV (wq3.alloc (.cells #[.int .i64 0, .int .i64 0, .int .i64 0, .int .i64 0, .int .i64 0, .int .i64 0, .int .i64 0] 26)) nw [.int .i64 0, .int .i64 0, .int .i64 0, .int .i64 0, .int .i64 0, .int .i64 0, .int .i64 0]) := Fw.out.alloc _
            have Fm : Hid (HV (wq3.alloc (.cells #[.int .i64 0, .int .i64 0, .int .i64 0, .int .i64 0, .int .i64 0, .int .i64 0, .int .i64 0] 26)) wq3.heap.size [.int .i64 0, .int .i64 0, .int .i64 0, .int .i64 0, .int .i64 0, .int .i64 0, .int .i64 0]) := hv_at rfl
            have FX : Hid (Ext w (wq3.alloc (.cells #[.int .i64 0, .int .i64 0, .int .i64 0, .int .i64 0, .int .i64 0, .int .i64 0, .int .i64 0] 26))) := FX.out.alloc _
            generalize (wq3.alloc (.cells #[.int .i64 0, .int .i64 0, .int .i64 0, .int .i64 0, .int .i64 0, .int .i64 0, .int .i64 0] 26)) = wx2 at *
            generalize wq3.heap.size = nm at *
            have qp0 : wx2.cell? ⟨np, 0, none⟩ = some (.int .i64 (z 0)) := Fp.out.c 0 rfl
            have qp1 : wx2.cell? ⟨np, 1, none⟩ = some (.int .i64 (z 1)) := Fp.out.c 1 rfl
            have qp2 : wx2.cell? ⟨np, 2, none⟩ = some (.int .i64 (z 2)) := Fp.out.c 2 rfl
            have qp3 : wx2.cell? ⟨np, 3, none⟩ = some (.int .i64 (z 3)) := Fp.out.c 3 rfl
            have qp4 : wx2.cell? ⟨np, 4, none⟩ = some (.int .i64 (z 4)) := Fp.out.c 4 rfl
            have qp5 : wx2.cell? ⟨np, 5, none⟩ = some (.int .i64 (z 5)) := Fp.out.c 5 rfl
            have qp6 : wx2.cell? ⟨np, 6, none⟩ = some (.int .i64 (z 6)) := Fp.out.c 6 rfl
            go_wp2_with fail
            refine (HK.out _).mono ?_
            rintro e wq4 ⟨rfl, xq4⟩
            have Fp : Hid (HV wq4 np [.int .i64 (z 0), .int .i64 (z 1), .int .i64 (z 2), .int .i64 (z 3), .int .i64 (z 4), .int .i64 (z 5), .int .i64 (z 6), .int .i64 (z 7), .int .i64 (z 8), .int .i64 (z 9)]) := Fp.out.ext xq4
            have Fw : Hid (HV wq4 nw [.int .i64 0, .int .i64 0, .int .i64 0, .int .i64 0, .int .i64 0, .int .i64 0, .int .i64 0]) := Fw.out.ext xq4
            have Fm : Hid (HV wq4 nm [.int .i64 0, .int .i64 0, .int .i64 0, .int .i64 0, .int .i64 0, .int .i64 0, .int .i64 0]) := Fm.out.ext xq4
            have FX : Hid (Ext w wq4) := FX.out.trans xq4
            clear qp0 qp1 qp2 qp3 qp4 qp5 qp6 xq4 HK
            have qm0 : wq4.cell? ⟨nm, 0, none⟩ = some (.int .i64 0) := Fm.out.c 0 rfl
            have qm1 : wq4.cell? ⟨nm, 1, none⟩ = some (.int .i64 0) := Fm.out.c 1 rfl
            have qm2 : wq4.cell? ⟨nm, 2, none⟩ = some (.int .i64 0) := Fm.out.c 2 rfl
            have qm3 : wq4.cell? ⟨nm, 3, none⟩ = some (.int .i64 0) := Fm.out.c 3 rfl
            have qm4 : wq4.cell? ⟨nm, 4, none⟩ = some (.int .i64 0) := Fm.out.c 4 rfl
            have qm5 : wq4.cell? ⟨nm, 5, none⟩ = some (.int .i64 0) := Fm.out.c 5 rfl
            have qm6 : wq4.cell? ⟨nm, 6, none⟩ = some (.int .i64 0) := Fm.out.c 6 rfl
            have qw0 : wq4.cell? ⟨nw, 0, none⟩ = some (.int .i64 0) := Fw.out.c 0 rfl
            have qw1 : wq4.cell? ⟨nw, 1, none⟩ = some (.int .i64 0) := Fw.out.c 1 rfl
            have qw2 : wq4.cell? ⟨nw, 2, none⟩ = some (.int .i64 0) := Fw.out.c 2 rfl
            have qw3 : wq4.cell? ⟨nw, 3, none⟩ = some (.int .i64 0) := Fw.out.c 3 rfl
            have qw4 : wq4.cell? ⟨nw, 4, none⟩ = some (.int .i64 0) := Fw.out.c 4 rfl
            have qw5 : wq4.cell? ⟨nw, 5, none⟩ = some (.int .i64 0) := Fw.out.c 5 rfl
            have qw6 : wq4.cell? ⟨nw, 6, none⟩ = some (.int .i64 0) := Fw.out.c 6 rfl
            go_wp2_with (go_at_call 10; refine (num11_any _ _).mono ?_; rintro e wx ⟨rfl, hwx⟩; have hwy := hwx.symm; clear hwx; subst hwy)
            go_roundw
            case rel => exact ⟨k + 1, by omega, by go_num, FX⟩
            case measure => simp [intOf]; omega
          · have ec : chkLn (z 0) (z 1) (z 2) (z 3) (z 4) (z 5) (z 6) = 0 := by unfold chkLn; rw [h1]; rfl
            have HG : Hid (∀ w, Calls Try.prog 8 #[.agg #[.int .i64 (z 0), .int .i64 (z 1), .int .i64 (z 2), .int .i64 (z 3), .int .i64 (z 4), .int .i64 (z 5), .int .i64 (z 6)], .agg #[.int .i64 (z 7), .int .i64 (z 8), .int .i64 (z 9)]] w fun e w' => e = .returned (takeL (z 0) (z 1) (z 2) (z 3) (z 4) (z 5) (z 6) (z 7) (z 8) (z 9)) ∧ Ext w w') := fun w => rlearn_any _ _ _ _ _ _ _ _ _ _ w h1 h2
            obtain ⟨m0, m1, m2, m3, m4, m5, m6, told, er, et⟩ := takeL_form (z 0) (z 1) (z 2) (z 3) (z 4) (z 5) (z 6) (z 7) (z 8) (z 9)
            rw [et] at HG
            rw [ec] at HK
            rw [et] at HT
            rw [h1] at HL
            rw [h2] at HV1
            clear ec et h1 h2
            have qp0 : wx1.cell? ⟨np, 0, none⟩ = some (.int .i64 (z 0)) := Fp.out.c 0 rfl
            have qp1 : wx1.cell? ⟨np, 1, none⟩ = some (.int .i64 (z 1)) := Fp.out.c 1 rfl
            have qp2 : wx1.cell? ⟨np, 2, none⟩ = some (.int .i64 (z 2)) := Fp.out.c 2 rfl
            have qp3 : wx1.cell? ⟨np, 3, none⟩ = some (.int .i64 (z 3)) := Fp.out.c 3 rfl
            have qp4 : wx1.cell? ⟨np, 4, none⟩ = some (.int .i64 (z 4)) := Fp.out.c 4 rfl
            have qp5 : wx1.cell? ⟨np, 5, none⟩ = some (.int .i64 (z 5)) := Fp.out.c 5 rfl
            have qp6 : wx1.cell? ⟨np, 6, none⟩ = some (.int .i64 (z 6)) := Fp.out.c 6 rfl
            go_upto_region 8 with (first | (go_at_call 6; refine (HL.out _).mono ?_; rintro e wq0 ⟨rfl, xq0⟩))
            have Fp : Hid (HV wq0 np [.int .i64 (z 0), .int .i64 (z 1), .int .i64 (z 2), .int .i64 (z 3), .int .i64 (z 4), .int .i64 (z 5), .int .i64 (z 6), .int .i64 (z 7), .int .i64 (z 8), .int .i64 (z 9)]) := Fp.out.ext xq0
            have FX : Hid (Ext w wq0) := FX.out.trans xq0
            clear qp0 qp1 qp2 qp3 qp4 qp5 qp6 xq0 HL
            have qp7 : wq0.cell? ⟨np, 7, none⟩ = some (.int .i64 (z 7)) := Fp.out.c 7 rfl
            have qp8 : wq0.cell? ⟨np, 8, none⟩ = some (.int .i64 (z 8)) := Fp.out.c 8 rfl
            have qp9 : wq0.cell? ⟨np, 9, none⟩ = some (.int .i64 (z 9)) := Fp.out.c 9 rfl
            go_upto_region 11 with (first | (go_at_call 7; refine (HV1.out _).mono ?_; rintro e wq1 ⟨rfl, xq1⟩))
            have Fp : Hid (HV wq1 np [.int .i64 (z 0), .int .i64 (z 1), .int .i64 (z 2), .int .i64 (z 3), .int .i64 (z 4), .int .i64 (z 5), .int .i64 (z 6), .int .i64 (z 7), .int .i64 (z 8), .int .i64 (z 9)]) := Fp.out.ext xq1
            have FX : Hid (Ext w wq1) := FX.out.trans xq1
            clear qp7 qp8 qp9 xq1 HV1
            go_upto_region 12 with fail
            have ltpw : np < wq1.heap.size := Fp.out.1
            have Lw : Hid (w.heap.size ≤ wq1.heap.size) := FX.out.size
            have Fp : Hid (HV (wq1.alloc (.cells #[.int .i64 0, .int .i64 0, .int .i64 0, .int .i64 0, .int .i64 0, .int .i64 0, .int .i64 0] 26)) np [.int .i64 (z 0), .int .i64 (z 1), .int .i64 (z 2), .int .i64 (z 3), .int .i64 (z 4), .int .i64 (z 5), .int .i64 (z 6), .int .i64 (z 7), .int .i64 (z 8), .int .i64 (z 9)]) := Fp.out.alloc _
            have Fw : Hid (HV (wq1.alloc (.cells #[.int .i64 0, .int .i64 0, .int .i64 0, .int .i64 0, .int .i64 0, .int .i64 0, .int .i64 0] 26)) wq1.heap.size [.int .i64 0, .int .i64 0, .int .i64 0, .int .i64 0, .int .i64 0, .int .i64 0, .int .i64 0]) := hv_at rfl
            have FX : Hid (Ext w (wq1.alloc (.cells #[.int .i64 0, .int .i64 0, .int .i64 0, .int .i64 0, .int .i64 0, .int .i64 0, .int .i64 0] 26))) := FX.out.alloc _
            generalize (wq1.alloc (.cells #[.int .i64 0, .int .i64 0, .int .i64 0, .int .i64 0, .int .i64 0, .int .i64 0, .int .i64 0] 26)) = wx1 at *
            generalize wq1.heap.size = nw at *
            have qp0 : wx1.cell? ⟨np, 0, none⟩ = some (.int .i64 (z 0)) := Fp.out.c 0 rfl
            have qp1 : wx1.cell? ⟨np, 1, none⟩ = some (.int .i64 (z 1)) := Fp.out.c 1 rfl
            have qp2 : wx1.cell? ⟨np, 2, none⟩ = some (.int .i64 (z 2)) := Fp.out.c 2 rfl
            have qp3 : wx1.cell? ⟨np, 3, none⟩ = some (.int .i64 (z 3)) := Fp.out.c 3 rfl
            have qp4 : wx1.cell? ⟨np, 4, none⟩ = some (.int .i64 (z 4)) := Fp.out.c 4 rfl
            have qp5 : wx1.cell? ⟨np, 5, none⟩ = some (.int .i64 (z 5)) := Fp.out.c 5 rfl
            have qp6 : wx1.cell? ⟨np, 6, none⟩ = some (.int .i64 (z 6)) := Fp.out.c 6 rfl
            have qp7 : wx1.cell? ⟨np, 7, none⟩ = some (.int .i64 (z 7)) := Fp.out.c 7 rfl
            have qp8 : wx1.cell? ⟨np, 8, none⟩ = some (.int .i64 (z 8)) := Fp.out.c 8 rfl
            have qp9 : wx1.cell? ⟨np, 9, none⟩ = some (.int .i64 (z 9)) := Fp.out.c 9 rfl
            go_upto_region 15 with (first | (go_at_call 8; refine (HG.out _).mono ?_; rintro e wq2 ⟨rfl, xq2⟩; have kw0 : wq2.cell? ⟨nw, 0, none⟩ = some (.int .i64 0) := (Fw.out.ext xq2).c 0 rfl; have zw0 : wq2.frozen? ⟨nw, 0, none⟩ = false := (Fw.out.ext xq2).f 0 rfl; have kw1 : wq2.cell? ⟨nw, 1, none⟩ = some (.int .i64 0) := (Fw.out.ext xq2).c 1 rfl; have zw1 : wq2.frozen? ⟨nw, 1, none⟩ = false := (Fw.out.ext xq2).f 1 rfl; have kw2 : wq2.cell? ⟨nw, 2, none⟩ = some (.int .i64 0) := (Fw.out.ext xq2).c 2 rfl; have zw2 : wq2.frozen? ⟨nw, 2, none⟩ = false := (Fw.out.ext xq2).f 2 rfl; have kw3 : wq2.cell? ⟨nw, 3, none⟩ = some (.int .i64 0) := (Fw.out.ext xq2).c 3 rfl; have zw3 : wq2.frozen? ⟨nw, 3, none⟩ = false := (Fw.out.ext xq2).f 3 rfl; have kw4 : wq2.cell? ⟨nw, 4, none⟩ = some (.int .i64 0) := (Fw.out.ext xq2).c 4 rfl; have zw4 : wq2.frozen? ⟨nw, 4, none⟩ = false := (Fw.out.ext xq2).f 4 rfl; have kw5 : wq2.cell? ⟨nw, 5, none⟩ = some (.int .i64 0) := (Fw.out.ext xq2).c 5 rfl; have zw5 : wq2.frozen? ⟨nw, 5, none⟩ = false := (Fw.out.ext xq2).f 5 rfl; have kw6 : wq2.cell? ⟨nw, 6, none⟩ = some (.int .i64 0) := (Fw.out.ext xq2).c 6 rfl; have zw6 : wq2.frozen? ⟨nw, 6, none⟩ = false := (Fw.out.ext xq2).f 6 rfl))
            have Fp : Hid (HV wq2 np [.int .i64 (z 0), .int .i64 (z 1), .int .i64 (z 2), .int .i64 (z 3), .int .i64 (z 4), .int .i64 (z 5), .int .i64 (z 6), .int .i64 (z 7), .int .i64 (z 8), .int .i64 (z 9)]) := Fp.out.ext xq2
            have Fw : Hid (HV wq2 nw [.int .i64 0, .int .i64 0, .int .i64 0, .int .i64 0, .int .i64 0, .int .i64 0, .int .i64 0]) := Fw.out.ext xq2
            have FX : Hid (Ext w wq2) := FX.out.trans xq2
            clear qp0 qp1 qp2 qp3 qp4 qp5 qp6 qp7 qp8 qp9 xq2 HG kw0 kw1 kw2 kw3 kw4 kw5 kw6 zw0 zw1 zw2 zw3 zw4 zw5 zw6
            have Fp : Hid (HV (((((((wq2.setCell ⟨nw, 0, none⟩ (.int .i64 m0)).setCell ⟨nw, 1, none⟩ (.int .i64 m1)).setCell ⟨nw, 2, none⟩ (.int .i64 m2)).setCell ⟨nw, 3, none⟩ (.int .i64 m3)).setCell ⟨nw, 4, none⟩ (.int .i64 m4)).setCell ⟨nw, 5, none⟩ (.int .i64 m5)).setCell ⟨nw, 6, none⟩ (.int .i64 m6)) np [.int .i64 (z 0), .int .i64 (z 1), .int .i64 (z 2), .int .i64 (z 3), .int .i64 (z 4), .int .i64 (z 5), .int .i64 (z 6), .int .i64 (z 7), .int .i64 (z 8), .int .i64 (z 9)]) := (((((((Fp.out.far (by omega)).far (by omega)).far (by omega)).far (by omega)).far (by omega)).far (by omega)).far (by omega))
            have Fw : Hid (HV (((((((wq2.setCell ⟨nw, 0, none⟩ (.int .i64 m0)).setCell ⟨nw, 1, none⟩ (.int .i64 m1)).setCell ⟨nw, 2, none⟩ (.int .i64 m2)).setCell ⟨nw, 3, none⟩ (.int .i64 m3)).setCell ⟨nw, 4, none⟩ (.int .i64 m4)).setCell ⟨nw, 5, none⟩ (.int .i64 m5)).setCell ⟨nw, 6, none⟩ (.int .i64 m6)) nw [.int .i64 m0, .int .i64 m1, .int .i64 m2, .int .i64 m3, .int .i64 m4, .int .i64 m5, .int .i64 m6]) := (((((((Fw.out.set 0 (.int .i64 m0)).set 1 (.int .i64 m1)).set 2 (.int .i64 m2)).set 3 (.int .i64 m3)).set 4 (.int .i64 m4)).set 5 (.int .i64 m5)).set 6 (.int .i64 m6))
            have FX : Hid (Ext w (((((((wq2.setCell ⟨nw, 0, none⟩ (.int .i64 m0)).setCell ⟨nw, 1, none⟩ (.int .i64 m1)).setCell ⟨nw, 2, none⟩ (.int .i64 m2)).setCell ⟨nw, 3, none⟩ (.int .i64 m3)).setCell ⟨nw, 4, none⟩ (.int .i64 m4)).setCell ⟨nw, 5, none⟩ (.int .i64 m5)).setCell ⟨nw, 6, none⟩ (.int .i64 m6))) := (((((((FX.out.set (p := ⟨nw, 0, none⟩) Lw.out (.int .i64 m0)).set (p := ⟨nw, 1, none⟩) Lw.out (.int .i64 m1)).set (p := ⟨nw, 2, none⟩) Lw.out (.int .i64 m2)).set (p := ⟨nw, 3, none⟩) Lw.out (.int .i64 m3)).set (p := ⟨nw, 4, none⟩) Lw.out (.int .i64 m4)).set (p := ⟨nw, 5, none⟩) Lw.out (.int .i64 m5)).set (p := ⟨nw, 6, none⟩) Lw.out (.int .i64 m6))
            generalize (((((((wq2.setCell ⟨nw, 0, none⟩ (.int .i64 m0)).setCell ⟨nw, 1, none⟩ (.int .i64 m1)).setCell ⟨nw, 2, none⟩ (.int .i64 m2)).setCell ⟨nw, 3, none⟩ (.int .i64 m3)).setCell ⟨nw, 4, none⟩ (.int .i64 m4)).setCell ⟨nw, 5, none⟩ (.int .i64 m5)).setCell ⟨nw, 6, none⟩ (.int .i64 m6)) = wx2 at *
            have qp0 : wx2.cell? ⟨np, 0, none⟩ = some (.int .i64 (z 0)) := Fp.out.c 0 rfl
            have qp1 : wx2.cell? ⟨np, 1, none⟩ = some (.int .i64 (z 1)) := Fp.out.c 1 rfl
            have qp2 : wx2.cell? ⟨np, 2, none⟩ = some (.int .i64 (z 2)) := Fp.out.c 2 rfl
            have qp3 : wx2.cell? ⟨np, 3, none⟩ = some (.int .i64 (z 3)) := Fp.out.c 3 rfl
            have qp4 : wx2.cell? ⟨np, 4, none⟩ = some (.int .i64 (z 4)) := Fp.out.c 4 rfl
            have qp5 : wx2.cell? ⟨np, 5, none⟩ = some (.int .i64 (z 5)) := Fp.out.c 5 rfl
            have qp6 : wx2.cell? ⟨np, 6, none⟩ = some (.int .i64 (z 6)) := Fp.out.c 6 rfl
            have qp7 : wx2.cell? ⟨np, 7, none⟩ = some (.int .i64 (z 7)) := Fp.out.c 7 rfl
            have qp8 : wx2.cell? ⟨np, 8, none⟩ = some (.int .i64 (z 8)) := Fp.out.c 8 rfl
            have qp9 : wx2.cell? ⟨np, 9, none⟩ = some (.int .i64 (z 9)) := Fp.out.c 9 rfl
            go_upto_region 16 with (first | (go_at_call 9; refine (HT.out _).mono ?_; rintro e wq3 ⟨rfl, xq3⟩))
            have Fp : Hid (HV wq3 np [.int .i64 (z 0), .int .i64 (z 1), .int .i64 (z 2), .int .i64 (z 3), .int .i64 (z 4), .int .i64 (z 5), .int .i64 (z 6), .int .i64 (z 7), .int .i64 (z 8), .int .i64 (z 9)]) := Fp.out.ext xq3
            have Fw : Hid (HV wq3 nw [.int .i64 m0, .int .i64 m1, .int .i64 m2, .int .i64 m3, .int .i64 m4, .int .i64 m5, .int .i64 m6]) := Fw.out.ext xq3
            have FX : Hid (Ext w wq3) := FX.out.trans xq3
            clear qp0 qp1 qp2 qp3 qp4 qp5 qp6 qp7 qp8 qp9 xq3 HT
            have ltpm : np < wq3.heap.size := Fp.out.1
            have ltwm : nw < wq3.heap.size := Fw.out.1
            have Lm : Hid (w.heap.size ≤ wq3.heap.size) := FX.out.size
            have Fp : Hid (HV (wq3.alloc (.cells #[.int .i64 m0, .int .i64 m1, .int .i64 m2, .int .i64 m3, .int .i64 m4, .int .i64 m5, .int .i64 m6] 26)) np [.int .i64 (z 0), .int .i64 (z 1), .int .i64 (z 2), .int .i64 (z 3), .int .i64 (z 4), .int .i64 (z 5), .int .i64 (z 6), .int .i64 (z 7), .int .i64 (z 8), .int .i64 (z 9)]) := Fp.out.alloc _
            have Fw : Hid (HV (wq3.alloc (.cells #[.int .i64 m0, .int .i64 m1, .int .i64 m2, .int .i64 m3, .int .i64 m4, .int .i64 m5, .int .i64 m6] 26)) nw [.int .i64 m0, .int .i64 m1, .int .i64 m2, .int .i64 m3, .int .i64 m4, .int .i64 m5, .int .i64 m6]) := Fw.out.alloc _
            have Fm : Hid (HV (wq3.alloc (.cells #[.int .i64 m0, .int .i64 m1, .int .i64 m2, .int .i64 m3, .int .i64 m4, .int .i64 m5, .int .i64 m6] 26)) wq3.heap.size [.int .i64 m0, .int .i64 m1, .int .i64 m2, .int .i64 m3, .int .i64 m4, .int .i64 m5, .int .i64 m6]) := hv_at rfl
            have FX : Hid (Ext w (wq3.alloc (.cells #[.int .i64 m0, .int .i64 m1, .int .i64 m2, .int .i64 m3, .int .i64 m4, .int .i64 m5, .int .i64 m6] 26))) := FX.out.alloc _
            generalize (wq3.alloc (.cells #[.int .i64 m0, .int .i64 m1, .int .i64 m2, .int .i64 m3, .int .i64 m4, .int .i64 m5, .int .i64 m6] 26)) = wx3 at *
            generalize wq3.heap.size = nm at *
            have qp0 : wx3.cell? ⟨np, 0, none⟩ = some (.int .i64 (z 0)) := Fp.out.c 0 rfl
            have qp1 : wx3.cell? ⟨np, 1, none⟩ = some (.int .i64 (z 1)) := Fp.out.c 1 rfl
            have qp2 : wx3.cell? ⟨np, 2, none⟩ = some (.int .i64 (z 2)) := Fp.out.c 2 rfl
            have qp3 : wx3.cell? ⟨np, 3, none⟩ = some (.int .i64 (z 3)) := Fp.out.c 3 rfl
            have qp4 : wx3.cell? ⟨np, 4, none⟩ = some (.int .i64 (z 4)) := Fp.out.c 4 rfl
            have qp5 : wx3.cell? ⟨np, 5, none⟩ = some (.int .i64 (z 5)) := Fp.out.c 5 rfl
            have qp6 : wx3.cell? ⟨np, 6, none⟩ = some (.int .i64 (z 6)) := Fp.out.c 6 rfl
            go_wp2_with fail
            refine (HK.out _).mono ?_
            rintro e wq4 ⟨rfl, xq4⟩
            have Fp : Hid (HV wq4 np [.int .i64 (z 0), .int .i64 (z 1), .int .i64 (z 2), .int .i64 (z 3), .int .i64 (z 4), .int .i64 (z 5), .int .i64 (z 6), .int .i64 (z 7), .int .i64 (z 8), .int .i64 (z 9)]) := Fp.out.ext xq4
            have Fw : Hid (HV wq4 nw [.int .i64 m0, .int .i64 m1, .int .i64 m2, .int .i64 m3, .int .i64 m4, .int .i64 m5, .int .i64 m6]) := Fw.out.ext xq4
            have Fm : Hid (HV wq4 nm [.int .i64 m0, .int .i64 m1, .int .i64 m2, .int .i64 m3, .int .i64 m4, .int .i64 m5, .int .i64 m6]) := Fm.out.ext xq4
            have FX : Hid (Ext w wq4) := FX.out.trans xq4
            clear qp0 qp1 qp2 qp3 qp4 qp5 qp6 xq4 HK
            have qm0 : wq4.cell? ⟨nm, 0, none⟩ = some (.int .i64 m0) := Fm.out.c 0 rfl
            have qm1 : wq4.cell? ⟨nm, 1, none⟩ = some (.int .i64 m1) := Fm.out.c 1 rfl
            have qm2 : wq4.cell? ⟨nm, 2, none⟩ = some (.int .i64 m2) := Fm.out.c 2 rfl
            have qm3 : wq4.cell? ⟨nm, 3, none⟩ = some (.int .i64 m3) := Fm.out.c 3 rfl
            have qm4 : wq4.cell? ⟨nm, 4, none⟩ = some (.int .i64 m4) := Fm.out.c 4 rfl
            have qm5 : wq4.cell? ⟨nm, 5, none⟩ = some (.int .i64 m5) := Fm.out.c 5 rfl
            have qm6 : wq4.cell? ⟨nm, 6, none⟩ = some (.int .i64 m6) := Fm.out.c 6 rfl
            have qw0 : wq4.cell? ⟨nw, 0, none⟩ = some (.int .i64 m0) := Fw.out.c 0 rfl
            have qw1 : wq4.cell? ⟨nw, 1, none⟩ = some (.int .i64 m1) := Fw.out.c 1 rfl
            have qw2 : wq4.cell? ⟨nw, 2, none⟩ = some (.int .i64 m2) := Fw.out.c 2 rfl
            have qw3 : wq4.cell? ⟨nw, 3, none⟩ = some (.int .i64 m3) := Fw.out.c 3 rfl
            have qw4 : wq4.cell? ⟨nw, 4, none⟩ = some (.int .i64 m4) := Fw.out.c 4 rfl
            have qw5 : wq4.cell? ⟨nw, 5, none⟩ = some (.int .i64 m5) := Fw.out.c 5 rfl
            have qw6 : wq4.cell? ⟨nw, 6, none⟩ = some (.int .i64 m6) := Fw.out.c 6 rfl
            go_wp2_with (go_at_call 10; refine (num11_any _ _).mono ?_; rintro e wx ⟨rfl, hwx⟩; have hwy := hwx.symm; clear hwx; subst hwy)
            go_roundw
            case rel => exact ⟨k + 1, by omega, by go_num, FX⟩
            case measure => simp [intOf]; omega
      · go_wp2_with fail
        refine (wakes11_any _).mono ?_
        rintro e w1 ⟨rfl, x1⟩
        have E1 : Ext w w1 := FX.out.trans x1
        go_wp2_with fail
        go_ret
        exact ⟨rfl, E1⟩
    · have hk' : k = len := by omega
      subst hk'
      go_wp2_with fail
      refine (wakes11_any _).mono ?_
      rintro e w1 ⟨rfl, x1⟩
      have E1 : Ext w w1 := FX.out.trans x1
      go_wp2_with fail
      go_ret
      exact ⟨rfl, E1⟩
set_option maxHeartbeats 4000000 in
theorem learnexact_none (a : Option Addr) (cap : Nat) (w : World) :
    Calls Try.prog 3 #[.slice a 0 cap] w fun e w' => e = .returned (.bool true) ∧ Ext w w' := by
  go_enter Try.func3, Try.ntmps3
  go_wp2_with fail
  go_loopw [3] (fun i wr => i = .int .i64 0 ∧ Hid (Ext w wr)) (fun _ _ => 0)
  case atStart => exact ⟨rfl, Ext.refl _⟩
  case round =>
    obtain ⟨rfl, FX⟩ := hrel
    go_wp2_with fail
    refine (wakes11_any _).mono ?_
    rintro e w1 ⟨rfl, x1⟩
    have E1 : Ext w w1 := FX.out.trans x1
    go_wp2_with fail
    go_ret
    exact ⟨rfl, E1⟩
end Go.Proofs.Ytcbelhalckehcaa
