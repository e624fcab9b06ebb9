/- ThinExact. -/
import Derived.Test.YtkcfgkedgjpeoaaThXM
import Derived.Deep.Cut
import Derived.Deep.DeepCutAuto
namespace Go.Proofs.Ytkcfgkedgjpeoaa
open Go.RowKit Go.Shelf
theorem takeT_form (s0 s1 s2 n k v0 v1 v2 : Int) : ∃ (u0 u1 u2 u3 m0 m1 m2 : Int) (told : Bool) (e : Int), takeT s0 s1 s2 n k v0 v1 v2 = .tuple #[.agg #[.int .i64 u0, .int .i64 u1, .int .i64 u2, .int .i64 u3], .agg #[.int .i64 m0, .int .i64 m1, .int .i64 m2], .bool told, .int .i64 e] := by
  unfold takeT
  split
  · split
    · exact ⟨_, _, _, _, _, _, _, _, _, rfl⟩
    · split
      · exact ⟨_, _, _, _, _, _, _, _, _, rfl⟩
      · exact ⟨_, _, _, _, _, _, _, _, _, rfl⟩
  · exact ⟨_, _, _, _, _, _, _, _, _, rfl⟩
set_option maxRecDepth 20000 in
set_option maxHeartbeats 40000000 in
theorem thinexact_any (b off len cap : Nat) (Z : Nat → Nat → Int) (w : World) (hl : len ≤ maxLen) (hc : NL 8 w b off len Z) :
    Calls Try.prog 3 #[.slice (some ⟨b, off, none⟩) len cap] w fun e w' => e = .returned (.bool true) ∧ Ext w w' := by
  have hl' : len ≤ 9223372036854775807 := by unfold maxLen at hl; omega
  clear hl
  go_enter Try.func3, Try.ntmps3
  go_wp2_with fail
  go_loopw [3] (fun i wr => ∃ k : Nat, k ≤ len ∧ i = .int .i64 k ∧ Hid (Ext w wr)) (fun i _ => len - (intOf i).toNat)
  case atStart => exact ⟨0, Nat.zero_le _, rfl, Ext.refl _⟩
  case round =>
    obtain ⟨k, hk, rfl, FX⟩ := hrel
    by_cases hlt : k < len
    · by_cases h5 : k < 60
      · skip
        have c0 := ((hc.ext FX.out) k hlt 0 (by omega)).1
        have c1 := ((hc.ext FX.out) k hlt 1 (by omega)).1
        have c2 := ((hc.ext FX.out) k hlt 2 (by omega)).1
        have c3 := ((hc.ext FX.out) k hlt 3 (by omega)).1
        have c4 := ((hc.ext FX.out) k hlt 4 (by omega)).1
        have c5 := ((hc.ext FX.out) k hlt 5 (by omega)).1
        have c6 := ((hc.ext FX.out) k hlt 6 (by omega)).1
        have c7 := ((hc.ext FX.out) k hlt 7 (by omega)).1
        rw [Nat.add_zero] at c0
        have hlt' : (k : Int) < (len : Int) := by omega
        clear hc
        generalize Z k = z at *
        go_upto_region 5 with fail
        clear c0 c1 c2 c3 c4 c5 c6 c7
        have Lp : Hid (w.heap.size ≤ wr.heap.size) := FX.out.size
        have Fp : Hid (HV (wr.alloc (.cells #[.int .i64 (z 0), .int .i64 (z 1), .int .i64 (z 2), .int .i64 (z 3), .int .i64 (z 4), .int .i64 (z 5), .int .i64 (z 6), .int .i64 (z 7)] 28)) wr.heap.size [.int .i64 (z 0), .int .i64 (z 1), .int .i64 (z 2), .int .i64 (z 3), .int .i64 (z 4), .int .i64 (z 5), .int .i64 (z 6), .int .i64 (z 7)]) := hv_at rfl
        have FX : Hid (Ext w (wr.alloc (.cells #[.int .i64 (z 0), .int .i64 (z 1), .int .i64 (z 2), .int .i64 (z 3), .int .i64 (z 4), .int .i64 (z 5), .int .i64 (z 6), .int .i64 (z 7)] 28))) := FX.out.alloc _
        generalize (wr.alloc (.cells #[.int .i64 (z 0), .int .i64 (z 1), .int .i64 (z 2), .int .i64 (z 3), .int .i64 (z 4), .int .i64 (z 5), .int .i64 (z 6), .int .i64 (z 7)] 28)) = wx1 at *
        generalize wr.heap.size = np at *
        go_upto_region 7 with fail
        have ltpw : np < wx1.heap.size := Fp.out.1
        have Lw : Hid (w.heap.size ≤ wx1.heap.size) := FX.out.size
        have Fp : Hid (HV (wx1.alloc (.cells #[.int .i64 0, .int .i64 0, .int .i64 0, .int .i64 0] 26)) np [.int .i64 (z 0), .int .i64 (z 1), .int .i64 (z 2), .int .i64 (z 3), .int .i64 (z 4), .int .i64 (z 5), .int .i64 (z 6), .int .i64 (z 7)]) := Fp.out.alloc _
        have Fw : Hid (HV (wx1.alloc (.cells #[.int .i64 0, .int .i64 0, .int .i64 0, .int .i64 0] 26)) wx1.heap.size [.int .i64 0, .int .i64 0, .int .i64 0, .int .i64 0]) := hv_at rfl
        have FX : Hid (Ext w (wx1.alloc (.cells #[.int .i64 0, .int .i64 0, .int .i64 0, .int .i64 0] 26))) := FX.out.alloc _
        generalize (wx1.alloc (.cells #[.int .i64 0, .int .i64 0, .int .i64 0, .int .i64 0] 26)) = wx2 at *
        generalize wx1.heap.size = nw at *
        go_upto_region 8 with fail
        have ltpa : np < wx2.heap.size := Fp.out.1
        have ltwa : nw < wx2.heap.size := Fw.out.1
        have La : Hid (w.heap.size ≤ wx2.heap.size) := FX.out.size
        have Fp : Hid (HV (wx2.alloc (.cells #[.int .i64 0, .int .i64 0, .int .i64 0] 24)) np [.int .i64 (z 0), .int .i64 (z 1), .int .i64 (z 2), .int .i64 (z 3), .int .i64 (z 4), .int .i64 (z 5), .int .i64 (z 6), .int .i64 (z 7)]) := Fp.out.alloc _
        have Fw : Hid (HV (wx2.alloc (.cells #[.int .i64 0, .int .i64 0, .int .i64 0] 24)) nw [.int .i64 0, .int .i64 0, .int .i64 0, .int .i64 0]) := Fw.out.alloc _
        have Fa : Hid (HV (wx2.alloc (.cells #[.int .i64 0, .int .i64 0, .int .i64 0] 24)) wx2.heap.size [.int .i64 0, .int .i64 0, .int .i64 0]) := hv_at rfl
        have FX : Hid (Ext w (wx2.alloc (.cells #[.int .i64 0, .int .i64 0, .int .i64 0] 24))) := FX.out.alloc _
        generalize (wx2.alloc (.cells #[.int .i64 0, .int .i64 0, .int .i64 0] 24)) = wx3 at *
        generalize wx2.heap.size = na at *
        have HY : Hid (∀ w, Calls Try.prog 6 #[.agg #[.int .i64 (z 0), .int .i64 (z 1), .int .i64 (z 2), .int .i64 (z 3)]] w fun e w' => e = .returned (.bool (okT (z 0) (z 1) (z 2) (z 3))) ∧ Ext w w') := maythin_any _ _ _ _
        have HV1 : Hid (∀ w, Calls Try.prog 7 #[.agg #[.int .i64 (z 5), .int .i64 (z 6), .int .i64 (z 7)]] w fun e w' => e = .returned (.bool (ok3 (z 5) (z 6) (z 7))) ∧ Ext w w') := mayv_any _ _ _
        have HT : Hid (∀ w, Calls Try.prog 9 #[.agg #[.int .i64 (z 0), .int .i64 (z 1), .int .i64 (z 2), .int .i64 (z 3)], .int .i64 (z 4), .agg #[.int .i64 (z 5), .int .i64 (z 6), .int .i64 (z 7)]] w fun e w' => e = .returned (takeT (z 0) (z 1) (z 2) (z 3) (z 4) (z 5) (z 6) (z 7)) ∧ Ext w w') := fun w => ttake_any _ _ _ _ _ _ _ _ w
        cases h1 : okT (z 0) (z 1) (z 2) (z 3)
        · have et : takeT (z 0) (z 1) (z 2) (z 3) (z 4) (z 5) (z 6) (z 7) = .tuple #[.agg #[.int .i64 0, .int .i64 0, .int .i64 0, .int .i64 0], .agg #[.int .i64 0, .int .i64 0, .int .i64 0], .bool false, .int .i64 1] := by unfold takeT; rw [h1]; rfl
          rw [et] at HT
          rw [h1] at HY
          clear et h1
          have qp0 : wx3.cell? ⟨np, 0, none⟩ = some (.int .i64 (z 0)) := Fp.out.c 0 rfl
          have qp1 : wx3.cell? ⟨np, 1, none⟩ = some (.int .i64 (z 1)) := Fp.out.c 1 rfl
          have qp2 : wx3.cell? ⟨np, 2, none⟩ = some (.int .i64 (z 2)) := Fp.out.c 2 rfl
          have qp3 : wx3.cell? ⟨np, 3, none⟩ = some (.int .i64 (z 3)) := Fp.out.c 3 rfl
          go_upto_region 11 with (first | (go_at_call 6; refine (HY.out _).mono ?_; rintro e wq0 ⟨rfl, xq0⟩))
          have Fp : Hid (HV wq0 np [.int .i64 (z 0), .int .i64 (z 1), .int .i64 (z 2), .int .i64 (z 3), .int .i64 (z 4), .int .i64 (z 5), .int .i64 (z 6), .int .i64 (z 7)]) := Fp.out.ext xq0
          have Fw : Hid (HV wq0 nw [.int .i64 0, .int .i64 0, .int .i64 0, .int .i64 0]) := Fw.out.ext xq0
          have Fa : Hid (HV wq0 na [.int .i64 0, .int .i64 0, .int .i64 0]) := Fa.out.ext xq0
          have FX : Hid (Ext w wq0) := FX.out.trans xq0
          clear qp0 qp1 qp2 qp3 xq0 HY
          clear HV1
          have qp0 : wq0.cell? ⟨np, 0, none⟩ = some (.int .i64 (z 0)) := Fp.out.c 0 rfl
          have qp1 : wq0.cell? ⟨np, 1, none⟩ = some (.int .i64 (z 1)) := Fp.out.c 1 rfl
          have qp2 : wq0.cell? ⟨np, 2, none⟩ = some (.int .i64 (z 2)) := Fp.out.c 2 rfl
          have qp3 : wq0.cell? ⟨np, 3, none⟩ = some (.int .i64 (z 3)) := Fp.out.c 3 rfl
          have qp4 : wq0.cell? ⟨np, 4, none⟩ = some (.int .i64 (z 4)) := Fp.out.c 4 rfl
          have qp5 : wq0.cell? ⟨np, 5, none⟩ = some (.int .i64 (z 5)) := Fp.out.c 5 rfl
          have qp6 : wq0.cell? ⟨np, 6, none⟩ = some (.int .i64 (z 6)) := Fp.out.c 6 rfl
          have qp7 : wq0.cell? ⟨np, 7, none⟩ = some (.int .i64 (z 7)) := Fp.out.c 7 rfl
          go_upto_region 12 with (first | (go_at_call 9; refine (HT.out _).mono ?_; rintro e wq3 ⟨rfl, xq3⟩))
          have Fp : Hid (HV wq3 np [.int .i64 (z 0), .int .i64 (z 1), .int .i64 (z 2), .int .i64 (z 3), .int .i64 (z 4), .int .i64 (z 5), .int .i64 (z 6), .int .i64 (z 7)]) := Fp.out.ext xq3
          have Fw : Hid (HV wq3 nw [.int .i64 0, .int .i64 0, .int .i64 0, .int .i64 0]) := Fw.out.ext xq3
          have Fa : Hid (HV wq3 na [.int .i64 0, .int .i64 0, .int .i64 0]) := Fa.out.ext xq3
          have FX : Hid (Ext w wq3) := FX.out.trans xq3
          clear qp0 qp1 qp2 qp3 qp4 qp5 qp6 qp7 xq3 HT
          have ltpu : np < wq3.heap.size := Fp.out.1
          have ltwu : nw < wq3.heap.size := Fw.out.1
          have ltau : na < wq3.heap.size := Fa.out.1
          have Lu : Hid (w.heap.size ≤ wq3.heap.size) := FX.out.size
          have Lm : Hid (w.heap.size ≤ wq3.heap.size + 1) := Nat.le_trans FX.out.size (Nat.le_add_right _ _)
          have Fp : Hid (HV ((wq3.alloc (.cells #[.int .i64 0, .int .i64 0, .int .i64 0, .int .i64 0] 26)).alloc (.cells #[.int .i64 0, .int .i64 0, .int .i64 0] 24)) np [.int .i64 (z 0), .int .i64 (z 1), .int .i64 (z 2), .int .i64 (z 3), .int .i64 (z 4), .int .i64 (z 5), .int .i64 (z 6), .int .i64 (z 7)]) := ((Fp.out.alloc _).alloc _)
          have Fw : Hid (HV ((wq3.alloc (.cells #[.int .i64 0, .int .i64 0, .int .i64 0, .int .i64 0] 26)).alloc (.cells #[.int .i64 0, .int .i64 0, .int .i64 0] 24)) nw [.int .i64 0, .int .i64 0, .int .i64 0, .int .i64 0]) := ((Fw.out.alloc _).alloc _)
          have Fa : Hid (HV ((wq3.alloc (.cells #[.int .i64 0, .int .i64 0, .int .i64 0, .int .i64 0] 26)).alloc (.cells #[.int .i64 0, .int .i64 0, .int .i64 0] 24)) na [.int .i64 0, .int .i64 0, .int .i64 0]) := ((Fa.out.alloc _).alloc _)
          have Fu : Hid (HV ((wq3.alloc (.cells #[.int .i64 0, .int .i64 0, .int .i64 0, .int .i64 0] 26)).alloc (.cells #[.int .i64 0, .int .i64 0, .int .i64 0] 24)) wq3.heap.size [.int .i64 0, .int .i64 0, .int .i64 0, .int .i64 0]) := ((hv_at rfl).alloc _)
          have Fm : Hid (HV ((wq3.alloc (.cells #[.int .i64 0, .int .i64 0, .int .i64 0, .int .i64 0] 26)).alloc (.cells #[.int .i64 0, .int .i64 0, .int .i64 0] 24)) (wq3.heap.size + 1) [.int .i64 0, .int .i64 0, .int .i64 0]) := (hv_at (by simp))
          have FX : Hid (Ext w ((wq3.alloc (.cells #[.int .i64 0, .int .i64 0, .int .i64 0, .int .i64 0] 26)).alloc (.cells #[.int .i64 0, .int .i64 0, .int .i64 0] 24))) := ((FX.out.alloc _).alloc _)
          generalize ((wq3.alloc (.cells #[.int .i64 0, .int .i64 0, .int .i64 0, .int .i64 0] 26)).alloc (.cells #[.int .i64 0, .int .i64 0, .int .i64 0] 24)) = wx4 at *
          generalize wq3.heap.size = nu at *
          have ltum : nu < nu + 1 := by omega
          generalize nu + 1 = nm at *
          have qu0 : wx4.cell? ⟨nu, 0, none⟩ = some (.int .i64 0) := Fu.out.c 0 rfl
          have qu1 : wx4.cell? ⟨nu, 1, none⟩ = some (.int .i64 0) := Fu.out.c 1 rfl
          have qu2 : wx4.cell? ⟨nu, 2, none⟩ = some (.int .i64 0) := Fu.out.c 2 rfl
          have qu3 : wx4.cell? ⟨nu, 3, none⟩ = some (.int .i64 0) := Fu.out.c 3 rfl
          have qw0 : wx4.cell? ⟨nw, 0, none⟩ = some (.int .i64 0) := Fw.out.c 0 rfl
          have qw1 : wx4.cell? ⟨nw, 1, none⟩ = some (.int .i64 0) := Fw.out.c 1 rfl
          have qw2 : wx4.cell? ⟨nw, 2, none⟩ = some (.int .i64 0) := Fw.out.c 2 rfl
          have qw3 : wx4.cell? ⟨nw, 3, none⟩ = some (.int .i64 0) := Fw.out.c 3 rfl
          have qm0 : wx4.cell? ⟨nm, 0, none⟩ = some (.int .i64 0) := Fm.out.c 0 rfl
          have qm1 : wx4.cell? ⟨nm, 1, none⟩ = some (.int .i64 0) := Fm.out.c 1 rfl
          have qm2 : wx4.cell? ⟨nm, 2, none⟩ = some (.int .i64 0) := Fm.out.c 2 rfl
          have qa0 : wx4.cell? ⟨na, 0, none⟩ = some (.int .i64 0) := Fa.out.c 0 rfl
          have qa1 : wx4.cell? ⟨na, 1, none⟩ = some (.int .i64 0) := Fa.out.c 1 rfl
          have qa2 : wx4.cell? ⟨na, 2, none⟩ = some (.int .i64 0) := Fa.out.c 2 rfl
          go_wp2_with (go_at_call 10; refine (num14_any _ _).mono ?_; rintro e wx ⟨rfl, hwx⟩; have hwy := hwx.symm; clear hwx; subst hwy)
          go_roundw
          case rel => exact ⟨k + 1, by omega, by go_num, FX⟩
          case measure => simp [intOf]; omega
        · cases h2 : ok3 (z 5) (z 6) (z 7)
          · have et : takeT (z 0) (z 1) (z 2) (z 3) (z 4) (z 5) (z 6) (z 7) = .tuple #[.agg #[.int .i64 0, .int .i64 0, .int .i64 0, .int .i64 0], .agg #[.int .i64 0, .int .i64 0, .int .i64 0], .bool false, .int .i64 1] := by unfold takeT; rw [h1, h2]; cases okK (z 4) <;> rfl
            rw [et] at HT
            rw [h1] at HY
            rw [h2] at HV1
            clear et h1 h2
            have qp0 : wx3.cell? ⟨np, 0, none⟩ = some (.int .i64 (z 0)) := Fp.out.c 0 rfl
            have qp1 : wx3.cell? ⟨np, 1, none⟩ = some (.int .i64 (z 1)) := Fp.out.c 1 rfl
            have qp2 : wx3.cell? ⟨np, 2, none⟩ = some (.int .i64 (z 2)) := Fp.out.c 2 rfl
            have qp3 : wx3.cell? ⟨np, 3, none⟩ = some (.int .i64 (z 3)) := Fp.out.c 3 rfl
            go_wp2_with fail
            refine (HY.out _).mono ?_
            rintro e wq0 ⟨rfl, xq0⟩
            have Fp : Hid (HV wq0 np [.int .i64 (z 0), .int .i64 (z 1), .int .i64 (z 2), .int .i64 (z 3), .int .i64 (z 4), .int .i64 (z 5), .int .i64 (z 6), .int .i64 (z 7)]) := Fp.out.ext xq0
            have Fw : Hid (HV wq0 nw [.int .i64 0, .int .i64 0, .int .i64 0, .int .i64 0]) := Fw.out.ext xq0
            have Fa : Hid (HV wq0 na [.int .i64 0, .int .i64 0, .int .i64 0]) := Fa.out.ext xq0
            have FX : Hid (Ext w wq0) := FX.out.trans xq0
            clear qp0 qp1 qp2 qp3 xq0 HY
            have qp5 : wq0.cell? ⟨np, 5, none⟩ = some (.int .i64 (z 5)) := Fp.out.c 5 rfl
            have qp6 : wq0.cell? ⟨np, 6, none⟩ = some (.int .i64 (z 6)) := Fp.out.c 6 rfl
            have qp7 : wq0.cell? ⟨np, 7, none⟩ = some (.int .i64 (z 7)) := Fp.out.c 7 rfl
            go_upto_region 11 with (first | (go_at_call 7; refine (HV1.out _).mono ?_; rintro e wq1 ⟨rfl, xq1⟩))
            have Fp : Hid (HV wq1 np [.int .i64 (z 0), .int .i64 (z 1), .int .i64 (z 2), .int .i64 (z 3), .int .i64 (z 4), .int .i64 (z 5), .int .i64 (z 6), .int .i64 (z 7)]) := Fp.out.ext xq1
            have Fw : Hid (HV wq1 nw [.int .i64 0, .int .i64 0, .int .i64 0, .int .i64 0]) := Fw.out.ext xq1
            have Fa : Hid (HV wq1 na [.int .i64 0, .int .i64 0, .int .i64 0]) := Fa.out.ext xq1
            have FX : Hid (Ext w wq1) := FX.out.trans xq1
            clear qp5 qp6 qp7 xq1 HV1
            have qp0 : wq1.cell? ⟨np, 0, none⟩ = some (.int .i64 (z 0)) := Fp.out.c 0 rfl
            have qp1 : wq1.cell? ⟨np, 1, none⟩ = some (.int .i64 (z 1)) := Fp.out.c 1 rfl
            have qp2 : wq1.cell? ⟨np, 2, none⟩ = some (.int .i64 (z 2)) := Fp.out.c 2 rfl
            have qp3 : wq1.cell? ⟨np, 3, none⟩ = some (.int .i64 (z 3)) := Fp.out.c 3 rfl
            have qp4 : wq1.cell? ⟨np, 4, none⟩ = some (.int .i64 (z 4)) := Fp.out.c 4 rfl
            have qp5 : wq1.cell? ⟨np, 5, none⟩ = some (.int .i64 (z 5)) := Fp.out.c 5 rfl
            have qp6 : wq1.cell? ⟨np, 6, none⟩ = some (.int .i64 (z 6)) := Fp.out.c 6 rfl
            have qp7 : wq1.cell? ⟨np, 7, none⟩ = some (.int .i64 (z 7)) := Fp.out.c 7 rfl
            go_upto_region 12 with (first | (go_at_call 9; refine (HT.out _).mono ?_; rintro e wq3 ⟨rfl, xq3⟩))
            have Fp : Hid (HV wq3 np [.int .i64 (z 0), .int .i64 (z 1), .int .i64 (z 2), .int .i64 (z 3), .int .i64 (z 4), .int .i64 (z 5), .int .i64 (z 6), .int .i64 (z 7)]) := Fp.out.ext xq3
            have Fw : Hid (HV wq3 nw [.int .i64 0, .int .i64 0, .int .i64 0, .int .i64 0]) := Fw.out.ext xq3
            have Fa : Hid (HV wq3 na [.int .i64 0, .int .i64 0, .int .i64 0]) := Fa.out.ext xq3
            have FX : Hid (Ext w wq3) := FX.out.trans xq3
            clear qp0 qp1 qp2 qp3 qp4 qp5 qp6 qp7 xq3 HT
            have ltpu : np < wq3.heap.size := Fp.out.1
            have ltwu : nw < wq3.heap.size := Fw.out.1
            have ltau : na < wq3.heap.size := Fa.out.1
            have Lu : Hid (w.heap.size ≤ wq3.heap.size) := FX.out.size
            have Lm : Hid (w.heap.size ≤ wq3.heap.size + 1) := Nat.le_trans FX.out.size (Nat.le_add_right _ _)
            have Fp : Hid (HV ((wq3.alloc (.cells #[.int .i64 0, .int .i64 0, .int .i64 0, .int .i64 0] 26)).alloc (.cells #[.int .i64 0, .int .i64 0, .int .i64 0] 24)) np [.int .i64 (z 0), .int .i64 (z 1), .int .i64 (z 2), .int .i64 (z 3), .int .i64 (z 4), .int .i64 (z 5), .int .i64 (z 6), .int .i64 (z 7)]) := ((Fp.out.alloc _).alloc _)
            have Fw : Hid (HV ((wq3.alloc (.cells #[.int .i64 0, .int .i64 0, .int .i64 0, .int .i64 0] 26)).alloc (.cells #[.int .i64 0, .int .i64 0, .int .i64 0] 24)) nw [.int .i64 0, .int .i64 0, .int .i64 0, .int .i64 0]) := ((Fw.out.alloc _).alloc _)
            have Fa : Hid (HV ((wq3.alloc (.cells #[.int .i64 0, .int .i64 0, .int .i64 0, .int .i64 0] 26)).alloc (.cells #[.int .i64 0, .int .i64 0, .int .i64 0] 24)) na [.int .i64 0, .int .i64 0, .int .i64 0]) := ((Fa.out.alloc _).alloc _)
            have Fu : Hid (HV ((wq3.alloc (.cells #[.int .i64 0, .int .i64 0, .int .i64 0, .int .i64 0] 26)).alloc (.cells #[.int .i64 0, .int .i64 0, .int .i64 0] 24)) wq3.heap.size [.int .i64 0, .int .i64 0, .int .i64 0, .int .i64 0]) := ((hv_at rfl).alloc _)
            have Fm : Hid (HV ((wq3.alloc (.cells #[.int .i64 0, .int .i64 0, .int .i64 0, .int .i64 0] 26)).alloc (.cells #[.int .i64 0, .int .i64 0, .int .i64 0] 24)) (wq3.heap.size + 1) [.int .i64 0, .int .i64 0, .int .i64 0]) := (hv_at (by simp))
            have FX : Hid (Ext w ((wq3.alloc (.cells #[.int .i64 0, .int .i64 0, .int .i64 0, .int .i64 0] 26)).alloc (.cells #[.int .i64 0, .int .i64 0, .int .i64 0] 24))) := ((FX.out.alloc _).alloc _)
            generalize ((wq3.alloc (.cells #[.int .i64 0, .int .i64 0, .int .i64 0, .int .i64 0] 26)).alloc (.cells #[.int .i64 0, .int .i64 0, .int .i64 0] 24)) = wx4 at *
            generalize wq3.heap.size = nu at *
            have ltum : nu < nu + 1 := by omega
            generalize nu + 1 = nm at *
            have qu0 : wx4.cell? ⟨nu, 0, none⟩ = some (.int .i64 0) := Fu.out.c 0 rfl
            have qu1 : wx4.cell? ⟨nu, 1, none⟩ = some (.int .i64 0) := Fu.out.c 1 rfl
            have qu2 : wx4.cell? ⟨nu, 2, none⟩ = some (.int .i64 0) := Fu.out.c 2 rfl
            have qu3 : wx4.cell? ⟨nu, 3, none⟩ = some (.int .i64 0) := Fu.out.c 3 rfl
            have qw0 : wx4.cell? ⟨nw, 0, none⟩ = some (.int .i64 0) := Fw.out.c 0 rfl
            have qw1 : wx4.cell? ⟨nw, 1, none⟩ = some (.int .i64 0) := Fw.out.c 1 rfl
            have qw2 : wx4.cell? ⟨nw, 2, none⟩ = some (.int .i64 0) := Fw.out.c 2 rfl
            have qw3 : wx4.cell? ⟨nw, 3, none⟩ = some (.int .i64 0) := Fw.out.c 3 rfl
            have qm0 : wx4.cell? ⟨nm, 0, none⟩ = some (.int .i64 0) := Fm.out.c 0 rfl
            have qm1 : wx4.cell? ⟨nm, 1, none⟩ = some (.int .i64 0) := Fm.out.c 1 rfl
            have qm2 : wx4.cell? ⟨nm, 2, none⟩ = some (.int .i64 0) := Fm.out.c 2 rfl
            have qa0 : wx4.cell? ⟨na, 0, none⟩ = some (.int .i64 0) := Fa.out.c 0 rfl
            have qa1 : wx4.cell? ⟨na, 1, none⟩ = some (.int .i64 0) := Fa.out.c 1 rfl
            have qa2 : wx4.cell? ⟨na, 2, none⟩ = some (.int .i64 0) := Fa.out.c 2 rfl
            go_wp2_with (go_at_call 10; refine (num14_any _ _).mono ?_; rintro e wx ⟨rfl, hwx⟩; have hwy := hwx.symm; clear hwx; subst hwy)
            go_roundw
            case rel => exact ⟨k + 1, by omega, by go_num, FX⟩
            case measure => simp [intOf]; omega
          · by_cases hk1 : 1 ≤ z 4
            · by_cases hk2 : z 4 ≤ 256
              · have h3 : okK (z 4) = true := okK_iff.2 ⟨hk1, hk2⟩
                have HG : Hid (∀ w, Calls Try.prog 8 #[.agg #[.int .i64 (z 0), .int .i64 (z 1), .int .i64 (z 2), .int .i64 (z 3)], .int .i64 (z 4), .agg #[.int .i64 (z 5), .int .i64 (z 6), .int .i64 (z 7)]] w fun e w' => e = .returned (takeT (z 0) (z 1) (z 2) (z 3) (z 4) (z 5) (z 6) (z 7)) ∧ Ext w w') := fun w => rthin_any _ _ _ _ _ _ _ _ w h1 h3 h2
                obtain ⟨u0, u1, u2, u3, m0, m1, m2, told, er, et⟩ := takeT_form (z 0) (z 1) (z 2) (z 3) (z 4) (z 5) (z 6) (z 7)
                rw [et] at HG
                clear h3
                rw [et] at HT
                rw [h1] at HY
                rw [h2] at HV1
                clear et h1 h2
                have qp0 : wx3.cell? ⟨np, 0, none⟩ = some (.int .i64 (z 0)) := Fp.out.c 0 rfl
                have qp1 : wx3.cell? ⟨np, 1, none⟩ = some (.int .i64 (z 1)) := Fp.out.c 1 rfl
                have qp2 : wx3.cell? ⟨np, 2, none⟩ = some (.int .i64 (z 2)) := Fp.out.c 2 rfl
                have qp3 : wx3.cell? ⟨np, 3, none⟩ = some (.int .i64 (z 3)) := Fp.out.c 3 rfl
                go_wp2_with fail
                refine (HY.out _).mono ?_
                rintro e wq0 ⟨rfl, xq0⟩
                have Fp : Hid (HV wq0 np [.int .i64 (z 0), .int .i64 (z 1), .int .i64 (z 2), .int .i64 (z 3), .int .i64 (z 4), .int .i64 (z 5), .int .i64 (z 6), .int .i64 (z 7)]) := Fp.out.ext xq0
                have Fw : Hid (HV wq0 nw [.int .i64 0, .int .i64 0, .int .i64 0, .int .i64 0]) := Fw.out.ext xq0
                have Fa : Hid (HV wq0 na [.int .i64 0, .int .i64 0, .int .i64 0]) := Fa.out.ext xq0
                have FX : Hid (Ext w wq0) := FX.out.trans xq0
                clear qp0 qp1 qp2 qp3 xq0 HY
                have qp5 : wq0.cell? ⟨np, 5, none⟩ = some (.int .i64 (z 5)) := Fp.out.c 5 rfl
                have qp6 : wq0.cell? ⟨np, 6, none⟩ = some (.int .i64 (z 6)) := Fp.out.c 6 rfl
                have qp7 : wq0.cell? ⟨np, 7, none⟩ = some (.int .i64 (z 7)) := Fp.out.c 7 rfl
                go_wp2_with fail
                refine (HV1.out _).mono ?_
                rintro e wq1 ⟨rfl, xq1⟩
                have Fp : Hid (HV wq1 np [.int .i64 (z 0), .int .i64 (z 1), .int .i64 (z 2), .int .i64 (z 3), .int .i64 (z 4), .int .i64 (z 5), .int .i64 (z 6), .int .i64 (z 7)]) := Fp.out.ext xq1
                have Fw : Hid (HV wq1 nw [.int .i64 0, .int .i64 0, .int .i64 0, .int .i64 0]) := Fw.out.ext xq1
                have Fa : Hid (HV wq1 na [.int .i64 0, .int .i64 0, .int .i64 0]) := Fa.out.ext xq1
                have FX : Hid (Ext w wq1) := FX.out.trans xq1
                clear qp5 qp6 qp7 xq1 HV1
                have qp4 : wq1.cell? ⟨np, 4, none⟩ = some (.int .i64 (z 4)) := Fp.out.c 4 rfl
                go_upto_region 10 with fail
                clear qp4
                have qp0 : wq1.cell? ⟨np, 0, none⟩ = some (.int .i64 (z 0)) := Fp.out.c 0 rfl
                have qp1 : wq1.cell? ⟨np, 1, none⟩ = some (.int .i64 (z 1)) := Fp.out.c 1 rfl
                have qp2 : wq1.cell? ⟨np, 2, none⟩ = some (.int .i64 (z 2)) := Fp.out.c 2 rfl
                have qp3 : wq1.cell? ⟨np, 3, none⟩ = some (.int .i64 (z 3)) := Fp.out.c 3 rfl
                have qp4 : wq1.cell? ⟨np, 4, none⟩ = some (.int .i64 (z 4)) := Fp.out.c 4 rfl
                have qp5 : wq1.cell? ⟨np, 5, none⟩ = some (.int .i64 (z 5)) := Fp.out.c 5 rfl
                have qp6 : wq1.cell? ⟨np, 6, none⟩ = some (.int .i64 (z 6)) := Fp.out.c 6 rfl
                have qp7 : wq1.cell? ⟨np, 7, none⟩ = some (.int .i64 (z 7)) := Fp.out.c 7 rfl
                go_upto_region 11 with (first | (go_at_call 8; refine (HG.out _).mono ?_; rintro e wq2 ⟨rfl, xq2⟩; have kw0 : wq2.cell? ⟨nw, 0, none⟩ = some (.int .i64 0) := (Fw.out.ext xq2).c 0 rfl; have zw0 : wq2.frozen? ⟨nw, 0, none⟩ = false := (Fw.out.ext xq2).f 0 rfl; have kw1 : wq2.cell? ⟨nw, 1, none⟩ = some (.int .i64 0) := (Fw.out.ext xq2).c 1 rfl; have zw1 : wq2.frozen? ⟨nw, 1, none⟩ = false := (Fw.out.ext xq2).f 1 rfl; have kw2 : wq2.cell? ⟨nw, 2, none⟩ = some (.int .i64 0) := (Fw.out.ext xq2).c 2 rfl; have zw2 : wq2.frozen? ⟨nw, 2, none⟩ = false := (Fw.out.ext xq2).f 2 rfl; have kw3 : wq2.cell? ⟨nw, 3, none⟩ = some (.int .i64 0) := (Fw.out.ext xq2).c 3 rfl; have zw3 : wq2.frozen? ⟨nw, 3, none⟩ = false := (Fw.out.ext xq2).f 3 rfl; have ka0 : wq2.cell? ⟨na, 0, none⟩ = some (.int .i64 0) := (Fa.out.ext xq2).c 0 rfl; have za0 : wq2.frozen? ⟨na, 0, none⟩ = false := (Fa.out.ext xq2).f 0 rfl; have ka1 : wq2.cell? ⟨na, 1, none⟩ = some (.int .i64 0) := (Fa.out.ext xq2).c 1 rfl; have za1 : wq2.frozen? ⟨na, 1, none⟩ = false := (Fa.out.ext xq2).f 1 rfl; have ka2 : wq2.cell? ⟨na, 2, none⟩ = some (.int .i64 0) := (Fa.out.ext xq2).c 2 rfl; have za2 : wq2.frozen? ⟨na, 2, none⟩ = false := (Fa.out.ext xq2).f 2 rfl))
                have Fp : Hid (HV wq2 np [.int .i64 (z 0), .int .i64 (z 1), .int .i64 (z 2), .int .i64 (z 3), .int .i64 (z 4), .int .i64 (z 5), .int .i64 (z 6), .int .i64 (z 7)]) := Fp.out.ext xq2
                have Fw : Hid (HV wq2 nw [.int .i64 0, .int .i64 0, .int .i64 0, .int .i64 0]) := Fw.out.ext xq2
                have Fa : Hid (HV wq2 na [.int .i64 0, .int .i64 0, .int .i64 0]) := Fa.out.ext xq2
                have FX : Hid (Ext w wq2) := FX.out.trans xq2
                clear qp0 qp1 qp2 qp3 qp4 qp5 qp6 qp7 xq2 HG kw0 kw1 kw2 kw3 ka0 ka1 ka2 zw0 zw1 zw2 zw3 za0 za1 za2
                have Fp : Hid (HV (((((((wq2.setCell ⟨nw, 0, none⟩ (.int .i64 u0)).setCell ⟨nw, 1, none⟩ (.int .i64 u1)).setCell ⟨nw, 2, none⟩ (.int .i64 u2)).setCell ⟨nw, 3, none⟩ (.int .i64 u3)).setCell ⟨na, 0, none⟩ (.int .i64 m0)).setCell ⟨na, 1, none⟩ (.int .i64 m1)).setCell ⟨na, 2, none⟩ (.int .i64 m2)) np [.int .i64 (z 0), .int .i64 (z 1), .int .i64 (z 2), .int .i64 (z 3), .int .i64 (z 4), .int .i64 (z 5), .int .i64 (z 6), .int .i64 (z 7)]) := (((((((Fp.out.far (by omega)).far (by omega)).far (by omega)).far (by omega)).far (by omega)).far (by omega)).far (by omega))
                have Fw : Hid (HV (((((((wq2.setCell ⟨nw, 0, none⟩ (.int .i64 u0)).setCell ⟨nw, 1, none⟩ (.int .i64 u1)).setCell ⟨nw, 2, none⟩ (.int .i64 u2)).setCell ⟨nw, 3, none⟩ (.int .i64 u3)).setCell ⟨na, 0, none⟩ (.int .i64 m0)).setCell ⟨na, 1, none⟩ (.int .i64 m1)).setCell ⟨na, 2, none⟩ (.int .i64 m2)) nw [.int .i64 u0, .int .i64 u1, .int .i64 u2, .int .i64 u3]) := (((((((Fw.out.set 0 (.int .i64 u0)).set 1 (.int .i64 u1)).set 2 (.int .i64 u2)).set 3 (.int .i64 u3)).far (by omega)).far (by omega)).far (by omega))
                have Fa : Hid (HV (((((((wq2.setCell ⟨nw, 0, none⟩ (.int .i64 u0)).setCell ⟨nw, 1, none⟩ (.int .i64 u1)).setCell ⟨nw, 2, none⟩ (.int .i64 u2)).setCell ⟨nw, 3, none⟩ (.int .i64 u3)).setCell ⟨na, 0, none⟩ (.int .i64 m0)).setCell ⟨na, 1, none⟩ (.int .i64 m1)).setCell ⟨na, 2, none⟩ (.int .i64 m2)) na [.int .i64 m0, .int .i64 m1, .int .i64 m2]) := (((((((Fa.out.far (by omega)).far (by omega)).far (by omega)).far (by omega)).set 0 (.int .i64 m0)).set 1 (.int .i64 m1)).set 2 (.int .i64 m2))
                have FX : Hid (Ext w (((((((wq2.setCell ⟨nw, 0, none⟩ (.int .i64 u0)).setCell ⟨nw, 1, none⟩ (.int .i64 u1)).setCell ⟨nw, 2, none⟩ (.int .i64 u2)).setCell ⟨nw, 3, none⟩ (.int .i64 u3)).setCell ⟨na, 0, none⟩ (.int .i64 m0)).setCell ⟨na, 1, none⟩ (.int .i64 m1)).setCell ⟨na, 2, none⟩ (.int .i64 m2))) := (((((((FX.out.set (p := ⟨nw, 0, none⟩) Lw.out (.int .i64 u0)).set (p := ⟨nw, 1, none⟩) Lw.out (.int .i64 u1)).set (p := ⟨nw, 2, none⟩) Lw.out (.int .i64 u2)).set (p := ⟨nw, 3, none⟩) Lw.out (.int .i64 u3)).set (p := ⟨na, 0, none⟩) La.out (.int .i64 m0)).set (p := ⟨na, 1, none⟩) La.out (.int .i64 m1)).set (p := ⟨na, 2, none⟩) La.out (.int .i64 m2))
                generalize (((((((wq2.setCell ⟨nw, 0, none⟩ (.int .i64 u0)).setCell ⟨nw, 1, none⟩ (.int .i64 u1)).setCell ⟨nw, 2, none⟩ (.int .i64 u2)).setCell ⟨nw, 3, none⟩ (.int .i64 u3)).setCell ⟨na, 0, none⟩ (.int .i64 m0)).setCell ⟨na, 1, none⟩ (.int .i64 m1)).setCell ⟨na, 2, none⟩ (.int .i64 m2)) = wx4 at *
                have qp0 : wx4.cell? ⟨np, 0, none⟩ = some (.int .i64 (z 0)) := Fp.out.c 0 rfl
                have qp1 : wx4.cell? ⟨np, 1, none⟩ = some (.int .i64 (z 1)) := Fp.out.c 1 rfl
                have qp2 : wx4.cell? ⟨np, 2, none⟩ = some (.int .i64 (z 2)) := Fp.out.c 2 rfl
                have qp3 : wx4.cell? ⟨np, 3, none⟩ = some (.int .i64 (z 3)) := Fp.out.c 3 rfl
                have qp4 : wx4.cell? ⟨np, 4, none⟩ = some (.int .i64 (z 4)) := Fp.out.c 4 rfl
                have qp5 : wx4.cell? ⟨np, 5, none⟩ = some (.int .i64 (z 5)) := Fp.out.c 5 rfl
                have qp6 : wx4.cell? ⟨np, 6, none⟩ = some (.int .i64 (z 6)) := Fp.out.c 6 rfl
                have qp7 : wx4.cell? ⟨np, 7, none⟩ = some (.int .i64 (z 7)) := Fp.out.c 7 rfl
                go_upto_region 12 with (first | (go_at_call 9; refine (HT.out _).mono ?_; rintro e wq3 ⟨rfl, xq3⟩))
                have Fp : Hid (HV wq3 np [.int .i64 (z 0), .int .i64 (z 1), .int .i64 (z 2), .int .i64 (z 3), .int .i64 (z 4), .int .i64 (z 5), .int .i64 (z 6), .int .i64 (z 7)]) := Fp.out.ext xq3
                have Fw : Hid (HV wq3 nw [.int .i64 u0, .int .i64 u1, .int .i64 u2, .int .i64 u3]) := Fw.out.ext xq3
                have Fa : Hid (HV wq3 na [.int .i64 m0, .int .i64 m1, .int .i64 m2]) := Fa.out.ext xq3
                have FX : Hid (Ext w wq3) := FX.out.trans xq3
                clear qp0 qp1 qp2 qp3 qp4 qp5 qp6 qp7 xq3 HT
                have ltpu : np < wq3.heap.size := Fp.out.1
                have ltwu : nw < wq3.heap.size := Fw.out.1
                have ltau : na < wq3.heap.size := Fa.out.1
                have Lu : Hid (w.heap.size ≤ wq3.heap.size) := FX.out.size
                have Lm : Hid (w.heap.size ≤ wq3.heap.size + 1) := Nat.le_trans FX.out.size (Nat.le_add_right _ _)
                have Fp : Hid (HV ((wq3.alloc (.cells #[.int .i64 u0, .int .i64 u1, .int .i64 u2, .int .i64 u3] 26)).alloc (.cells #[.int .i64 m0, .int .i64 m1, .int .i64 m2] 24)) np [.int .i64 (z 0), .int .i64 (z 1), .int .i64 (z 2), .int .i64 (z 3), .int .i64 (z 4), .int .i64 (z 5), .int .i64 (z 6), .int .i64 (z 7)]) := ((Fp.out.alloc _).alloc _)
                have Fw : Hid (HV ((wq3.alloc (.cells #[.int .i64 u0, .int .i64 u1, .int .i64 u2, .int .i64 u3] 26)).alloc (.cells #[.int .i64 m0, .int .i64 m1, .int .i64 m2] 24)) nw [.int .i64 u0, .int .i64 u1, .int .i64 u2, .int .i64 u3]) := ((Fw.out.alloc _).alloc _)
                have Fa : Hid (HV ((wq3.alloc (.cells #[.int .i64 u0, .int .i64 u1, .int .i64 u2, .int .i64 u3] 26)).alloc (.cells #[.int .i64 m0, .int .i64 m1, .int .i64 m2] 24)) na [.int .i64 m0, .int .i64 m1, .int .i64 m2]) := ((Fa.out.alloc _).alloc _)
                have Fu : Hid (HV ((wq3.alloc (.cells #[.int .i64 u0, .int .i64 u1, .int .i64 u2, .int .i64 u3] 26)).alloc (.cells #[.int .i64 m0, .int .i64 m1, .int .i64 m2] 24)) wq3.heap.size [.int .i64 u0, .int .i64 u1, .int .i64 u2, .int .i64 u3]) := ((hv_at rfl).alloc _)
                have Fm : Hid (HV ((wq3.alloc (.cells #[.int .i64 u0, .int .i64 u1, .int .i64 u2, .int .i64 u3] 26)).alloc (.cells #[.int .i64 m0, .int .i64 m1, .int .i64 m2] 24)) (wq3.heap.size + 1) [.int .i64 m0, .int .i64 m1, .int .i64 m2]) := (hv_at (by simp))
                have FX : Hid (Ext w ((wq3.alloc (.cells #[.int .i64 u0, .int .i64 u1, .int .i64 u2, .int .i64 u3] 26)).alloc (.cells #[.int .i64 m0, .int .i64 m1, .int .i64 m2] 24))) := ((FX.out.alloc _).alloc _)
                generalize ((wq3.alloc (.cells #[.int .i64 u0, .int .i64 u1, .int .i64 u2, .int .i64 u3] 26)).alloc (.cells #[.int .i64 m0, .int .i64 m1, .int .i64 m2] 24)) = wx5 at *
                generalize wq3.heap.size = nu at *
                have ltum : nu < nu + 1 := by omega
                generalize nu + 1 = nm at *
                have qu0 : wx5.cell? ⟨nu, 0, none⟩ = some (.int .i64 u0) := Fu.out.c 0 rfl
                have qu1 : wx5.cell? ⟨nu, 1, none⟩ = some (.int .i64 u1) := Fu.out.c 1 rfl
                have qu2 : wx5.cell? ⟨nu, 2, none⟩ = some (.int .i64 u2) := Fu.out.c 2 rfl
                have qu3 : wx5.cell? ⟨nu, 3, none⟩ = some (.int .i64 u3) := Fu.out.c 3 rfl
                have qw0 : wx5.cell? ⟨nw, 0, none⟩ = some (.int .i64 u0) := Fw.out.c 0 rfl
                have qw1 : wx5.cell? ⟨nw, 1, none⟩ = some (.int .i64 u1) := Fw.out.c 1 rfl
                have qw2 : wx5.cell? ⟨nw, 2, none⟩ = some (.int .i64 u2) := Fw.out.c 2 rfl
                have qw3 : wx5.cell? ⟨nw, 3, none⟩ = some (.int .i64 u3) := Fw.out.c 3 rfl
                have qm0 : wx5.cell? ⟨nm, 0, none⟩ = some (.int .i64 m0) := Fm.out.c 0 rfl
                have qm1 : wx5.cell? ⟨nm, 1, none⟩ = some (.int .i64 m1) := Fm.out.c 1 rfl
                have qm2 : wx5.cell? ⟨nm, 2, none⟩ = some (.int .i64 m2) := Fm.out.c 2 rfl
                have qa0 : wx5.cell? ⟨na, 0, none⟩ = some (.int .i64 m0) := Fa.out.c 0 rfl
                have qa1 : wx5.cell? ⟨na, 1, none⟩ = some (.int .i64 m1) := Fa.out.c 1 rfl
                have qa2 : wx5.cell? ⟨na, 2, none⟩ = some (.int .i64 m2) := Fa.out.c 2 rfl
                go_wp2_with (go_at_call 10; refine (num14_any _ _).mono ?_; rintro e wx ⟨rfl, hwx⟩; have hwy := hwx.symm; clear hwx; subst hwy)
                go_roundw
                case rel => exact ⟨k + 1, by omega, by go_num, FX⟩
                case measure => simp [intOf]; omega
              · have h3 : okK (z 4) = false := Bool.eq_false_iff.2 (fun h => by have := okK_iff.1 h; omega)
                have et : takeT (z 0) (z 1) (z 2) (z 3) (z 4) (z 5) (z 6) (z 7) = .tuple #[.agg #[.int .i64 0, .int .i64 0, .int .i64 0, .int .i64 0], .agg #[.int .i64 0, .int .i64 0, .int .i64 0], .bool false, .int .i64 1] := by unfold takeT; rw [h1, h3]; rfl
                clear h3
                rw [et] at HT
                rw [h1] at HY
                rw [h2] at HV1
                clear et h1 h2
                have qp0 : wx3.cell? ⟨np, 0, none⟩ = some (.int .i64 (z 0)) := Fp.out.c 0 rfl
                have qp1 : wx3.cell? ⟨np, 1, none⟩ = some (.int .i64 (z 1)) := Fp.out.c 1 rfl
                have qp2 : wx3.cell? ⟨np, 2, none⟩ = some (.int .i64 (z 2)) := Fp.out.c 2 rfl
                have qp3 : wx3.cell? ⟨np, 3, none⟩ = some (.int .i64 (z 3)) := Fp.out.c 3 rfl
                go_wp2_with fail
                refine (HY.out _).mono ?_
                rintro e wq0 ⟨rfl, xq0⟩
                have Fp : Hid (HV wq0 np [.int .i64 (z 0), .int .i64 (z 1), .int .i64 (z 2), .int .i64 (z 3), .int .i64 (z 4), .int .i64 (z 5), .int .i64 (z 6), .int .i64 (z 7)]) := Fp.out.ext xq0
                have Fw : Hid (HV wq0 nw [.int .i64 0, .int .i64 0, .int .i64 0, .int .i64 0]) := Fw.out.ext xq0
                have Fa : Hid (HV wq0 na [.int .i64 0, .int .i64 0, .int .i64 0]) := Fa.out.ext xq0
                have FX : Hid (Ext w wq0) := FX.out.trans xq0
                clear qp0 qp1 qp2 qp3 xq0 HY
                have qp5 : wq0.cell? ⟨np, 5, none⟩ = some (.int .i64 (z 5)) := Fp.out.c 5 rfl
                have qp6 : wq0.cell? ⟨np, 6, none⟩ = some (.int .i64 (z 6)) := Fp.out.c 6 rfl
                have qp7 : wq0.cell? ⟨np, 7, none⟩ = some (.int .i64 (z 7)) := Fp.out.c 7 rfl
                go_wp2_with fail
                refine (HV1.out _).mono ?_
                rintro e wq1 ⟨rfl, xq1⟩
                have Fp : Hid (HV wq1 np [.int .i64 (z 0), .int .i64 (z 1), .int .i64 (z 2), .int .i64 (z 3), .int .i64 (z 4), .int .i64 (z 5), .int .i64 (z 6), .int .i64 (z 7)]) := Fp.out.ext xq1
                have Fw : Hid (HV wq1 nw [.int .i64 0, .int .i64 0, .int .i64 0, .int .i64 0]) := Fw.out.ext xq1
                have Fa : Hid (HV wq1 na [.int .i64 0, .int .i64 0, .int .i64 0]) := Fa.out.ext xq1
                have FX : Hid (Ext w wq1) := FX.out.trans xq1
                clear qp5 qp6 qp7 xq1 HV1
                have qp4 : wq1.cell? ⟨np, 4, none⟩ = some (.int .i64 (z 4)) := Fp.out.c 4 rfl
                go_upto_region 11 with fail
                clear qp4
                have qp0 : wq1.cell? ⟨np, 0, none⟩ = some (.int .i64 (z 0)) := Fp.out.c 0 rfl
                have qp1 : wq1.cell? ⟨np, 1, none⟩ = some (.int .i64 (z 1)) := Fp.out.c 1 rfl
                have qp2 : wq1.cell? ⟨np, 2, none⟩ = some (.int .i64 (z 2)) := Fp.out.c 2 rfl
                have qp3 : wq1.cell? ⟨np, 3, none⟩ = some (.int .i64 (z 3)) := Fp.out.c 3 rfl
                have qp4 : wq1.cell? ⟨np, 4, none⟩ = some (.int .i64 (z 4)) := Fp.out.c 4 rfl
                have qp5 : wq1.cell? ⟨np, 5, none⟩ = some (.int .i64 (z 5)) := Fp.out.c 5 rfl
                have qp6 : wq1.cell? ⟨np, 6, none⟩ = some (.int .i64 (z 6)) := Fp.out.c 6 rfl
                have qp7 : wq1.cell? ⟨np, 7, none⟩ = some (.int .i64 (z 7)) := Fp.out.c 7 rfl
                go_upto_region 12 with (first | (go_at_call 9; refine (HT.out _).mono ?_; rintro e wq3 ⟨rfl, xq3⟩))
                have Fp : Hid (HV wq3 np [.int .i64 (z 0), .int .i64 (z 1), .int .i64 (z 2), .int .i64 (z 3), .int .i64 (z 4), .int .i64 (z 5), .int .i64 (z 6), .int .i64 (z 7)]) := Fp.out.ext xq3
                have Fw : Hid (HV wq3 nw [.int .i64 0, .int .i64 0, .int .i64 0, .int .i64 0]) := Fw.out.ext xq3
                have Fa : Hid (HV wq3 na [.int .i64 0, .int .i64 0, .int .i64 0]) := Fa.out.ext xq3
                have FX : Hid (Ext w wq3) := FX.out.trans xq3
                clear qp0 qp1 qp2 qp3 qp4 qp5 qp6 qp7 xq3 HT
                have ltpu : np < wq3.heap.size := Fp.out.1
                have ltwu : nw < wq3.heap.size := Fw.out.1
                have ltau : na < wq3.heap.size := Fa.out.1
                have Lu : Hid (w.heap.size ≤ wq3.heap.size) := FX.out.size
                have Lm : Hid (w.heap.size ≤ wq3.heap.size + 1) := Nat.le_trans FX.out.size (Nat.le_add_right _ _)
                have Fp : Hid (HV ((wq3.alloc (.cells #[.int .i64 0, .int .i64 0, .int .i64 0, .int .i64 0] 26)).alloc (.cells #[.int .i64 0, .int .i64 0, .int .i64 0] 24)) np [.int .i64 (z 0), .int .i64 (z 1), .int .i64 (z 2), .int .i64 (z 3), .int .i64 (z 4), .int .i64 (z 5), .int .i64 (z 6), .int .i64 (z 7)]) := ((Fp.out.alloc _).alloc _)
                have Fw : Hid (HV ((wq3.alloc (.cells #[.int .i64 0, .int .i64 0, .int .i64 0, .int .i64 0] 26)).alloc (.cells #[.int .i64 0, .int .i64 0, .int .i64 0] 24)) nw [.int .i64 0, .int .i64 0, .int .i64 0, .int .i64 0]) := ((Fw.out.alloc _).alloc _)
                have Fa : Hid (HV ((wq3.alloc (.cells #[.int .i64 0, .int .i64 0, .int .i64 0, .int .i64 0] 26)).alloc (.cells #[.int .i64 0, .int .i64 0, .int .i64 0] 24)) na [.int .i64 0, .int .i64 0, .int .i64 0]) := ((Fa.out.alloc _).alloc _)
                have Fu : Hid (HV ((wq3.alloc (.cells #[.int .i64 0, .int .i64 0, .int .i64 0, .int .i64 0] 26)).alloc (.cells #[.int .i64 0, .int .i64 0, .int .i64 0] 24)) wq3.heap.size [.int .i64 0, .int .i64 0, .int .i64 0, .int .i64 0]) := ((hv_at rfl).alloc _)
                have Fm : Hid (HV ((wq3.alloc (.cells #[.int .i64 0, .int .i64 0, .int .i64 0, .int .i64 0] 26)).alloc (.cells #[.int .i64 0, .int .i64 0, .int .i64 0] 24)) (wq3.heap.size + 1) [.int .i64 0, .int .i64 0, .int .i64 0]) := (hv_at (by simp))
                have FX : Hid (Ext w ((wq3.alloc (.cells #[.int .i64 0, .int .i64 0, .int .i64 0, .int .i64 0] 26)).alloc (.cells #[.int .i64 0, .int .i64 0, .int .i64 0] 24))) := ((FX.out.alloc _).alloc _)
                generalize ((wq3.alloc (.cells #[.int .i64 0, .int .i64 0, .int .i64 0, .int .i64 0] 26)).alloc (.cells #[.int .i64 0, .int .i64 0, .int .i64 0] 24)) = wx4 at *
                generalize wq3.heap.size = nu at *
                have ltum : nu < nu + 1 := by omega
                generalize nu + 1 = nm at *
                have qu0 : wx4.cell? ⟨nu, 0, none⟩ = some (.int .i64 0) := Fu.out.c 0 rfl
                have qu1 : wx4.cell? ⟨nu, 1, none⟩ = some (.int .i64 0) := Fu.out.c 1 rfl
                have qu2 : wx4.cell? ⟨nu, 2, none⟩ = some (.int .i64 0) := Fu.out.c 2 rfl
                have qu3 : wx4.cell? ⟨nu, 3, none⟩ = some (.int .i64 0) := Fu.out.c 3 rfl
                have qw0 : wx4.cell? ⟨nw, 0, none⟩ = some (.int .i64 0) := Fw.out.c 0 rfl
                have qw1 : wx4.cell? ⟨nw, 1, none⟩ = some (.int .i64 0) := Fw.out.c 1 rfl
                have qw2 : wx4.cell? ⟨nw, 2, none⟩ = some (.int .i64 0) := Fw.out.c 2 rfl
                have qw3 : wx4.cell? ⟨nw, 3, none⟩ = some (.int .i64 0) := Fw.out.c 3 rfl
                have qm0 : wx4.cell? ⟨nm, 0, none⟩ = some (.int .i64 0) := Fm.out.c 0 rfl
                have qm1 : wx4.cell? ⟨nm, 1, none⟩ = some (.int .i64 0) := Fm.out.c 1 rfl
                have qm2 : wx4.cell? ⟨nm, 2, none⟩ = some (.int .i64 0) := Fm.out.c 2 rfl
                have qa0 : wx4.cell? ⟨na, 0, none⟩ = some (.int .i64 0) := Fa.out.c 0 rfl
                have qa1 : wx4.cell? ⟨na, 1, none⟩ = some (.int .i64 0) := Fa.out.c 1 rfl
                have qa2 : wx4.cell? ⟨na, 2, none⟩ = some (.int .i64 0) := Fa.out.c 2 rfl
                go_wp2_with (go_at_call 10; refine (num14_any _ _).mono ?_; rintro e wx ⟨rfl, hwx⟩; have hwy := hwx.symm; clear hwx; subst hwy)
                go_roundw
                case rel => exact ⟨k + 1, by omega, by go_num, FX⟩
                case measure => simp [intOf]; omega
            · have h3 : okK (z 4) = false := Bool.eq_false_iff.2 (fun h => by have := okK_iff.1 h; omega)
              have et : takeT (z 0) (z 1) (z 2) (z 3) (z 4) (z 5) (z 6) (z 7) = .tuple #[.agg #[.int .i64 0, .int .i64 0, .int .i64 0, .int .i64 0], .agg #[.int .i64 0, .int .i64 0, .int .i64 0], .bool false, .int .i64 1] := by unfold takeT; rw [h1, h3]; rfl
              clear h3
              rw [et] at HT
              rw [h1] at HY
              rw [h2] at HV1
              clear et h1 h2
              have qp0 : wx3.cell? ⟨np, 0, none⟩ = some (.int .i64 (z 0)) := Fp.out.c 0 rfl
              have qp1 : wx3.cell? ⟨np, 1, none⟩ = some (.int .i64 (z 1)) := Fp.out.c 1 rfl
              have qp2 : wx3.cell? ⟨np, 2, none⟩ = some (.int .i64 (z 2)) := Fp.out.c 2 rfl
              have qp3 : wx3.cell? ⟨np, 3, none⟩ = some (.int .i64 (z 3)) := Fp.out.c 3 rfl
              go_wp2_with fail
              refine (HY.out _).mono ?_
              rintro e wq0 ⟨rfl, xq0⟩
              have Fp : Hid (HV wq0 np [.int .i64 (z 0), .int .i64 (z 1), .int .i64 (z 2), .int .i64 (z 3), .int .i64 (z 4), .int .i64 (z 5), .int .i64 (z 6), .int .i64 (z 7)]) := Fp.out.ext xq0
              have Fw : Hid (HV wq0 nw [.int .i64 0, .int .i64 0, .int .i64 0, .int .i64 0]) := Fw.out.ext xq0
              have Fa : Hid (HV wq0 na [.int .i64 0, .int .i64 0, .int .i64 0]) := Fa.out.ext xq0
              have FX : Hid (Ext w wq0) := FX.out.trans xq0
              clear qp0 qp1 qp2 qp3 xq0 HY
              have qp5 : wq0.cell? ⟨np, 5, none⟩ = some (.int .i64 (z 5)) := Fp.out.c 5 rfl
              have qp6 : wq0.cell? ⟨np, 6, none⟩ = some (.int .i64 (z 6)) := Fp.out.c 6 rfl
              have qp7 : wq0.cell? ⟨np, 7, none⟩ = some (.int .i64 (z 7)) := Fp.out.c 7 rfl
              go_wp2_with fail
              refine (HV1.out _).mono ?_
              rintro e wq1 ⟨rfl, xq1⟩
              have Fp : Hid (HV wq1 np [.int .i64 (z 0), .int .i64 (z 1), .int .i64 (z 2), .int .i64 (z 3), .int .i64 (z 4), .int .i64 (z 5), .int .i64 (z 6), .int .i64 (z 7)]) := Fp.out.ext xq1
              have Fw : Hid (HV wq1 nw [.int .i64 0, .int .i64 0, .int .i64 0, .int .i64 0]) := Fw.out.ext xq1
              have Fa : Hid (HV wq1 na [.int .i64 0, .int .i64 0, .int .i64 0]) := Fa.out.ext xq1
              have FX : Hid (Ext w wq1) := FX.out.trans xq1
              clear qp5 qp6 qp7 xq1 HV1
              have qp4 : wq1.cell? ⟨np, 4, none⟩ = some (.int .i64 (z 4)) := Fp.out.c 4 rfl
              go_upto_region 11 with fail
              clear qp4
              have qp0 : wq1.cell? ⟨np, 0, none⟩ = some (.int .i64 (z 0)) := Fp.out.c 0 rfl
              have qp1 : wq1.cell? ⟨np, 1, none⟩ = some (.int .i64 (z 1)) := Fp.out.c 1 rfl
              have qp2 : wq1.cell? ⟨np, 2, none⟩ = some (.int .i64 (z 2)) := Fp.out.c 2 rfl
              have qp3 : wq1.cell? ⟨np, 3, none⟩ = some (.int .i64 (z 3)) := Fp.out.c 3 rfl
              have qp4 : wq1.cell? ⟨np, 4, none⟩ = some (.int .i64 (z 4)) := Fp.out.c 4 rfl
              have qp5 : wq1.cell? ⟨np, 5, none⟩ = some (.int .i64 (z 5)) := Fp.out.c 5 rfl
              have qp6 : wq1.cell? ⟨np, 6, none⟩ = some (.int .i64 (z 6)) := Fp.out.c 6 rfl
              have qp7 : wq1.cell? ⟨np, 7, none⟩ = some (.int .i64 (z 7)) := Fp.out.c 7 rfl
              go_upto_region 12 with (first | (go_at_call 9; refine (HT.out _).mono ?_; rintro e wq3 ⟨rfl, xq3⟩))
              have Fp : Hid (HV wq3 np [.int .i64 (z 0), .int .i64 (z 1), .int .i64 (z 2), .int .i64 (z 3), .int .i64 (z 4), .int .i64 (z 5), .int .i64 (z 6), .int .i64 (z 7)]) := Fp.out.ext xq3
              have Fw : Hid (HV wq3 nw [.int .i64 0, .int .i64 0, .int .i64 0, .int .i64 0]) := Fw.out.ext xq3
              have Fa : Hid (HV wq3 na [.int .i64 0, .int .i64 0, .int .i64 0]) := Fa.out.ext xq3
              have FX : Hid (Ext w wq3) := FX.out.trans xq3
              clear qp0 qp1 qp2 qp3 qp4 qp5 qp6 qp7 xq3 HT
              have ltpu : np < wq3.heap.size := Fp.out.1
              have ltwu : nw < wq3.heap.size := Fw.out.1
              have ltau : na < wq3.heap.size := Fa.out.1
              have Lu : Hid (w.heap.size ≤ wq3.heap.size) := FX.out.size
              have Lm : Hid (w.heap.size ≤ wq3.heap.size + 1) := Nat.le_trans FX.out.size (Nat.le_add_right _ _)
              have Fp : Hid (HV ((wq3.alloc (.cells #[.int .i64 0, .int .i64 0, .int .i64 0, .int .i64 0] 26)).alloc (.cells #[.int .i64 0, .int .i64 0, .int .i64 0] 24)) np [.int .i64 (z 0), .int .i64 (z 1), .int .i64 (z 2), .int .i64 (z 3), .int .i64 (z 4), .int .i64 (z 5), .int .i64 (z 6), .int .i64 (z 7)]) := ((Fp.out.alloc _).alloc _)
              have Fw : Hid (HV ((wq3.alloc (.cells #[.int .i64 0, .int .i64 0, .int .i64 0, .int .i64 0] 26)).alloc (.cells #[.int .i64 0, .int .i64 0, .int .i64 0] 24)) nw [.int .i64 0, .int .i64 0, .int .i64 0, .int .i64 0]) := ((Fw.out.alloc _).alloc _)
              have Fa : Hid (HV ((wq3.alloc (.cells #[.int .i64 0, .int .i64 0, .int .i64 0, .int .i64 0] 26)).alloc (.cells #[.int .i64 0, .int .i64 0, .int .i64 0] 24)) na [.int .i64 0, .int .i64 0, .int .i64 0]) := ((Fa.out.alloc _).alloc _)
              have Fu : Hid (HV ((wq3.alloc (.cells #[.int .i64 0, .int .i64 0, .int .i64 0, .int .i64 0] 26)).alloc (.cells #[.int .i64 0, .int .i64 0, .int .i64 0] 24)) wq3.heap.size [.int .i64 0, .int .i64 0, .int .i64 0, .int .i64 0]) := ((hv_at rfl).alloc _)
              have Fm : Hid (HV ((wq3.alloc (.cells #[.int .i64 0, .int .i64 0, .int .i64 0, .int .i64 0] 26)).alloc (.cells #[.int .i64 0, .int .i64 0, .int .i64 0] 24)) (wq3.heap.size + 1) [.int .i64 0, .int .i64 0, .int .i64 0]) := (hv_at (by simp))
              have FX : Hid (Ext w ((wq3.alloc (.cells #[.int .i64 0, .int .i64 0, .int .i64 0, .int .i64 0] 26)).alloc (.cells #[.int .i64 0, .int .i64 0, .int .i64 0] 24))) := ((FX.out.alloc _).alloc _)
              generalize ((wq3.alloc (.cells #[.int .i64 0, .int .i64 0, .int .i64 0, .int .i64 0] 26)).alloc (.cells #[.int .i64 0, .int .i64 0, .int .i64 0] 24)) = wx4 at *
              generalize wq3.heap.size = nu at *
              have ltum : nu < nu + 1 := by omega
              generalize nu + 1 = nm at *
              have qu0 : wx4.cell? ⟨nu, 0, none⟩ = some (.int .i64 0) := Fu.out.c 0 rfl
              have qu1 : wx4.cell? ⟨nu, 1, none⟩ = some (.int .i64 0) := Fu.out.c 1 rfl
              have qu2 : wx4.cell? ⟨nu, 2, none⟩ = some (.int .i64 0) := Fu.out.c 2 rfl
              have qu3 : wx4.cell? ⟨nu, 3, none⟩ = some (.int .i64 0) := Fu.out.c 3 rfl
              have qw0 : wx4.cell? ⟨nw, 0, none⟩ = some (.int .i64 0) := Fw.out.c 0 rfl
              have qw1 : wx4.cell? ⟨nw, 1, none⟩ = some (.int .i64 0) := Fw.out.c 1 rfl
              have qw2 : wx4.cell? ⟨nw, 2, none⟩ = some (.int .i64 0) := Fw.out.c 2 rfl
              have qw3 : wx4.cell? ⟨nw, 3, none⟩ = some (.int .i64 0) := Fw.out.c 3 rfl
              have qm0 : wx4.cell? ⟨nm, 0, none⟩ = some (.int .i64 0) := Fm.out.c 0 rfl
              have qm1 : wx4.cell? ⟨nm, 1, none⟩ = some (.int .i64 0) := Fm.out.c 1 rfl
              have qm2 : wx4.cell? ⟨nm, 2, none⟩ = some (.int .i64 0) := Fm.out.c 2 rfl
              have qa0 : wx4.cell? ⟨na, 0, none⟩ = some (.int .i64 0) := Fa.out.c 0 rfl
              have qa1 : wx4.cell? ⟨na, 1, none⟩ = some (.int .i64 0) := Fa.out.c 1 rfl
              have qa2 : wx4.cell? ⟨na, 2, none⟩ = some (.int .i64 0) := Fa.out.c 2 rfl
              go_wp2_with (go_at_call 10; refine (num14_any _ _).mono ?_; rintro e wx ⟨rfl, hwx⟩; have hwy := hwx.symm; clear hwx; subst hwy)
              go_roundw
              case rel => exact ⟨k + 1, by omega, by go_num, FX⟩
              case measure => simp [intOf]; omega
      · go_wp2_with fail
        refine (wakes14_any _).mono ?_
        rintro e w1 ⟨rfl, x1⟩
        have E1 : Ext w w1 := FX.out.trans x1
        go_wp2_with fail
        go_ret
        exact ⟨rfl, E1⟩
    · have hk' : k = len := by omega
      subst hk'
      go_wp2_with fail
      refine (wakes14_any _).mono ?_
      rintro e w1 ⟨rfl, x1⟩
      have E1 : Ext w w1 := FX.out.trans x1
      go_wp2_with fail
      go_ret
      exact ⟨rfl, E1⟩
set_option maxHeartbeats 4000000 in
theorem thinexact_none (a : Option Addr) (cap : Nat) (w : World) :
    Calls Try.prog 3 #[.slice a 0 cap] w fun e w' => e = .returned (.bool true) ∧ Ext w w' := by
  go_enter Try.func3, Try.ntmps3
  go_wp2_with fail
  go_loopw [3] (fun i wr => i = .int .i64 0 ∧ Hid (Ext w wr)) (fun _ _ => 0)
  case atStart => exact ⟨rfl, Ext.refl _⟩
  case round =>
    obtain ⟨rfl, FX⟩ := hrel
    go_wp2_with fail
    refine (wakes14_any _).mono ?_
    rintro e w1 ⟨rfl, x1⟩
    have E1 : Ext w w1 := FX.out.trans x1
    go_wp2_with fail
    go_ret
    exact ⟨rfl, E1⟩
end Go.Proofs.Ytkcfgkedgjpeoaa
