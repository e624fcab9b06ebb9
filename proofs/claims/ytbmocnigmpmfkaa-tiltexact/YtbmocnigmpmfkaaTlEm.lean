/- TiltExact. -/
import Derived.Test.YtbmocnigmpmfkaaTlXm
namespace Go.Proofs.Ytbmocnigmpmfkaa
open Go.RowKit Go.Shelf
theorem rdot_told {x y z v0 v1 v2 : Int} (h1 : okD3 x y z = true) (h2 : okD3 v0 v1 v2 = true) (w : World) : Calls Try.prog 23 #[.agg #[.int .i64 x, .int .i64 y, .int .i64 z], .agg #[.int .i64 v0, .int .i64 v1, .int .i64 v2]] w fun e w' => e = .returned (.tuple #[.int .i64 (nearQ (dot3 x y z v0 v1 v2)), .int .i64 0]) ∧ Ext w w' := by
  have h := rDot_any x y z v0 v1 v2 w (okD3_ok h1) (okD3_ok h2)
  rw [fit_yes' (dotD h1 h2)] at h
  exact h
theorem both_told {on : Bool} {x y z s : Int} {a : Bool} {v0 v1 v2 n : Int} (h1 : okTl on x y z s a = true) (h2 : okD3 v0 v1 v2 = true) (h3 : okTm n = true) (h4 : s ≤ n) :
    ∃ (r0 : Bool) (r1 r2 r3 r4 : Int) (r5 td : Bool), (∀ w, Calls Try.prog 8 #[.agg #[.bool on, .int .i64 x, .int .i64 y, .int .i64 z, .int .i64 s, .bool a], .agg #[.int .i64 v0, .int .i64 v1, .int .i64 v2], .int .i64 n] w fun e w' => e = .returned (.tuple #[.agg #[.bool r0, .int .i64 r1, .int .i64 r2, .int .i64 r3, .int .i64 r4, .bool r5], .bool td, .int .i64 0]) ∧ Ext w w') ∧ (∀ w, Calls Try.prog 14 #[.agg #[.bool on, .int .i64 x, .int .i64 y, .int .i64 z, .int .i64 s, .bool a], .agg #[.int .i64 v0, .int .i64 v1, .int .i64 v2], .int .i64 n] w fun e w' => e = .returned (.tuple #[.agg #[.bool r0, .int .i64 r1, .int .i64 r2, .int .i64 r3, .int .i64 r4, .bool r5], .bool td]) ∧ Ext w w') := by
  cases on
  · have h : (x = 0 ∧ y = 0 ∧ z = 0 ∧ s = 0) ∧ a = false := by
      have e : okTl false x y z s a = (decide (x = 0 ∧ y = 0 ∧ z = 0 ∧ s = 0) && !a) := rfl
      rw [e, Bool.and_eq_true] at h1
      exact ⟨of_decide_eq_true h1.1, by simpa using h1.2⟩
    obtain ⟨⟨rfl, rfl, rfl, rfl⟩, rfl⟩ := h
    exact ⟨true, v0, v1, v2, 0, false, false, fun w => take_off v0 v1 v2 n w h2 h3, fun w => rtl_off v0 v1 v2 n w⟩
  · obtain ⟨g1, g2, g3⟩ := okTl_dir h1
    obtain ⟨n1, n2⟩ := okTm_iff.1 h3
    have D := fun w => vdot_told g1 h2 w
    have E := fun w => rdot_told g1 h2 w
    generalize nearQ (dot3 x y z v0 v1 v2) = p at *
    by_cases c1 : 879557810 ≤ p
    · exact ⟨true, x, y, z, 0, false, false, fun w => take_in x y z s a v0 v1 v2 n p w h1 h2 h3 h4 D c1, fun w => rtl_in x y z s a v0 v1 v2 n p w E c1⟩
    · cases a
      · exact ⟨true, x, y, z, n, true, false, fun w => take_out x y z s v0 v1 v2 n p w h1 h2 h3 h4 D (by omega), fun w => rtl_out x y z s v0 v1 v2 n p w E (by omega)⟩
      · by_cases c2 : 2000 ≤ n - s
        · exact ⟨true, v0, v1, v2, 0, false, true, fun w => take_tell x y z s v0 v1 v2 n p w h1 h2 h3 h4 D (by omega) c2, fun w => rtl_tell x y z s v0 v1 v2 n p w E ⟨g2.1, h4, n2⟩ (by omega) c2⟩
        · exact ⟨true, x, y, z, s, true, false, fun w => take_stay x y z s v0 v1 v2 n p w h1 h2 h3 h4 D (by omega) (by omega), fun w => rtl_stay x y z s v0 v1 v2 n p w E ⟨g2.1, h4, n2⟩ (by omega) (by omega)⟩
set_option maxRecDepth 20000 in
set_option maxHeartbeats 40000000 in
theorem tiltexact_any (b off len cap : Nat) (C : Nat → Nat → Value) (w : World) (hl : len ≤ maxLen) (hc : ML 10 (fun j => j == 0 || j == 5) w b off len C) :
    Calls Try.prog 4 #[.slice (some ⟨b, off, none⟩) len cap] w fun e w' => e = .returned (.bool true) ∧ Ext w w' := by
  have hl' : len ≤ 9223372036854775807 := by unfold maxLen at hl; omega
  clear hl
  go_enter Try.func4, Try.ntmps4
  go_wp2_with fail
  go_loopw [3] (fun i wr => ∃ k : Nat, k ≤ len ∧ i = .int .i64 k ∧ Hid (Ext w wr)) (fun i _ => len - (intOf i).toNat)
  case atStart => exact ⟨0, Nat.zero_le _, rfl, Ext.refl _⟩
  case round =>
    obtain ⟨k, hk, rfl, FX⟩ := hrel
    by_cases hlt : k < len
    · by_cases h5 : k < 80
      · skip
        obtain ⟨on, c0⟩ := (hc.ext FX.out).bool hlt (j := 0) (by omega) rfl
        obtain ⟨a, c5⟩ := (hc.ext FX.out).bool hlt (j := 5) (by omega) rfl
        rw [Nat.add_zero] at c0
        obtain ⟨x, c1, _⟩ := (hc.ext FX.out).num hlt (j := 1) (by omega) rfl
        obtain ⟨y, c2, _⟩ := (hc.ext FX.out).num hlt (j := 2) (by omega) rfl
        obtain ⟨z, c3, _⟩ := (hc.ext FX.out).num hlt (j := 3) (by omega) rfl
        obtain ⟨s, c4, _⟩ := (hc.ext FX.out).num hlt (j := 4) (by omega) rfl
        obtain ⟨v0, c6, _⟩ := (hc.ext FX.out).num hlt (j := 6) (by omega) rfl
        obtain ⟨v1, c7, _⟩ := (hc.ext FX.out).num hlt (j := 7) (by omega) rfl
        obtain ⟨v2, c8, _⟩ := (hc.ext FX.out).num hlt (j := 8) (by omega) rfl
        obtain ⟨n, c9, _⟩ := (hc.ext FX.out).num hlt (j := 9) (by omega) rfl
        have hlt' : (k : Int) < (len : Int) := by omega
        clear hc
        go_upto_region 5 with fail
        clear c0 c1 c2 c3 c4 c5 c6 c7 c8 c9
        have Lp : Hid (w.heap.size ≤ wr.heap.size) := FX.out.size
        have Fp : Hid (HV (wr.alloc (.cells #[.bool on, .int .i64 x, .int .i64 y, .int .i64 z, .int .i64 s, .bool a, .int .i64 v0, .int .i64 v1, .int .i64 v2, .int .i64 n] 29)) wr.heap.size [.bool on, .int .i64 x, .int .i64 y, .int .i64 z, .int .i64 s, .bool a, .int .i64 v0, .int .i64 v1, .int .i64 v2, .int .i64 n]) := hv_at rfl
        have FX : Hid (Ext w (wr.alloc (.cells #[.bool on, .int .i64 x, .int .i64 y, .int .i64 z, .int .i64 s, .bool a, .int .i64 v0, .int .i64 v1, .int .i64 v2, .int .i64 n] 29))) := FX.out.alloc _
        generalize (wr.alloc (.cells #[.bool on, .int .i64 x, .int .i64 y, .int .i64 z, .int .i64 s, .bool a, .int .i64 v0, .int .i64 v1, .int .i64 v2, .int .i64 n] 29)) = wx1 at *
        generalize wr.heap.size = np at *
        have HI : Hid (∀ w, Calls Try.prog 11 #[.agg #[.bool on, .int .i64 x, .int .i64 y, .int .i64 z, .int .i64 s, .bool a]] w fun e w' => e = .returned (.bool (okTl on x y z s a)) ∧ Ext w w') := maytl_any on x y z s a
        have HM : Hid (∀ w, Calls Try.prog 12 #[.agg #[.int .i64 v0, .int .i64 v1, .int .i64 v2]] w fun e w' => e = .returned (.bool (okD3 v0 v1 v2)) ∧ Ext w w') := wide_any v0 v1 v2
        have HZ : Hid (∀ w, Calls Try.prog 13 #[.int .i64 n] w fun e w' => e = .returned (.bool (okTm n)) ∧ w' = w) := rtime_any n
        cases a1 : okTl on x y z s a
        · have HT0 := fun w => take_bad1 on x y z s a v0 v1 v2 n w a1
          rw [a1] at HI
          clear a1
          have HT : Hid (∀ w, Calls Try.prog 8 #[.agg #[.bool on, .int .i64 x, .int .i64 y, .int .i64 z, .int .i64 s, .bool a], .agg #[.int .i64 v0, .int .i64 v1, .int .i64 v2], .int .i64 n] w fun e w' => e = .returned (.tuple #[.agg #[.bool false, .int .i64 0, .int .i64 0, .int .i64 0, .int .i64 0, .bool false], .bool false, .int .i64 1]) ∧ Ext w w') := HT0
          clear HT0
          go_upto_region 7 with fail
          have ltpw : np < wx1.heap.size := Fp.out.1
          have Lw : Hid (w.heap.size ≤ wx1.heap.size) := FX.out.size
          have Fp : Hid (HV (wx1.alloc (.cells #[.bool false, .int .i64 0, .int .i64 0, .int .i64 0, .int .i64 0, .bool false] 26)) np [.bool on, .int .i64 x, .int .i64 y, .int .i64 z, .int .i64 s, .bool a, .int .i64 v0, .int .i64 v1, .int .i64 v2, .int .i64 n]) := Fp.out.alloc _
          have Fw : Hid (HV (wx1.alloc (.cells #[.bool false, .int .i64 0, .int .i64 0, .int .i64 0, .int .i64 0, .bool false] 26)) wx1.heap.size [.bool false, .int .i64 0, .int .i64 0, .int .i64 0, .int .i64 0, .bool false]) := hv_at rfl
          have FX : Hid (Ext w (wx1.alloc (.cells #[.bool false, .int .i64 0, .int .i64 0, .int .i64 0, .int .i64 0, .bool false] 26))) := FX.out.alloc _
          generalize (wx1.alloc (.cells #[.bool false, .int .i64 0, .int .i64 0, .int .i64 0, .int .i64 0, .bool false] 26)) = wx11 at *
          generalize wx1.heap.size = nw at *
          have qp0 : wx11.cell? ⟨np, 0, none⟩ = some (.bool on) := Fp.out.c 0 rfl
          have qp1 : wx11.cell? ⟨np, 1, none⟩ = some (.int .i64 x) := Fp.out.c 1 rfl
          have qp2 : wx11.cell? ⟨np, 2, none⟩ = some (.int .i64 y) := Fp.out.c 2 rfl
          have qp3 : wx11.cell? ⟨np, 3, none⟩ = some (.int .i64 z) := Fp.out.c 3 rfl
          have qp4 : wx11.cell? ⟨np, 4, none⟩ = some (.int .i64 s) := Fp.out.c 4 rfl
          have qp5 : wx11.cell? ⟨np, 5, none⟩ = some (.bool a) := Fp.out.c 5 rfl
          have qp6 : wx11.cell? ⟨np, 6, none⟩ = some (.int .i64 v0) := Fp.out.c 6 rfl
          have qp7 : wx11.cell? ⟨np, 7, none⟩ = some (.int .i64 v1) := Fp.out.c 7 rfl
          have qp8 : wx11.cell? ⟨np, 8, none⟩ = some (.int .i64 v2) := Fp.out.c 8 rfl
          have qp9 : wx11.cell? ⟨np, 9, none⟩ = some (.int .i64 n) := Fp.out.c 9 rfl
          go_upto_region 11 with (first | (go_at_call 11; refine (HI.out _).mono ?_; rintro e wq0 ⟨rfl, xq0⟩; have kp4 : wq0.cell? ⟨np, 4, none⟩ = some (.int .i64 s) := (Fp.out.ext xq0).c 4 rfl; have kp6 : wq0.cell? ⟨np, 6, none⟩ = some (.int .i64 v0) := (Fp.out.ext xq0).c 6 rfl; have kp7 : wq0.cell? ⟨np, 7, none⟩ = some (.int .i64 v1) := (Fp.out.ext xq0).c 7 rfl; have kp8 : wq0.cell? ⟨np, 8, none⟩ = some (.int .i64 v2) := (Fp.out.ext xq0).c 8 rfl; have kp9 : wq0.cell? ⟨np, 9, none⟩ = some (.int .i64 n) := (Fp.out.ext xq0).c 9 rfl))
          have Fp : Hid (HV wq0 np [.bool on, .int .i64 x, .int .i64 y, .int .i64 z, .int .i64 s, .bool a, .int .i64 v0, .int .i64 v1, .int .i64 v2, .int .i64 n]) := Fp.out.ext xq0
          have Fw : Hid (HV wq0 nw [.bool false, .int .i64 0, .int .i64 0, .int .i64 0, .int .i64 0, .bool false]) := Fw.out.ext xq0
          have FX : Hid (Ext w wq0) := FX.out.trans xq0
          clear qp0 qp1 qp2 qp3 qp4 qp5 qp6 qp7 qp8 qp9 xq0 HI HM HZ kp4 kp6 kp7 kp8 kp9
          have qp0 : wq0.cell? ⟨np, 0, none⟩ = some (.bool on) := Fp.out.c 0 rfl
          have qp1 : wq0.cell? ⟨np, 1, none⟩ = some (.int .i64 x) := Fp.out.c 1 rfl
          have qp2 : wq0.cell? ⟨np, 2, none⟩ = some (.int .i64 y) := Fp.out.c 2 rfl
          have qp3 : wq0.cell? ⟨np, 3, none⟩ = some (.int .i64 z) := Fp.out.c 3 rfl
          have qp4 : wq0.cell? ⟨np, 4, none⟩ = some (.int .i64 s) := Fp.out.c 4 rfl
          have qp5 : wq0.cell? ⟨np, 5, none⟩ = some (.bool a) := Fp.out.c 5 rfl
          have qp6 : wq0.cell? ⟨np, 6, none⟩ = some (.int .i64 v0) := Fp.out.c 6 rfl
          have qp7 : wq0.cell? ⟨np, 7, none⟩ = some (.int .i64 v1) := Fp.out.c 7 rfl
          have qp8 : wq0.cell? ⟨np, 8, none⟩ = some (.int .i64 v2) := Fp.out.c 8 rfl
          have qp9 : wq0.cell? ⟨np, 9, none⟩ = some (.int .i64 n) := Fp.out.c 9 rfl
          go_upto_region 12 with (first | (go_at_call 8; refine (HT.out _).mono ?_; rintro e wq3 ⟨rfl, xq3⟩))
          have Fp : Hid (HV wq3 np [.bool on, .int .i64 x, .int .i64 y, .int .i64 z, .int .i64 s, .bool a, .int .i64 v0, .int .i64 v1, .int .i64 v2, .int .i64 n]) := Fp.out.ext xq3
          have Fw : Hid (HV wq3 nw [.bool false, .int .i64 0, .int .i64 0, .int .i64 0, .int .i64 0, .bool false]) := Fw.out.ext xq3
          have FX : Hid (Ext w wq3) := FX.out.trans xq3
          clear qp0 qp1 qp2 qp3 qp4 qp5 qp6 qp7 qp8 qp9 xq3 HT
          have ltpu : np < wq3.heap.size := Fp.out.1
          have ltwu : nw < wq3.heap.size := Fw.out.1
          have Lu : Hid (w.heap.size ≤ wq3.heap.size) := FX.out.size
          have Fp : Hid (HV (wq3.alloc (.cells #[.bool false, .int .i64 0, .int .i64 0, .int .i64 0, .int .i64 0, .bool false] 26)) np [.bool on, .int .i64 x, .int .i64 y, .int .i64 z, .int .i64 s, .bool a, .int .i64 v0, .int .i64 v1, .int .i64 v2, .int .i64 n]) := Fp.out.alloc _
          have Fw : Hid (HV (wq3.alloc (.cells #[.bool false, .int .i64 0, .int .i64 0, .int .i64 0, .int .i64 0, .bool false] 26)) nw [.bool false, .int .i64 0, .int .i64 0, .int .i64 0, .int .i64 0, .bool false]) := Fw.out.alloc _
          have Fu : Hid (HV (wq3.alloc (.cells #[.bool false, .int .i64 0, .int .i64 0, .int .i64 0, .int .i64 0, .bool false] 26)) wq3.heap.size [.bool false, .int .i64 0, .int .i64 0, .int .i64 0, .int .i64 0, .bool false]) := hv_at rfl
          have FX : Hid (Ext w (wq3.alloc (.cells #[.bool false, .int .i64 0, .int .i64 0, .int .i64 0, .int .i64 0, .bool false] 26))) := FX.out.alloc _
          generalize (wq3.alloc (.cells #[.bool false, .int .i64 0, .int .i64 0, .int .i64 0, .int .i64 0, .bool false] 26)) = wx12 at *
          generalize wq3.heap.size = nu at *
          have qu0 : wx12.cell? ⟨nu, 0, none⟩ = some (.bool false) := Fu.out.c 0 rfl
          have qu1 : wx12.cell? ⟨nu, 1, none⟩ = some (.int .i64 0) := Fu.out.c 1 rfl
          have qu2 : wx12.cell? ⟨nu, 2, none⟩ = some (.int .i64 0) := Fu.out.c 2 rfl
          have qu3 : wx12.cell? ⟨nu, 3, none⟩ = some (.int .i64 0) := Fu.out.c 3 rfl
          have qu4 : wx12.cell? ⟨nu, 4, none⟩ = some (.int .i64 0) := Fu.out.c 4 rfl
          have qu5 : wx12.cell? ⟨nu, 5, none⟩ = some (.bool false) := Fu.out.c 5 rfl
          have qw0 : wx12.cell? ⟨nw, 0, none⟩ = some (.bool false) := Fw.out.c 0 rfl
          have qw1 : wx12.cell? ⟨nw, 1, none⟩ = some (.int .i64 0) := Fw.out.c 1 rfl
          have qw2 : wx12.cell? ⟨nw, 2, none⟩ = some (.int .i64 0) := Fw.out.c 2 rfl
          have qw3 : wx12.cell? ⟨nw, 3, none⟩ = some (.int .i64 0) := Fw.out.c 3 rfl
          have qw4 : wx12.cell? ⟨nw, 4, none⟩ = some (.int .i64 0) := Fw.out.c 4 rfl
          have qw5 : wx12.cell? ⟨nw, 5, none⟩ = some (.bool false) := Fw.out.c 5 rfl
          go_wp2_with (go_at_call 9; refine (num19_any _ _).mono ?_; rintro e wx ⟨rfl, hwx⟩; have hwy := hwx.symm; clear hwx; subst hwy)
          go_roundw
          case rel => exact ⟨k + 1, by omega, by go_num, FX⟩
          case measure => simp [intOf]; omega
        · cases a2 : okD3 v0 v1 v2
          · have HT0 := fun w => take_bad2 on x y z s a v0 v1 v2 n w a1 a2
            rw [a1] at HI
            rw [a2] at HM
            clear a1 a2
            have HT : Hid (∀ w, Calls Try.prog 8 #[.agg #[.bool on, .int .i64 x, .int .i64 y, .int .i64 z, .int .i64 s, .bool a], .agg #[.int .i64 v0, .int .i64 v1, .int .i64 v2], .int .i64 n] w fun e w' => e = .returned (.tuple #[.agg #[.bool false, .int .i64 0, .int .i64 0, .int .i64 0, .int .i64 0, .bool false], .bool false, .int .i64 1]) ∧ Ext w w') := HT0
            clear HT0
            go_upto_region 7 with fail
            have ltpw : np < wx1.heap.size := Fp.out.1
            have Lw : Hid (w.heap.size ≤ wx1.heap.size) := FX.out.size
            have Fp : Hid (HV (wx1.alloc (.cells #[.bool false, .int .i64 0, .int .i64 0, .int .i64 0, .int .i64 0, .bool false] 26)) np [.bool on, .int .i64 x, .int .i64 y, .int .i64 z, .int .i64 s, .bool a, .int .i64 v0, .int .i64 v1, .int .i64 v2, .int .i64 n]) := Fp.out.alloc _
            have Fw : Hid (HV (wx1.alloc (.cells #[.bool false, .int .i64 0, .int .i64 0, .int .i64 0, .int .i64 0, .bool false] 26)) wx1.heap.size [.bool false, .int .i64 0, .int .i64 0, .int .i64 0, .int .i64 0, .bool false]) := hv_at rfl
            have FX : Hid (Ext w (wx1.alloc (.cells #[.bool false, .int .i64 0, .int .i64 0, .int .i64 0, .int .i64 0, .bool false] 26))) := FX.out.alloc _
            generalize (wx1.alloc (.cells #[.bool false, .int .i64 0, .int .i64 0, .int .i64 0, .int .i64 0, .bool false] 26)) = wx11 at *
            generalize wx1.heap.size = nw at *
            have qp0 : wx11.cell? ⟨np, 0, none⟩ = some (.bool on) := Fp.out.c 0 rfl
            have qp1 : wx11.cell? ⟨np, 1, none⟩ = some (.int .i64 x) := Fp.out.c 1 rfl
            have qp2 : wx11.cell? ⟨np, 2, none⟩ = some (.int .i64 y) := Fp.out.c 2 rfl
            have qp3 : wx11.cell? ⟨np, 3, none⟩ = some (.int .i64 z) := Fp.out.c 3 rfl
            have qp4 : wx11.cell? ⟨np, 4, none⟩ = some (.int .i64 s) := Fp.out.c 4 rfl
            have qp5 : wx11.cell? ⟨np, 5, none⟩ = some (.bool a) := Fp.out.c 5 rfl
            have qp6 : wx11.cell? ⟨np, 6, none⟩ = some (.int .i64 v0) := Fp.out.c 6 rfl
            have qp7 : wx11.cell? ⟨np, 7, none⟩ = some (.int .i64 v1) := Fp.out.c 7 rfl
            have qp8 : wx11.cell? ⟨np, 8, none⟩ = some (.int .i64 v2) := Fp.out.c 8 rfl
            have qp9 : wx11.cell? ⟨np, 9, none⟩ = some (.int .i64 n) := Fp.out.c 9 rfl
            go_upto_region 11 with (first | (go_at_call 11; refine (HI.out _).mono ?_; rintro e wq0 ⟨rfl, xq0⟩; have kp4 : wq0.cell? ⟨np, 4, none⟩ = some (.int .i64 s) := (Fp.out.ext xq0).c 4 rfl; have kp6 : wq0.cell? ⟨np, 6, none⟩ = some (.int .i64 v0) := (Fp.out.ext xq0).c 6 rfl; have kp7 : wq0.cell? ⟨np, 7, none⟩ = some (.int .i64 v1) := (Fp.out.ext xq0).c 7 rfl; have kp8 : wq0.cell? ⟨np, 8, none⟩ = some (.int .i64 v2) := (Fp.out.ext xq0).c 8 rfl; have kp9 : wq0.cell? ⟨np, 9, none⟩ = some (.int .i64 n) := (Fp.out.ext xq0).c 9 rfl) | (go_at_call 12; refine (HM.out _).mono ?_; rintro e wq1 ⟨rfl, xq1⟩; have m4 : wq1.cell? ⟨np, 4, none⟩ = some (.int .i64 s) := (Fp.out.ext (xq0.trans xq1)).c 4 rfl; have m9 : wq1.cell? ⟨np, 9, none⟩ = some (.int .i64 n) := (Fp.out.ext (xq0.trans xq1)).c 9 rfl))
            have Fp : Hid (HV wq1 np [.bool on, .int .i64 x, .int .i64 y, .int .i64 z, .int .i64 s, .bool a, .int .i64 v0, .int .i64 v1, .int .i64 v2, .int .i64 n]) := Fp.out.ext (xq0.trans xq1)
            have Fw : Hid (HV wq1 nw [.bool false, .int .i64 0, .int .i64 0, .int .i64 0, .int .i64 0, .bool false]) := Fw.out.ext (xq0.trans xq1)
            have FX : Hid (Ext w wq1) := FX.out.trans (xq0.trans xq1)
            clear qp0 qp1 qp2 qp3 qp4 qp5 qp6 qp7 qp8 qp9 xq0 xq1 HI HM HZ m4 m9 kp4 kp6 kp7 kp8 kp9
            have qp0 : wq1.cell? ⟨np, 0, none⟩ = some (.bool on) := Fp.out.c 0 rfl
            have qp1 : wq1.cell? ⟨np, 1, none⟩ = some (.int .i64 x) := Fp.out.c 1 rfl
            have qp2 : wq1.cell? ⟨np, 2, none⟩ = some (.int .i64 y) := Fp.out.c 2 rfl
            have qp3 : wq1.cell? ⟨np, 3, none⟩ = some (.int .i64 z) := Fp.out.c 3 rfl
            have qp4 : wq1.cell? ⟨np, 4, none⟩ = some (.int .i64 s) := Fp.out.c 4 rfl
            have qp5 : wq1.cell? ⟨np, 5, none⟩ = some (.bool a) := Fp.out.c 5 rfl
            have qp6 : wq1.cell? ⟨np, 6, none⟩ = some (.int .i64 v0) := Fp.out.c 6 rfl
            have qp7 : wq1.cell? ⟨np, 7, none⟩ = some (.int .i64 v1) := Fp.out.c 7 rfl
            have qp8 : wq1.cell? ⟨np, 8, none⟩ = some (.int .i64 v2) := Fp.out.c 8 rfl
            have qp9 : wq1.cell? ⟨np, 9, none⟩ = some (.int .i64 n) := Fp.out.c 9 rfl
            go_upto_region 12 with (first | (go_at_call 8; refine (HT.out _).mono ?_; rintro e wq3 ⟨rfl, xq3⟩))
            have Fp : Hid (HV wq3 np [.bool on, .int .i64 x, .int .i64 y, .int .i64 z, .int .i64 s, .bool a, .int .i64 v0, .int .i64 v1, .int .i64 v2, .int .i64 n]) := Fp.out.ext xq3
            have Fw : Hid (HV wq3 nw [.bool false, .int .i64 0, .int .i64 0, .int .i64 0, .int .i64 0, .bool false]) := Fw.out.ext xq3
            have FX : Hid (Ext w wq3) := FX.out.trans xq3
            clear qp0 qp1 qp2 qp3 qp4 qp5 qp6 qp7 qp8 qp9 xq3 HT
            have ltpu : np < wq3.heap.size := Fp.out.1
            have ltwu : nw < wq3.heap.size := Fw.out.1
            have Lu : Hid (w.heap.size ≤ wq3.heap.size) := FX.out.size
            have Fp : Hid (HV (wq3.alloc (.cells #[.bool false, .int .i64 0, .int .i64 0, .int .i64 0, .int .i64 0, .bool false] 26)) np [.bool on, .int .i64 x, .int .i64 y, .int .i64 z, .int .i64 s, .bool a, .int .i64 v0, .int .i64 v1, .int .i64 v2, .int .i64 n]) := Fp.out.alloc _
            have Fw : Hid (HV (wq3.alloc (.cells #[.bool false, .int .i64 0, .int .i64 0, .int .i64 0, .int .i64 0, .bool false] 26)) nw [.bool false, .int .i64 0, .int .i64 0, .int .i64 0, .int .i64 0, .bool false]) := Fw.out.alloc _
            have Fu : Hid (HV (wq3.alloc (.cells #[.bool false, .int .i64 0, .int .i64 0, .int .i64 0, .int .i64 0, .bool false] 26)) wq3.heap.size [.bool false, .int .i64 0, .int .i64 0, .int .i64 0, .int .i64 0, .bool false]) := hv_at rfl
            have FX : Hid (Ext w (wq3.alloc (.cells #[.bool false, .int .i64 0, .int .i64 0, .int .i64 0, .int .i64 0, .bool false] 26))) := FX.out.alloc _
            generalize (wq3.alloc (.cells #[.bool false, .int .i64 0, .int .i64 0, .int .i64 0, .int .i64 0, .bool false] 26)) = wx12 at *
            generalize wq3.heap.size = nu at *
            have qu0 : wx12.cell? ⟨nu, 0, none⟩ = some (.bool false) := Fu.out.c 0 rfl
            have qu1 : wx12.cell? ⟨nu, 1, none⟩ = some (.int .i64 0) := Fu.out.c 1 rfl
            have qu2 : wx12.cell? ⟨nu, 2, none⟩ = some (.int .i64 0) := Fu.out.c 2 rfl
            have qu3 : wx12.cell? ⟨nu, 3, none⟩ = some (.int .i64 0) := Fu.out.c 3 rfl
            have qu4 : wx12.cell? ⟨nu, 4, none⟩ = some (.int .i64 0) := Fu.out.c 4 rfl
            have qu5 : wx12.cell? ⟨nu, 5, none⟩ = some (.bool false) := Fu.out.c 5 rfl
            have qw0 : wx12.cell? ⟨nw, 0, none⟩ = some (.bool false) := Fw.out.c 0 rfl
            have qw1 : wx12.cell? ⟨nw, 1, none⟩ = some (.int .i64 0) := Fw.out.c 1 rfl
            have qw2 : wx12.cell? ⟨nw, 2, none⟩ = some (.int .i64 0) := Fw.out.c 2 rfl
            have qw3 : wx12.cell? ⟨nw, 3, none⟩ = some (.int .i64 0) := Fw.out.c 3 rfl
            have qw4 : wx12.cell? ⟨nw, 4, none⟩ = some (.int .i64 0) := Fw.out.c 4 rfl
            have qw5 : wx12.cell? ⟨nw, 5, none⟩ = some (.bool false) := Fw.out.c 5 rfl
            go_wp2_with (go_at_call 9; refine (num19_any _ _).mono ?_; rintro e wx ⟨rfl, hwx⟩; have hwy := hwx.symm; clear hwx; subst hwy)
            go_roundw
            case rel => exact ⟨k + 1, by omega, by go_num, FX⟩
            case measure => simp [intOf]; omega
          · cases a3 : okTm n
            · have HT0 := fun w => take_bad3 on x y z s a v0 v1 v2 n w a1 a2 a3
              rw [a1] at HI
              rw [a2] at HM
              rw [a3] at HZ
              clear a1 a2 a3
              have HT : Hid (∀ w, Calls Try.prog 8 #[.agg #[.bool on, .int .i64 x, .int .i64 y, .int .i64 z, .int .i64 s, .bool a], .agg #[.int .i64 v0, .int .i64 v1, .int .i64 v2], .int .i64 n] w fun e w' => e = .returned (.tuple #[.agg #[.bool false, .int .i64 0, .int .i64 0, .int .i64 0, .int .i64 0, .bool false], .bool false, .int .i64 1]) ∧ Ext w w') := HT0
              clear HT0
              go_upto_region 7 with fail
              have ltpw : np < wx1.heap.size := Fp.out.1
              have Lw : Hid (w.heap.size ≤ wx1.heap.size) := FX.out.size
              have Fp : Hid (HV (wx1.alloc (.cells #[.bool false, .int .i64 0, .int .i64 0, .int .i64 0, .int .i64 0, .bool false] 26)) np [.bool on, .int .i64 x, .int .i64 y, .int .i64 z, .int .i64 s, .bool a, .int .i64 v0, .int .i64 v1, .int .i64 v2, .int .i64 n]) := Fp.out.alloc _
              have Fw : Hid (HV (wx1.alloc (.cells #[.bool false, .int .i64 0, .int .i64 0, .int .i64 0, .int .i64 0, .bool false] 26)) wx1.heap.size [.bool false, .int .i64 0, .int .i64 0, .int .i64 0, .int .i64 0, .bool false]) := hv_at rfl
              have FX : Hid (Ext w (wx1.alloc (.cells #[.bool false, .int .i64 0, .int .i64 0, .int .i64 0, .int .i64 0, .bool false] 26))) := FX.out.alloc _
              generalize (wx1.alloc (.cells #[.bool false, .int .i64 0, .int .i64 0, .int .i64 0, .int .i64 0, .bool false] 26)) = wx11 at *
              generalize wx1.heap.size = nw at *
              have qp0 : wx11.cell? ⟨np, 0, none⟩ = some (.bool on) := Fp.out.c 0 rfl
              have qp1 : wx11.cell? ⟨np, 1, none⟩ = some (.int .i64 x) := Fp.out.c 1 rfl
              have qp2 : wx11.cell? ⟨np, 2, none⟩ = some (.int .i64 y) := Fp.out.c 2 rfl
              have qp3 : wx11.cell? ⟨np, 3, none⟩ = some (.int .i64 z) := Fp.out.c 3 rfl
              have qp4 : wx11.cell? ⟨np, 4, none⟩ = some (.int .i64 s) := Fp.out.c 4 rfl
              have qp5 : wx11.cell? ⟨np, 5, none⟩ = some (.bool a) := Fp.out.c 5 rfl
              have qp6 : wx11.cell? ⟨np, 6, none⟩ = some (.int .i64 v0) := Fp.out.c 6 rfl
              have qp7 : wx11.cell? ⟨np, 7, none⟩ = some (.int .i64 v1) := Fp.out.c 7 rfl
              have qp8 : wx11.cell? ⟨np, 8, none⟩ = some (.int .i64 v2) := Fp.out.c 8 rfl
              have qp9 : wx11.cell? ⟨np, 9, none⟩ = some (.int .i64 n) := Fp.out.c 9 rfl
              go_upto_region 11 with (first | (go_at_call 11; refine (HI.out _).mono ?_; rintro e wq0 ⟨rfl, xq0⟩; have kp4 : wq0.cell? ⟨np, 4, none⟩ = some (.int .i64 s) := (Fp.out.ext xq0).c 4 rfl; have kp6 : wq0.cell? ⟨np, 6, none⟩ = some (.int .i64 v0) := (Fp.out.ext xq0).c 6 rfl; have kp7 : wq0.cell? ⟨np, 7, none⟩ = some (.int .i64 v1) := (Fp.out.ext xq0).c 7 rfl; have kp8 : wq0.cell? ⟨np, 8, none⟩ = some (.int .i64 v2) := (Fp.out.ext xq0).c 8 rfl; have kp9 : wq0.cell? ⟨np, 9, none⟩ = some (.int .i64 n) := (Fp.out.ext xq0).c 9 rfl) | (go_at_call 12; refine (HM.out _).mono ?_; rintro e wq1 ⟨rfl, xq1⟩; have m4 : wq1.cell? ⟨np, 4, none⟩ = some (.int .i64 s) := (Fp.out.ext (xq0.trans xq1)).c 4 rfl; have m9 : wq1.cell? ⟨np, 9, none⟩ = some (.int .i64 n) := (Fp.out.ext (xq0.trans xq1)).c 9 rfl) | (go_at_call 13; refine (HZ.out _).mono ?_; rintro e wx ⟨rfl, hwx⟩; have hwy := hwx.symm; clear hwx; subst hwy))
              have Fp : Hid (HV wq1 np [.bool on, .int .i64 x, .int .i64 y, .int .i64 z, .int .i64 s, .bool a, .int .i64 v0, .int .i64 v1, .int .i64 v2, .int .i64 n]) := Fp.out.ext (xq0.trans xq1)
              have Fw : Hid (HV wq1 nw [.bool false, .int .i64 0, .int .i64 0, .int .i64 0, .int .i64 0, .bool false]) := Fw.out.ext (xq0.trans xq1)
              have FX : Hid (Ext w wq1) := FX.out.trans (xq0.trans xq1)
              clear qp0 qp1 qp2 qp3 qp4 qp5 qp6 qp7 qp8 qp9 xq0 xq1 HI HM HZ m4 m9 kp4 kp6 kp7 kp8 kp9
              have qp0 : wq1.cell? ⟨np, 0, none⟩ = some (.bool on) := Fp.out.c 0 rfl
              have qp1 : wq1.cell? ⟨np, 1, none⟩ = some (.int .i64 x) := Fp.out.c 1 rfl
              have qp2 : wq1.cell? ⟨np, 2, none⟩ = some (.int .i64 y) := Fp.out.c 2 rfl
              have qp3 : wq1.cell? ⟨np, 3, none⟩ = some (.int .i64 z) := Fp.out.c 3 rfl
              have qp4 : wq1.cell? ⟨np, 4, none⟩ = some (.int .i64 s) := Fp.out.c 4 rfl
              have qp5 : wq1.cell? ⟨np, 5, none⟩ = some (.bool a) := Fp.out.c 5 rfl
              have qp6 : wq1.cell? ⟨np, 6, none⟩ = some (.int .i64 v0) := Fp.out.c 6 rfl
              have qp7 : wq1.cell? ⟨np, 7, none⟩ = some (.int .i64 v1) := Fp.out.c 7 rfl
              have qp8 : wq1.cell? ⟨np, 8, none⟩ = some (.int .i64 v2) := Fp.out.c 8 rfl
              have qp9 : wq1.cell? ⟨np, 9, none⟩ = some (.int .i64 n) := Fp.out.c 9 rfl
              go_upto_region 12 with (first | (go_at_call 8; refine (HT.out _).mono ?_; rintro e wq3 ⟨rfl, xq3⟩))
              have Fp : Hid (HV wq3 np [.bool on, .int .i64 x, .int .i64 y, .int .i64 z, .int .i64 s, .bool a, .int .i64 v0, .int .i64 v1, .int .i64 v2, .int .i64 n]) := Fp.out.ext xq3
              have Fw : Hid (HV wq3 nw [.bool false, .int .i64 0, .int .i64 0, .int .i64 0, .int .i64 0, .bool false]) := Fw.out.ext xq3
              have FX : Hid (Ext w wq3) := FX.out.trans xq3
              clear qp0 qp1 qp2 qp3 qp4 qp5 qp6 qp7 qp8 qp9 xq3 HT
              have ltpu : np < wq3.heap.size := Fp.out.1
              have ltwu : nw < wq3.heap.size := Fw.out.1
              have Lu : Hid (w.heap.size ≤ wq3.heap.size) := FX.out.size
              have Fp : Hid (HV (wq3.alloc (.cells #[.bool false, .int .i64 0, .int .i64 0, .int .i64 0, .int .i64 0, .bool false] 26)) np [.bool on, .int .i64 x, .int .i64 y, .int .i64 z, .int .i64 s, .bool a, .int .i64 v0, .int .i64 v1, .int .i64 v2, .int .i64 n]) := Fp.out.alloc _
              have Fw : Hid (HV (wq3.alloc (.cells #[.bool false, .int .i64 0, .int .i64 0, .int .i64 0, .int .i64 0, .bool false] 26)) nw [.bool false, .int .i64 0, .int .i64 0, .int .i64 0, .int .i64 0, .bool false]) := Fw.out.alloc _
              have Fu : Hid (HV (wq3.alloc (.cells #[.bool false, .int .i64 0, .int .i64 0, .int .i64 0, .int .i64 0, .bool false] 26)) wq3.heap.size [.bool false, .int .i64 0, .int .i64 0, .int .i64 0, .int .i64 0, .bool false]) := hv_at rfl
              have FX : Hid (Ext w (wq3.alloc (.cells #[.bool false, .int .i64 0, .int .i64 0, .int .i64 0, .int .i64 0, .bool false] 26))) := FX.out.alloc _
              generalize (wq3.alloc (.cells #[.bool false, .int .i64 0, .int .i64 0, .int .i64 0, .int .i64 0, .bool false] 26)) = wx12 at *
              generalize wq3.heap.size = nu at *
              have qu0 : wx12.cell? ⟨nu, 0, none⟩ = some (.bool false) := Fu.out.c 0 rfl
              have qu1 : wx12.cell? ⟨nu, 1, none⟩ = some (.int .i64 0) := Fu.out.c 1 rfl
              have qu2 : wx12.cell? ⟨nu, 2, none⟩ = some (.int .i64 0) := Fu.out.c 2 rfl
              have qu3 : wx12.cell? ⟨nu, 3, none⟩ = some (.int .i64 0) := Fu.out.c 3 rfl
              have qu4 : wx12.cell? ⟨nu, 4, none⟩ = some (.int .i64 0) := Fu.out.c 4 rfl
              have qu5 : wx12.cell? ⟨nu, 5, none⟩ = some (.bool false) := Fu.out.c 5 rfl
              have qw0 : wx12.cell? ⟨nw, 0, none⟩ = some (.bool false) := Fw.out.c 0 rfl
              have qw1 : wx12.cell? ⟨nw, 1, none⟩ = some (.int .i64 0) := Fw.out.c 1 rfl
              have qw2 : wx12.cell? ⟨nw, 2, none⟩ = some (.int .i64 0) := Fw.out.c 2 rfl
              have qw3 : wx12.cell? ⟨nw, 3, none⟩ = some (.int .i64 0) := Fw.out.c 3 rfl
              have qw4 : wx12.cell? ⟨nw, 4, none⟩ = some (.int .i64 0) := Fw.out.c 4 rfl
              have qw5 : wx12.cell? ⟨nw, 5, none⟩ = some (.bool false) := Fw.out.c 5 rfl
              go_wp2_with (go_at_call 9; refine (num19_any _ _).mono ?_; rintro e wx ⟨rfl, hwx⟩; have hwy := hwx.symm; clear hwx; subst hwy)
              go_roundw
              case rel => exact ⟨k + 1, by omega, by go_num, FX⟩
              case measure => simp [intOf]; omega
            · by_cases a4 : n < s
              · have HT0 := fun w => take_bad4 on x y z s a v0 v1 v2 n w a1 a2 a3 a4
                rw [a1] at HI
                rw [a2] at HM
                rw [a3] at HZ
                have a5 : decide (s ≤ n) = false := by simp; omega
                clear a1 a2 a3 a4
                have HT : Hid (∀ w, Calls Try.prog 8 #[.agg #[.bool on, .int .i64 x, .int .i64 y, .int .i64 z, .int .i64 s, .bool a], .agg #[.int .i64 v0, .int .i64 v1, .int .i64 v2], .int .i64 n] w fun e w' => e = .returned (.tuple #[.agg #[.bool false, .int .i64 0, .int .i64 0, .int .i64 0, .int .i64 0, .bool false], .bool false, .int .i64 1]) ∧ Ext w w') := HT0
                clear HT0
                go_upto_region 7 with fail
                have ltpw : np < wx1.heap.size := Fp.out.1
                have Lw : Hid (w.heap.size ≤ wx1.heap.size) := FX.out.size
                have Fp : Hid (HV (wx1.alloc (.cells #[.bool false, .int .i64 0, .int .i64 0, .int .i64 0, .int .i64 0, .bool false] 26)) np [.bool on, .int .i64 x, .int .i64 y, .int .i64 z, .int .i64 s, .bool a, .int .i64 v0, .int .i64 v1, .int .i64 v2, .int .i64 n]) := Fp.out.alloc _
                have Fw : Hid (HV (wx1.alloc (.cells #[.bool false, .int .i64 0, .int .i64 0, .int .i64 0, .int .i64 0, .bool false] 26)) wx1.heap.size [.bool false, .int .i64 0, .int .i64 0, .int .i64 0, .int .i64 0, .bool false]) := hv_at rfl
                have FX : Hid (Ext w (wx1.alloc (.cells #[.bool false, .int .i64 0, .int .i64 0, .int .i64 0, .int .i64 0, .bool false] 26))) := FX.out.alloc _
                generalize (wx1.alloc (.cells #[.bool false, .int .i64 0, .int .i64 0, .int .i64 0, .int .i64 0, .bool false] 26)) = wx11 at *
                generalize wx1.heap.size = nw at *
                have qp0 : wx11.cell? ⟨np, 0, none⟩ = some (.bool on) := Fp.out.c 0 rfl
                have qp1 : wx11.cell? ⟨np, 1, none⟩ = some (.int .i64 x) := Fp.out.c 1 rfl
                have qp2 : wx11.cell? ⟨np, 2, none⟩ = some (.int .i64 y) := Fp.out.c 2 rfl
                have qp3 : wx11.cell? ⟨np, 3, none⟩ = some (.int .i64 z) := Fp.out.c 3 rfl
                have qp4 : wx11.cell? ⟨np, 4, none⟩ = some (.int .i64 s) := Fp.out.c 4 rfl
                have qp5 : wx11.cell? ⟨np, 5, none⟩ = some (.bool a) := Fp.out.c 5 rfl
                have qp6 : wx11.cell? ⟨np, 6, none⟩ = some (.int .i64 v0) := Fp.out.c 6 rfl
                have qp7 : wx11.cell? ⟨np, 7, none⟩ = some (.int .i64 v1) := Fp.out.c 7 rfl
                have qp8 : wx11.cell? ⟨np, 8, none⟩ = some (.int .i64 v2) := Fp.out.c 8 rfl
                have qp9 : wx11.cell? ⟨np, 9, none⟩ = some (.int .i64 n) := Fp.out.c 9 rfl
                go_upto_region 11 with (first | (go_at_call 11; refine (HI.out _).mono ?_; rintro e wq0 ⟨rfl, xq0⟩; have kp4 : wq0.cell? ⟨np, 4, none⟩ = some (.int .i64 s) := (Fp.out.ext xq0).c 4 rfl; have kp6 : wq0.cell? ⟨np, 6, none⟩ = some (.int .i64 v0) := (Fp.out.ext xq0).c 6 rfl; have kp7 : wq0.cell? ⟨np, 7, none⟩ = some (.int .i64 v1) := (Fp.out.ext xq0).c 7 rfl; have kp8 : wq0.cell? ⟨np, 8, none⟩ = some (.int .i64 v2) := (Fp.out.ext xq0).c 8 rfl; have kp9 : wq0.cell? ⟨np, 9, none⟩ = some (.int .i64 n) := (Fp.out.ext xq0).c 9 rfl) | (go_at_call 12; refine (HM.out _).mono ?_; rintro e wq1 ⟨rfl, xq1⟩; have m4 : wq1.cell? ⟨np, 4, none⟩ = some (.int .i64 s) := (Fp.out.ext (xq0.trans xq1)).c 4 rfl; have m9 : wq1.cell? ⟨np, 9, none⟩ = some (.int .i64 n) := (Fp.out.ext (xq0.trans xq1)).c 9 rfl) | (go_at_call 13; refine (HZ.out _).mono ?_; rintro e wx ⟨rfl, hwx⟩; have hwy := hwx.symm; clear hwx; subst hwy))
                have Fp : Hid (HV wq1 np [.bool on, .int .i64 x, .int .i64 y, .int .i64 z, .int .i64 s, .bool a, .int .i64 v0, .int .i64 v1, .int .i64 v2, .int .i64 n]) := Fp.out.ext (xq0.trans xq1)
                have Fw : Hid (HV wq1 nw [.bool false, .int .i64 0, .int .i64 0, .int .i64 0, .int .i64 0, .bool false]) := Fw.out.ext (xq0.trans xq1)
                have FX : Hid (Ext w wq1) := FX.out.trans (xq0.trans xq1)
                clear qp0 qp1 qp2 qp3 qp4 qp5 qp6 qp7 qp8 qp9 xq0 xq1 HI HM HZ m4 m9 kp4 kp6 kp7 kp8 kp9
                have qp0 : wq1.cell? ⟨np, 0, none⟩ = some (.bool on) := Fp.out.c 0 rfl
                have qp1 : wq1.cell? ⟨np, 1, none⟩ = some (.int .i64 x) := Fp.out.c 1 rfl
                have qp2 : wq1.cell? ⟨np, 2, none⟩ = some (.int .i64 y) := Fp.out.c 2 rfl
                have qp3 : wq1.cell? ⟨np, 3, none⟩ = some (.int .i64 z) := Fp.out.c 3 rfl
                have qp4 : wq1.cell? ⟨np, 4, none⟩ = some (.int .i64 s) := Fp.out.c 4 rfl
                have qp5 : wq1.cell? ⟨np, 5, none⟩ = some (.bool a) := Fp.out.c 5 rfl
                have qp6 : wq1.cell? ⟨np, 6, none⟩ = some (.int .i64 v0) := Fp.out.c 6 rfl
                have qp7 : wq1.cell? ⟨np, 7, none⟩ = some (.int .i64 v1) := Fp.out.c 7 rfl
                have qp8 : wq1.cell? ⟨np, 8, none⟩ = some (.int .i64 v2) := Fp.out.c 8 rfl
                have qp9 : wq1.cell? ⟨np, 9, none⟩ = some (.int .i64 n) := Fp.out.c 9 rfl
                go_upto_region 12 with (first | (go_at_call 8; refine (HT.out _).mono ?_; rintro e wq3 ⟨rfl, xq3⟩))
                have Fp : Hid (HV wq3 np [.bool on, .int .i64 x, .int .i64 y, .int .i64 z, .int .i64 s, .bool a, .int .i64 v0, .int .i64 v1, .int .i64 v2, .int .i64 n]) := Fp.out.ext xq3
                have Fw : Hid (HV wq3 nw [.bool false, .int .i64 0, .int .i64 0, .int .i64 0, .int .i64 0, .bool false]) := Fw.out.ext xq3
                have FX : Hid (Ext w wq3) := FX.out.trans xq3
                clear qp0 qp1 qp2 qp3 qp4 qp5 qp6 qp7 qp8 qp9 xq3 HT
                have ltpu : np < wq3.heap.size := Fp.out.1
                have ltwu : nw < wq3.heap.size := Fw.out.1
                have Lu : Hid (w.heap.size ≤ wq3.heap.size) := FX.out.size
                have Fp : Hid (HV (wq3.alloc (.cells #[.bool false, .int .i64 0, .int .i64 0, .int .i64 0, .int .i64 0, .bool false] 26)) np [.bool on, .int .i64 x, .int .i64 y, .int .i64 z, .int .i64 s, .bool a, .int .i64 v0, .int .i64 v1, .int .i64 v2, .int .i64 n]) := Fp.out.alloc _
                have Fw : Hid (HV (wq3.alloc (.cells #[.bool false, .int .i64 0, .int .i64 0, .int .i64 0, .int .i64 0, .bool false] 26)) nw [.bool false, .int .i64 0, .int .i64 0, .int .i64 0, .int .i64 0, .bool false]) := Fw.out.alloc _
                have Fu : Hid (HV (wq3.alloc (.cells #[.bool false, .int .i64 0, .int .i64 0, .int .i64 0, .int .i64 0, .bool false] 26)) wq3.heap.size [.bool false, .int .i64 0, .int .i64 0, .int .i64 0, .int .i64 0, .bool false]) := hv_at rfl
                have FX : Hid (Ext w (wq3.alloc (.cells #[.bool false, .int .i64 0, .int .i64 0, .int .i64 0, .int .i64 0, .bool false] 26))) := FX.out.alloc _
                generalize (wq3.alloc (.cells #[.bool false, .int .i64 0, .int .i64 0, .int .i64 0, .int .i64 0, .bool false] 26)) = wx12 at *
                generalize wq3.heap.size = nu at *
                have qu0 : wx12.cell? ⟨nu, 0, none⟩ = some (.bool false) := Fu.out.c 0 rfl
                have qu1 : wx12.cell? ⟨nu, 1, none⟩ = some (.int .i64 0) := Fu.out.c 1 rfl
                have qu2 : wx12.cell? ⟨nu, 2, none⟩ = some (.int .i64 0) := Fu.out.c 2 rfl
                have qu3 : wx12.cell? ⟨nu, 3, none⟩ = some (.int .i64 0) := Fu.out.c 3 rfl
                have qu4 : wx12.cell? ⟨nu, 4, none⟩ = some (.int .i64 0) := Fu.out.c 4 rfl
                have qu5 : wx12.cell? ⟨nu, 5, none⟩ = some (.bool false) := Fu.out.c 5 rfl
                have qw0 : wx12.cell? ⟨nw, 0, none⟩ = some (.bool false) := Fw.out.c 0 rfl
                have qw1 : wx12.cell? ⟨nw, 1, none⟩ = some (.int .i64 0) := Fw.out.c 1 rfl
                have qw2 : wx12.cell? ⟨nw, 2, none⟩ = some (.int .i64 0) := Fw.out.c 2 rfl
                have qw3 : wx12.cell? ⟨nw, 3, none⟩ = some (.int .i64 0) := Fw.out.c 3 rfl
                have qw4 : wx12.cell? ⟨nw, 4, none⟩ = some (.int .i64 0) := Fw.out.c 4 rfl
                have qw5 : wx12.cell? ⟨nw, 5, none⟩ = some (.bool false) := Fw.out.c 5 rfl
                go_wp2_with (go_at_call 9; refine (num19_any _ _).mono ?_; rintro e wx ⟨rfl, hwx⟩; have hwy := hwx.symm; clear hwx; subst hwy)
                go_roundw
                case rel => exact ⟨k + 1, by omega, by go_num, FX⟩
                case measure => simp [intOf]; omega
              · obtain ⟨r0, r1, r2, r3, r4, r5, td, HT0, HG0⟩ := both_told a1 a2 a3 (show s ≤ n by omega)
                have HG : Hid (∀ w, Calls Try.prog 14 #[.agg #[.bool on, .int .i64 x, .int .i64 y, .int .i64 z, .int .i64 s, .bool a], .agg #[.int .i64 v0, .int .i64 v1, .int .i64 v2], .int .i64 n] w fun e w' => e = .returned (.tuple #[.agg #[.bool r0, .int .i64 r1, .int .i64 r2, .int .i64 r3, .int .i64 r4, .bool r5], .bool td]) ∧ Ext w w') := HG0
                rw [a1] at HI
                rw [a2] at HM
                rw [a3] at HZ
                have a5 : decide (s ≤ n) = true := by simp; omega
                clear a1 a2 a3 a4 HG0
                have HT : Hid (∀ w, Calls Try.prog 8 #[.agg #[.bool on, .int .i64 x, .int .i64 y, .int .i64 z, .int .i64 s, .bool a], .agg #[.int .i64 v0, .int .i64 v1, .int .i64 v2], .int .i64 n] w fun e w' => e = .returned (.tuple #[.agg #[.bool r0, .int .i64 r1, .int .i64 r2, .int .i64 r3, .int .i64 r4, .bool r5], .bool td, .int .i64 0]) ∧ Ext w w') := HT0
                clear HT0
                go_upto_region 7 with fail
                have ltpw : np < wx1.heap.size := Fp.out.1
                have Lw : Hid (w.heap.size ≤ wx1.heap.size) := FX.out.size
                have Fp : Hid (HV (wx1.alloc (.cells #[.bool false, .int .i64 0, .int .i64 0, .int .i64 0, .int .i64 0, .bool false] 26)) np [.bool on, .int .i64 x, .int .i64 y, .int .i64 z, .int .i64 s, .bool a, .int .i64 v0, .int .i64 v1, .int .i64 v2, .int .i64 n]) := Fp.out.alloc _
                have Fw : Hid (HV (wx1.alloc (.cells #[.bool false, .int .i64 0, .int .i64 0, .int .i64 0, .int .i64 0, .bool false] 26)) wx1.heap.size [.bool false, .int .i64 0, .int .i64 0, .int .i64 0, .int .i64 0, .bool false]) := hv_at rfl
                have FX : Hid (Ext w (wx1.alloc (.cells #[.bool false, .int .i64 0, .int .i64 0, .int .i64 0, .int .i64 0, .bool false] 26))) := FX.out.alloc _
                generalize (wx1.alloc (.cells #[.bool false, .int .i64 0, .int .i64 0, .int .i64 0, .int .i64 0, .bool false] 26)) = wx11 at *
                generalize wx1.heap.size = nw at *
                have qp0 : wx11.cell? ⟨np, 0, none⟩ = some (.bool on) := Fp.out.c 0 rfl
                have qp1 : wx11.cell? ⟨np, 1, none⟩ = some (.int .i64 x) := Fp.out.c 1 rfl
                have qp2 : wx11.cell? ⟨np, 2, none⟩ = some (.int .i64 y) := Fp.out.c 2 rfl
                have qp3 : wx11.cell? ⟨np, 3, none⟩ = some (.int .i64 z) := Fp.out.c 3 rfl
                have qp4 : wx11.cell? ⟨np, 4, none⟩ = some (.int .i64 s) := Fp.out.c 4 rfl
                have qp5 : wx11.cell? ⟨np, 5, none⟩ = some (.bool a) := Fp.out.c 5 rfl
                have qp6 : wx11.cell? ⟨np, 6, none⟩ = some (.int .i64 v0) := Fp.out.c 6 rfl
                have qp7 : wx11.cell? ⟨np, 7, none⟩ = some (.int .i64 v1) := Fp.out.c 7 rfl
                have qp8 : wx11.cell? ⟨np, 8, none⟩ = some (.int .i64 v2) := Fp.out.c 8 rfl
                have qp9 : wx11.cell? ⟨np, 9, none⟩ = some (.int .i64 n) := Fp.out.c 9 rfl
                go_upto_region 9 with (first | (go_at_call 11; refine (HI.out _).mono ?_; rintro e wq0 ⟨rfl, xq0⟩; have kp4 : wq0.cell? ⟨np, 4, none⟩ = some (.int .i64 s) := (Fp.out.ext xq0).c 4 rfl; have kp6 : wq0.cell? ⟨np, 6, none⟩ = some (.int .i64 v0) := (Fp.out.ext xq0).c 6 rfl; have kp7 : wq0.cell? ⟨np, 7, none⟩ = some (.int .i64 v1) := (Fp.out.ext xq0).c 7 rfl; have kp8 : wq0.cell? ⟨np, 8, none⟩ = some (.int .i64 v2) := (Fp.out.ext xq0).c 8 rfl; have kp9 : wq0.cell? ⟨np, 9, none⟩ = some (.int .i64 n) := (Fp.out.ext xq0).c 9 rfl) | (go_at_call 12; refine (HM.out _).mono ?_; rintro e wq1 ⟨rfl, xq1⟩; have m4 : wq1.cell? ⟨np, 4, none⟩ = some (.int .i64 s) := (Fp.out.ext (xq0.trans xq1)).c 4 rfl; have m9 : wq1.cell? ⟨np, 9, none⟩ = some (.int .i64 n) := (Fp.out.ext (xq0.trans xq1)).c 9 rfl) | (go_at_call 13; refine (HZ.out _).mono ?_; rintro e wx ⟨rfl, hwx⟩; have hwy := hwx.symm; clear hwx; subst hwy))
                have Fp : Hid (HV wq1 np [.bool on, .int .i64 x, .int .i64 y, .int .i64 z, .int .i64 s, .bool a, .int .i64 v0, .int .i64 v1, .int .i64 v2, .int .i64 n]) := Fp.out.ext (xq0.trans xq1)
                have Fw : Hid (HV wq1 nw [.bool false, .int .i64 0, .int .i64 0, .int .i64 0, .int .i64 0, .bool false]) := Fw.out.ext (xq0.trans xq1)
                have FX : Hid (Ext w wq1) := FX.out.trans (xq0.trans xq1)
                clear qp0 qp1 qp2 qp3 qp4 qp5 qp6 qp7 qp8 qp9 xq0 xq1 HI HM HZ m4 m9 kp4 kp6 kp7 kp8 kp9
                have qp0 : wq1.cell? ⟨np, 0, none⟩ = some (.bool on) := Fp.out.c 0 rfl
                have qp1 : wq1.cell? ⟨np, 1, none⟩ = some (.int .i64 x) := Fp.out.c 1 rfl
                have qp2 : wq1.cell? ⟨np, 2, none⟩ = some (.int .i64 y) := Fp.out.c 2 rfl
                have qp3 : wq1.cell? ⟨np, 3, none⟩ = some (.int .i64 z) := Fp.out.c 3 rfl
                have qp4 : wq1.cell? ⟨np, 4, none⟩ = some (.int .i64 s) := Fp.out.c 4 rfl
                have qp5 : wq1.cell? ⟨np, 5, none⟩ = some (.bool a) := Fp.out.c 5 rfl
                have qp6 : wq1.cell? ⟨np, 6, none⟩ = some (.int .i64 v0) := Fp.out.c 6 rfl
                have qp7 : wq1.cell? ⟨np, 7, none⟩ = some (.int .i64 v1) := Fp.out.c 7 rfl
                have qp8 : wq1.cell? ⟨np, 8, none⟩ = some (.int .i64 v2) := Fp.out.c 8 rfl
                have qp9 : wq1.cell? ⟨np, 9, none⟩ = some (.int .i64 n) := Fp.out.c 9 rfl
                go_upto_region 11 with (first | (go_at_call 14; refine (HG.out _).mono ?_; rintro e wq2 ⟨rfl, xq2⟩; have kw0 : wq2.cell? ⟨nw, 0, none⟩ = some (.bool false) := (Fw.out.ext xq2).c 0 rfl; have zw0 : wq2.frozen? ⟨nw, 0, none⟩ = false := (Fw.out.ext xq2).f 0 rfl; have kw1 : wq2.cell? ⟨nw, 1, none⟩ = some (.int .i64 0) := (Fw.out.ext xq2).c 1 rfl; have zw1 : wq2.frozen? ⟨nw, 1, none⟩ = false := (Fw.out.ext xq2).f 1 rfl; have kw2 : wq2.cell? ⟨nw, 2, none⟩ = some (.int .i64 0) := (Fw.out.ext xq2).c 2 rfl; have zw2 : wq2.frozen? ⟨nw, 2, none⟩ = false := (Fw.out.ext xq2).f 2 rfl; have kw3 : wq2.cell? ⟨nw, 3, none⟩ = some (.int .i64 0) := (Fw.out.ext xq2).c 3 rfl; have zw3 : wq2.frozen? ⟨nw, 3, none⟩ = false := (Fw.out.ext xq2).f 3 rfl; have kw4 : wq2.cell? ⟨nw, 4, none⟩ = some (.int .i64 0) := (Fw.out.ext xq2).c 4 rfl; have zw4 : wq2.frozen? ⟨nw, 4, none⟩ = false := (Fw.out.ext xq2).f 4 rfl; have kw5 : wq2.cell? ⟨nw, 5, none⟩ = some (.bool false) := (Fw.out.ext xq2).c 5 rfl; have zw5 : wq2.frozen? ⟨nw, 5, none⟩ = false := (Fw.out.ext xq2).f 5 rfl))
                have Fp : Hid (HV wq2 np [.bool on, .int .i64 x, .int .i64 y, .int .i64 z, .int .i64 s, .bool a, .int .i64 v0, .int .i64 v1, .int .i64 v2, .int .i64 n]) := Fp.out.ext xq2
                have Fw : Hid (HV wq2 nw [.bool false, .int .i64 0, .int .i64 0, .int .i64 0, .int .i64 0, .bool false]) := Fw.out.ext xq2
                have FX : Hid (Ext w wq2) := FX.out.trans xq2
                clear qp0 qp1 qp2 qp3 qp4 qp5 qp6 qp7 qp8 qp9 xq2 HG kw0 kw1 kw2 kw3 kw4 kw5 zw0 zw1 zw2 zw3 zw4 zw5
                have Fp : Hid (HV ((((((wq2.setCell ⟨nw, 0, none⟩ (.bool r0)).setCell ⟨nw, 1, none⟩ (.int .i64 r1)).setCell ⟨nw, 2, none⟩ (.int .i64 r2)).setCell ⟨nw, 3, none⟩ (.int .i64 r3)).setCell ⟨nw, 4, none⟩ (.int .i64 r4)).setCell ⟨nw, 5, none⟩ (.bool r5)) np [.bool on, .int .i64 x, .int .i64 y, .int .i64 z, .int .i64 s, .bool a, .int .i64 v0, .int .i64 v1, .int .i64 v2, .int .i64 n]) := ((((((Fp.out.far (by omega)).far (by omega)).far (by omega)).far (by omega)).far (by omega)).far (by omega))
                have Fw : Hid (HV ((((((wq2.setCell ⟨nw, 0, none⟩ (.bool r0)).setCell ⟨nw, 1, none⟩ (.int .i64 r1)).setCell ⟨nw, 2, none⟩ (.int .i64 r2)).setCell ⟨nw, 3, none⟩ (.int .i64 r3)).setCell ⟨nw, 4, none⟩ (.int .i64 r4)).setCell ⟨nw, 5, none⟩ (.bool r5)) nw [.bool r0, .int .i64 r1, .int .i64 r2, .int .i64 r3, .int .i64 r4, .bool r5]) := ((((((Fw.out.set 0 (.bool r0)).set 1 (.int .i64 r1)).set 2 (.int .i64 r2)).set 3 (.int .i64 r3)).set 4 (.int .i64 r4)).set 5 (.bool r5))
                have FX : Hid (Ext w ((((((wq2.setCell ⟨nw, 0, none⟩ (.bool r0)).setCell ⟨nw, 1, none⟩ (.int .i64 r1)).setCell ⟨nw, 2, none⟩ (.int .i64 r2)).setCell ⟨nw, 3, none⟩ (.int .i64 r3)).setCell ⟨nw, 4, none⟩ (.int .i64 r4)).setCell ⟨nw, 5, none⟩ (.bool r5))) := ((((((FX.out.set (p := ⟨nw, 0, none⟩) Lw.out (.bool r0)).set (p := ⟨nw, 1, none⟩) Lw.out (.int .i64 r1)).set (p := ⟨nw, 2, none⟩) Lw.out (.int .i64 r2)).set (p := ⟨nw, 3, none⟩) Lw.out (.int .i64 r3)).set (p := ⟨nw, 4, none⟩) Lw.out (.int .i64 r4)).set (p := ⟨nw, 5, none⟩) Lw.out (.bool r5))
                generalize ((((((wq2.setCell ⟨nw, 0, none⟩ (.bool r0)).setCell ⟨nw, 1, none⟩ (.int .i64 r1)).setCell ⟨nw, 2, none⟩ (.int .i64 r2)).setCell ⟨nw, 3, none⟩ (.int .i64 r3)).setCell ⟨nw, 4, none⟩ (.int .i64 r4)).setCell ⟨nw, 5, none⟩ (.bool r5)) = wx12 at *
                have qp0 : wx12.cell? ⟨np, 0, none⟩ = some (.bool on) := Fp.out.c 0 rfl
                have qp1 : wx12.cell? ⟨np, 1, none⟩ = some (.int .i64 x) := Fp.out.c 1 rfl
                have qp2 : wx12.cell? ⟨np, 2, none⟩ = some (.int .i64 y) := Fp.out.c 2 rfl
                have qp3 : wx12.cell? ⟨np, 3, none⟩ = some (.int .i64 z) := Fp.out.c 3 rfl
                have qp4 : wx12.cell? ⟨np, 4, none⟩ = some (.int .i64 s) := Fp.out.c 4 rfl
                have qp5 : wx12.cell? ⟨np, 5, none⟩ = some (.bool a) := Fp.out.c 5 rfl
                have qp6 : wx12.cell? ⟨np, 6, none⟩ = some (.int .i64 v0) := Fp.out.c 6 rfl
                have qp7 : wx12.cell? ⟨np, 7, none⟩ = some (.int .i64 v1) := Fp.out.c 7 rfl
                have qp8 : wx12.cell? ⟨np, 8, none⟩ = some (.int .i64 v2) := Fp.out.c 8 rfl
                have qp9 : wx12.cell? ⟨np, 9, none⟩ = some (.int .i64 n) := Fp.out.c 9 rfl
                go_upto_region 12 with (first | (go_at_call 8; refine (HT.out _).mono ?_; rintro e wq3 ⟨rfl, xq3⟩))
                have Fp : Hid (HV wq3 np [.bool on, .int .i64 x, .int .i64 y, .int .i64 z, .int .i64 s, .bool a, .int .i64 v0, .int .i64 v1, .int .i64 v2, .int .i64 n]) := Fp.out.ext xq3
                have Fw : Hid (HV wq3 nw [.bool r0, .int .i64 r1, .int .i64 r2, .int .i64 r3, .int .i64 r4, .bool r5]) := Fw.out.ext xq3
                have FX : Hid (Ext w wq3) := FX.out.trans xq3
                clear qp0 qp1 qp2 qp3 qp4 qp5 qp6 qp7 qp8 qp9 xq3 HT
                have ltpu : np < wq3.heap.size := Fp.out.1
                have ltwu : nw < wq3.heap.size := Fw.out.1
                have Lu : Hid (w.heap.size ≤ wq3.heap.size) := FX.out.size
                have Fp : Hid (HV (wq3.alloc (.cells #[.bool r0, .int .i64 r1, .int .i64 r2, .int .i64 r3, .int .i64 r4, .bool r5] 26)) np [.bool on, .int .i64 x, .int .i64 y, .int .i64 z, .int .i64 s, .bool a, .int .i64 v0, .int .i64 v1, .int .i64 v2, .int .i64 n]) := Fp.out.alloc _
                have Fw : Hid (HV (wq3.alloc (.cells #[.bool r0, .int .i64 r1, .int .i64 r2, .int .i64 r3, .int .i64 r4, .bool r5] 26)) nw [.bool r0, .int .i64 r1, .int .i64 r2, .int .i64 r3, .int .i64 r4, .bool r5]) := Fw.out.alloc _
                have Fu : Hid (HV (wq3.alloc (.cells #[.bool r0, .int .i64 r1, .int .i64 r2, .int .i64 r3, .int .i64 r4, .bool r5] 26)) wq3.heap.size [.bool r0, .int .i64 r1, .int .i64 r2, .int .i64 r3, .int .i64 r4, .bool r5]) := hv_at rfl
                have FX : Hid (Ext w (wq3.alloc (.cells #[.bool r0, .int .i64 r1, .int .i64 r2, .int .i64 r3, .int .i64 r4, .bool r5] 26))) := FX.out.alloc _
                generalize (wq3.alloc (.cells #[.bool r0, .int .i64 r1, .int .i64 r2, .int .i64 r3, .int .i64 r4, .bool r5] 26)) = wx13 at *
                generalize wq3.heap.size = nu at *
                have qu0 : wx13.cell? ⟨nu, 0, none⟩ = some (.bool r0) := Fu.out.c 0 rfl
                have qu1 : wx13.cell? ⟨nu, 1, none⟩ = some (.int .i64 r1) := Fu.out.c 1 rfl
                have qu2 : wx13.cell? ⟨nu, 2, none⟩ = some (.int .i64 r2) := Fu.out.c 2 rfl
                have qu3 : wx13.cell? ⟨nu, 3, none⟩ = some (.int .i64 r3) := Fu.out.c 3 rfl
                have qu4 : wx13.cell? ⟨nu, 4, none⟩ = some (.int .i64 r4) := Fu.out.c 4 rfl
                have qu5 : wx13.cell? ⟨nu, 5, none⟩ = some (.bool r5) := Fu.out.c 5 rfl
                have qw0 : wx13.cell? ⟨nw, 0, none⟩ = some (.bool r0) := Fw.out.c 0 rfl
                have qw1 : wx13.cell? ⟨nw, 1, none⟩ = some (.int .i64 r1) := Fw.out.c 1 rfl
                have qw2 : wx13.cell? ⟨nw, 2, none⟩ = some (.int .i64 r2) := Fw.out.c 2 rfl
                have qw3 : wx13.cell? ⟨nw, 3, none⟩ = some (.int .i64 r3) := Fw.out.c 3 rfl
                have qw4 : wx13.cell? ⟨nw, 4, none⟩ = some (.int .i64 r4) := Fw.out.c 4 rfl
                have qw5 : wx13.cell? ⟨nw, 5, none⟩ = some (.bool r5) := Fw.out.c 5 rfl
                go_wp2_with (go_at_call 9; refine (num19_any _ _).mono ?_; rintro e wx ⟨rfl, hwx⟩; have hwy := hwx.symm; clear hwx; subst hwy)
                go_roundw
                case rel => exact ⟨k + 1, by omega, by go_num, FX⟩
                case measure => simp [intOf]; omega
      · go_wp2_with fail
        refine (wakes19_any _).mono ?_
        rintro e w1 ⟨rfl, x1⟩
        have E1 : Ext w w1 := FX.out.trans x1
        go_wp2_with fail
        go_ret
        exact ⟨rfl, E1⟩
    · have hk' : k = len := by omega
      subst hk'
      go_wp2_with fail
      refine (wakes19_any _).mono ?_
      rintro e w1 ⟨rfl, x1⟩
      have E1 : Ext w w1 := FX.out.trans x1
      go_wp2_with fail
      go_ret
      exact ⟨rfl, E1⟩
set_option maxRecDepth 20000 in
set_option maxHeartbeats 4000000 in
theorem tiltexact_none (a : Option Addr) (cap : Nat) (w : World) :
    Calls Try.prog 4 #[.slice a 0 cap] w fun e w' => e = .returned (.bool true) ∧ Ext w w' := by
  go_enter Try.func4, Try.ntmps4
  go_wp2_with fail
  go_loopw [3] (fun i wr => i = .int .i64 0 ∧ Hid (Ext w wr)) (fun _ _ => 0)
  case atStart => exact ⟨rfl, Ext.refl _⟩
  case round =>
    obtain ⟨rfl, FX⟩ := hrel
    go_wp2_with fail
    refine (wakes19_any _).mono ?_
    rintro e w1 ⟨rfl, x1⟩
    have E1 : Ext w w1 := FX.out.trans x1
    go_wp2_with fail
    go_ret
    exact ⟨rfl, E1⟩
end Go.Proofs.Ytbmocnigmpmfkaa
