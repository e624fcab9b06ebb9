/- LowBetween. -/
import Derived.Test.YtbbnbpghhdmhaaaLo3
import Derived.Deep.Cut
import Derived.Deep.DeepCutAuto
namespace Go.Proofs.Ytbbnbpghhdmhaaa
open Go.RowKit Go.Shelf
theorem lw_zero (y v : Int) : lw 0 y v = v := by
  have h := lw_near 0 y v (by decide) (by decide)
  have e : pw 0 = 1 := by decide
  rw [e] at h
  refine h.unique (by decide) ?_
  unfold IsNear
  omega
theorem lw_same (s y : Int) (h1 : 0 ≤ s) (h2 : s ≤ 15) : lw s y y = y := by
  have h := lw_near s y y h1 h2
  have hp := pw_bounds h1 h2
  refine h.unique (by omega) ?_
  have e : (pw s - 1) * y + y - y * pw s = 0 := by grind
  unfold IsNear
  omega
theorem lw_neg (s y v : Int) (h1 : 0 ≤ s) (h2 : s ≤ 15) : lw s (-y) (-v) = -lw s y v := by
  have h := lw_near s (-y) (-v) h1 h2
  have hp := pw_bounds h1 h2
  refine h.unique (by omega) ?_
  have e : (pw s - 1) * -y + -v = -((pw s - 1) * y + v) := by grind
  rw [e]
  exact (lw_near s y v h1 h2).neg
theorem okA_parts {y0 y1 y2 s v0 v1 v2 : Int} (h : okA y0 y1 y2 s v0 v1 v2 = true) : okSh s = true ∧ ok3 y0 y1 y2 = true ∧ ok3 v0 v1 v2 = true := by
  unfold okA at h; simp only [Bool.and_eq_true] at h; exact ⟨h.1.1, h.1.2, h.2⟩
theorem otake_on (y0 y1 y2 s v0 v1 v2 : Int) (w : World) (h : okA y0 y1 y2 s v0 v1 v2 = true) : Calls Try.prog 8 #[.agg #[.bool true, .int .i64 y0, .int .i64 y1, .int .i64 y2], .int .i64 s, .agg #[.int .i64 v0, .int .i64 v1, .int .i64 v2]] w fun e w' => e = .returned (.tuple #[.agg #[.bool true, .int .i64 (lw s y0 v0), .int .i64 (lw s y1 v1), .int .i64 (lw s y2 v2)], .int .i64 0]) ∧ Ext w w' := by
  have k := otake_any true y0 y1 y2 s v0 v1 v2 w
  obtain ⟨a, b, c⟩ := okA_parts h
  have e : takeO true y0 y1 y2 s v0 v1 v2 = .tuple #[.agg #[.bool true, .int .i64 (lw s y0 v0), .int .i64 (lw s y1 v1), .int .i64 (lw s y2 v2)], .int .i64 0] := by unfold takeO; rw [a, b, c]; rfl
  rw [e] at k
  exact k
theorem otake_off (y0 y1 y2 s v0 v1 v2 : Int) (w : World) (h : okA y0 y1 y2 s v0 v1 v2 = true) : Calls Try.prog 8 #[.agg #[.bool false, .int .i64 y0, .int .i64 y1, .int .i64 y2], .int .i64 s, .agg #[.int .i64 v0, .int .i64 v1, .int .i64 v2]] w fun e w' => e = .returned (.tuple #[.agg #[.bool true, .int .i64 v0, .int .i64 v1, .int .i64 v2], .int .i64 0]) ∧ Ext w w' := by
  have k := otake_any false y0 y1 y2 s v0 v1 v2 w
  obtain ⟨a, b, c⟩ := okA_parts h
  have e : takeO false y0 y1 y2 s v0 v1 v2 = .tuple #[.agg #[.bool true, .int .i64 v0, .int .i64 v1, .int .i64 v2], .int .i64 0] := by unfold takeO; rw [a, b, c]; rfl
  rw [e] at k
  exact k
theorem okA_of {y0 y1 y2 s v0 v1 v2 : Int} (a : okSh s = true) (b : ok3 y0 y1 y2 = true) (c : ok3 v0 v1 v2 = true) : okA y0 y1 y2 s v0 v1 v2 = true := by
  unfold okA; rw [a, b, c]; rfl
theorem ok3_neg {a b c : Int} (h : ok3 a b c = true) : ok3 (-a) (-b) (-c) = true := by
  obtain ⟨k0, k1, k2⟩ := ok3_parts h
  have g0 := okW_bounds k0
  have g1 := okW_bounds k1
  have g2 := okW_bounds k2
  unfold ok3; rw [okW_in (by omega) (by omega), okW_in (by omega) (by omega), okW_in (by omega) (by omega)]; rfl
/-- all that is told of the calls of one round -/
theorem between_told (y0 y1 y2 s v0 v1 v2 : Int) (h : okA y0 y1 y2 s v0 v1 v2 = true) : ∃ r0 r1 r2 m0 m1 m2 l0 l1 l2 n0 n1 n2 : Int,
    (∀ w, Calls Try.prog 8 #[.agg #[.bool true, .int .i64 y0, .int .i64 y1, .int .i64 y2], .int .i64 s, .agg #[.int .i64 v0, .int .i64 v1, .int .i64 v2]] w fun e w' => e = .returned (.tuple #[.agg #[.bool true, .int .i64 r0, .int .i64 r1, .int .i64 r2], .int .i64 0]) ∧ Ext w w') ∧
    (∀ w, Calls Try.prog 8 #[.agg #[.bool true, .int .i64 y0, .int .i64 y1, .int .i64 y2], .int .i64 0, .agg #[.int .i64 v0, .int .i64 v1, .int .i64 v2]] w fun e w' => e = .returned (.tuple #[.agg #[.bool true, .int .i64 v0, .int .i64 v1, .int .i64 v2], .int .i64 0]) ∧ Ext w w') ∧
    (∀ w, Calls Try.prog 8 #[.agg #[.bool false, .int .i64 0, .int .i64 0, .int .i64 0], .int .i64 s, .agg #[.int .i64 v0, .int .i64 v1, .int .i64 v2]] w fun e w' => e = .returned (.tuple #[.agg #[.bool true, .int .i64 v0, .int .i64 v1, .int .i64 v2], .int .i64 0]) ∧ Ext w w') ∧
    (∀ w, Calls Try.prog 8 #[.agg #[.bool true, .int .i64 y0, .int .i64 y1, .int .i64 y2], .int .i64 s, .agg #[.int .i64 y0, .int .i64 y1, .int .i64 y2]] w fun e w' => e = .returned (.tuple #[.agg #[.bool true, .int .i64 y0, .int .i64 y1, .int .i64 y2], .int .i64 0]) ∧ Ext w w') ∧
    (∀ w, Calls Try.prog 8 #[.agg #[.bool true, .int .i64 m0, .int .i64 m1, .int .i64 m2], .int .i64 s, .agg #[.int .i64 l0, .int .i64 l1, .int .i64 l2]] w fun e w' => e = .returned (.tuple #[.agg #[.bool true, .int .i64 n0, .int .i64 n1, .int .i64 n2], .int .i64 0]) ∧ Ext w w') ∧
    (∀ w, Calls Try.prog 12 #[.agg #[.int .i64 y0, .int .i64 y1, .int .i64 y2]] w fun e w' => e = .returned (.agg #[.int .i64 m0, .int .i64 m1, .int .i64 m2]) ∧ Ext w w') ∧
    (∀ w, Calls Try.prog 12 #[.agg #[.int .i64 v0, .int .i64 v1, .int .i64 v2]] w fun e w' => e = .returned (.agg #[.int .i64 l0, .int .i64 l1, .int .i64 l2]) ∧ Ext w w') ∧
    (∀ w, Calls Try.prog 12 #[.agg #[.int .i64 r0, .int .i64 r1, .int .i64 r2]] w fun e w' => e = .returned (.agg #[.int .i64 n0, .int .i64 n1, .int .i64 n2]) ∧ Ext w w') ∧
    (∀ w, Calls Try.prog 11 #[.int .i64 r0, .int .i64 y0, .int .i64 v0] w fun e w' => e = .returned (.bool true) ∧ w' = w) ∧
    (∀ w, Calls Try.prog 11 #[.int .i64 r1, .int .i64 y1, .int .i64 v1] w fun e w' => e = .returned (.bool true) ∧ w' = w) ∧
    (∀ w, Calls Try.prog 11 #[.int .i64 r2, .int .i64 y2, .int .i64 v2] w fun e w' => e = .returned (.bool true) ∧ w' = w) := by
  obtain ⟨a, b, c⟩ := okA_parts h
  obtain ⟨a1, a2⟩ := okSh_iff.1 a
  obtain ⟨b0, b1, b2⟩ := ok3_parts b
  obtain ⟨c0, c1, c2⟩ := ok3_parts c
  have hr : ok3 (lw s y0 v0) (lw s y1 v1) (lw s y2 v2) = true := by unfold ok3; rw [lw_ok s y0 v0 a b0 c0, lw_ok s y1 v1 a b1 c1, lw_ok s y2 v2 a b2 c2]; rfl
  have bt : ∀ (y v : Int), (y ≤ lw s y v ∨ v ≤ lw s y v) ∧ (lw s y v ≤ y ∨ lw s y v ≤ v) := fun y v => by
    have := lw_between s y v (min y v) (max y v) a1 a2 (by omega) (by omega) (by omega) (by omega)
    omega
  refine ⟨_, _, _, -y0, -y1, -y2, -v0, -v1, -v2, -lw s y0 v0, -lw s y1 v1, -lw s y2 v2, fun w => otake_on _ _ _ _ _ _ _ w h, fun w => ?_, fun w => otake_off 0 0 0 _ _ _ _ w (okA_of a (by decide) c), fun w => ?_, fun w => ?_, fun w => neg_any _ _ _ w b, fun w => neg_any _ _ _ w c, fun w => neg_any _ _ _ w hr, fun w => between_true _ _ _ w (bt y0 v0).1 (bt y0 v0).2, fun w => between_true _ _ _ w (bt y1 v1).1 (bt y1 v1).2, fun w => between_true _ _ _ w (bt y2 v2).1 (bt y2 v2).2⟩
  · have k := otake_on y0 y1 y2 0 v0 v1 v2 w (okA_of (by decide) b c)
    rw [lw_zero, lw_zero, lw_zero] at k
    exact k
  · have k := otake_on y0 y1 y2 s y0 y1 y2 w (okA_of a b b)
    rw [lw_same s y0 a1 a2, lw_same s y1 a1 a2, lw_same s y2 a1 a2] at k
    exact k
  · have k := otake_on (-y0) (-y1) (-y2) s (-v0) (-v1) (-v2) w (okA_of a (ok3_neg b) (ok3_neg c))
    rw [lw_neg s y0 v0 a1 a2, lw_neg s y1 v1 a1 a2, lw_neg s y2 v2 a1 a2] at k
    exact k
set_option maxRecDepth 20000 in
set_option maxHeartbeats 40000000 in
theorem lowbetween_any (b off len cap : Nat) (C : Nat → Nat → Value) (w : World) (hl : len ≤ maxLen) (hc : ML 8 (fun j => j == 0) w b off len C) :
    Calls Try.prog 4 #[.slice (some ⟨b, off, none⟩) len cap] w fun e w' => e = .returned (.bool true) ∧ Ext w w' := by
  have hl' : len ≤ 9223372036854775807 := by unfold maxLen at hl; omega
  clear hl
  go_enter Try.func4, Try.ntmps4
  go_wp2_with fail
  go_loopw [3] (fun i wr => ∃ k : Nat, k ≤ len ∧ i = .int .i64 k ∧ Hid (Ext w wr)) (fun i _ => len - (intOf i).toNat)
  case atStart => exact ⟨0, Nat.zero_le _, rfl, Ext.refl _⟩
  case round =>
    obtain ⟨k, hk, rfl, FX⟩ := hrel
    by_cases hlt : k < len
    · by_cases h5 : k < 30
      · skip
        obtain ⟨on, c0⟩ := (hc.ext FX.out).bool hlt (j := 0) (by omega) rfl
        rw [Nat.add_zero] at c0
        obtain ⟨y0, c1, _⟩ := (hc.ext FX.out).num hlt (j := 1) (by omega) rfl
        obtain ⟨y1, c2, _⟩ := (hc.ext FX.out).num hlt (j := 2) (by omega) rfl
        obtain ⟨y2, c3, _⟩ := (hc.ext FX.out).num hlt (j := 3) (by omega) rfl
        obtain ⟨s, c4, _⟩ := (hc.ext FX.out).num hlt (j := 4) (by omega) rfl
        obtain ⟨v0, c5, _⟩ := (hc.ext FX.out).num hlt (j := 5) (by omega) rfl
        obtain ⟨v1, c6, _⟩ := (hc.ext FX.out).num hlt (j := 6) (by omega) rfl
        obtain ⟨v2, c7, _⟩ := (hc.ext FX.out).num hlt (j := 7) (by omega) rfl
        have hlt' : (k : Int) < (len : Int) := by omega
        clear hc
        go_upto_region 5 with fail
        clear c0 c1 c2 c3 c4 c5 c6 c7
        have Lp : Hid (w.heap.size ≤ wr.heap.size) := FX.out.size
        have Fp : Hid (HV (wr.alloc (.cells #[.bool on, .int .i64 y0, .int .i64 y1, .int .i64 y2, .int .i64 s, .int .i64 v0, .int .i64 v1, .int .i64 v2] 28)) wr.heap.size [.bool on, .int .i64 y0, .int .i64 y1, .int .i64 y2, .int .i64 s, .int .i64 v0, .int .i64 v1, .int .i64 v2]) := hv_at rfl
        have FX : Hid (Ext w (wr.alloc (.cells #[.bool on, .int .i64 y0, .int .i64 y1, .int .i64 y2, .int .i64 s, .int .i64 v0, .int .i64 v1, .int .i64 v2] 28))) := FX.out.alloc _
        generalize (wr.alloc (.cells #[.bool on, .int .i64 y0, .int .i64 y1, .int .i64 y2, .int .i64 s, .int .i64 v0, .int .i64 v1, .int .i64 v2] 28)) = wx1 at *
        generalize wr.heap.size = np at *
        have HM : Hid (∀ w, Calls Try.prog 6 #[.agg #[.bool on, .int .i64 y0, .int .i64 y1, .int .i64 y2, .int .i64 s, .int .i64 v0, .int .i64 v1, .int .i64 v2]] w fun e w' => e = .returned (.bool (okA y0 y1 y2 s v0 v1 v2)) ∧ Ext w w') := may12_any _ _ _ _ _ _ _ _
        cases ho : okA y0 y1 y2 s v0 v1 v2
        · rw [ho] at HM
          clear ho
          have qp0 : wx1.cell? ⟨np, 0, none⟩ = some (.bool on) := Fp.out.c 0 rfl
          have qp1 : wx1.cell? ⟨np, 1, none⟩ = some (.int .i64 y0) := Fp.out.c 1 rfl
          have qp2 : wx1.cell? ⟨np, 2, none⟩ = some (.int .i64 y1) := Fp.out.c 2 rfl
          have qp3 : wx1.cell? ⟨np, 3, none⟩ = some (.int .i64 y2) := Fp.out.c 3 rfl
          have qp4 : wx1.cell? ⟨np, 4, none⟩ = some (.int .i64 s) := Fp.out.c 4 rfl
          have qp5 : wx1.cell? ⟨np, 5, none⟩ = some (.int .i64 v0) := Fp.out.c 5 rfl
          have qp6 : wx1.cell? ⟨np, 6, none⟩ = some (.int .i64 v1) := Fp.out.c 6 rfl
          have qp7 : wx1.cell? ⟨np, 7, none⟩ = some (.int .i64 v2) := Fp.out.c 7 rfl
          go_wp2_with fail
          refine (HM.out _).mono ?_
          rintro e wq0 ⟨rfl, xq0⟩
          have Fp : Hid (HV wq0 np [.bool on, .int .i64 y0, .int .i64 y1, .int .i64 y2, .int .i64 s, .int .i64 v0, .int .i64 v1, .int .i64 v2]) := Fp.out.ext xq0
          have FX : Hid (Ext w wq0) := FX.out.trans xq0
          clear qp0 qp1 qp2 qp3 qp4 qp5 qp6 qp7 xq0 HM
          go_wp2_with fail
          go_roundw
          case rel => exact ⟨k + 1, by omega, by go_num, FX⟩
          case measure => simp [intOf]; omega
        · obtain ⟨r0, r1, r2, m0, m1, m2, l0, l1, l2, n0, n1, n2, T1, T2, T3, T4, T5, G1, G2, G3, E0, E1, E2⟩ := between_told y0 y1 y2 s v0 v1 v2 ho
          rw [ho] at HM
          have T1 : Hid (∀ w, Calls Try.prog 8 #[.agg #[.bool true, .int .i64 y0, .int .i64 y1, .int .i64 y2], .int .i64 s, .agg #[.int .i64 v0, .int .i64 v1, .int .i64 v2]] w fun e w' => e = .returned (.tuple #[.agg #[.bool true, .int .i64 r0, .int .i64 r1, .int .i64 r2], .int .i64 0]) ∧ Ext w w') := T1
          have T2 : Hid (∀ w, Calls Try.prog 8 #[.agg #[.bool true, .int .i64 y0, .int .i64 y1, .int .i64 y2], .int .i64 0, .agg #[.int .i64 v0, .int .i64 v1, .int .i64 v2]] w fun e w' => e = .returned (.tuple #[.agg #[.bool true, .int .i64 v0, .int .i64 v1, .int .i64 v2], .int .i64 0]) ∧ Ext w w') := T2
          have T3 : Hid (∀ w, Calls Try.prog 8 #[.agg #[.bool false, .int .i64 0, .int .i64 0, .int .i64 0], .int .i64 s, .agg #[.int .i64 v0, .int .i64 v1, .int .i64 v2]] w fun e w' => e = .returned (.tuple #[.agg #[.bool true, .int .i64 v0, .int .i64 v1, .int .i64 v2], .int .i64 0]) ∧ Ext w w') := T3
          have T4 : Hid (∀ w, Calls Try.prog 8 #[.agg #[.bool true, .int .i64 y0, .int .i64 y1, .int .i64 y2], .int .i64 s, .agg #[.int .i64 y0, .int .i64 y1, .int .i64 y2]] w fun e w' => e = .returned (.tuple #[.agg #[.bool true, .int .i64 y0, .int .i64 y1, .int .i64 y2], .int .i64 0]) ∧ Ext w w') := T4
          have T5 : Hid (∀ w, Calls Try.prog 8 #[.agg #[.bool true, .int .i64 m0, .int .i64 m1, .int .i64 m2], .int .i64 s, .agg #[.int .i64 l0, .int .i64 l1, .int .i64 l2]] w fun e w' => e = .returned (.tuple #[.agg #[.bool true, .int .i64 n0, .int .i64 n1, .int .i64 n2], .int .i64 0]) ∧ Ext w w') := T5
          have G1 : Hid (∀ w, Calls Try.prog 12 #[.agg #[.int .i64 y0, .int .i64 y1, .int .i64 y2]] w fun e w' => e = .returned (.agg #[.int .i64 m0, .int .i64 m1, .int .i64 m2]) ∧ Ext w w') := G1
          have G2 : Hid (∀ w, Calls Try.prog 12 #[.agg #[.int .i64 v0, .int .i64 v1, .int .i64 v2]] w fun e w' => e = .returned (.agg #[.int .i64 l0, .int .i64 l1, .int .i64 l2]) ∧ Ext w w') := G2
          have G3 : Hid (∀ w, Calls Try.prog 12 #[.agg #[.int .i64 r0, .int .i64 r1, .int .i64 r2]] w fun e w' => e = .returned (.agg #[.int .i64 n0, .int .i64 n1, .int .i64 n2]) ∧ Ext w w') := G3
          have E0 : Hid (∀ w, Calls Try.prog 11 #[.int .i64 r0, .int .i64 y0, .int .i64 v0] w fun e w' => e = .returned (.bool true) ∧ w' = w) := E0
          have E1 : Hid (∀ w, Calls Try.prog 11 #[.int .i64 r1, .int .i64 y1, .int .i64 v1] w fun e w' => e = .returned (.bool true) ∧ w' = w) := E1
          have E2 : Hid (∀ w, Calls Try.prog 11 #[.int .i64 r2, .int .i64 y2, .int .i64 v2] w fun e w' => e = .returned (.bool true) ∧ w' = w) := E2
          clear ho
          have qp0 : wx1.cell? ⟨np, 0, none⟩ = some (.bool on) := Fp.out.c 0 rfl
          have qp1 : wx1.cell? ⟨np, 1, none⟩ = some (.int .i64 y0) := Fp.out.c 1 rfl
          have qp2 : wx1.cell? ⟨np, 2, none⟩ = some (.int .i64 y1) := Fp.out.c 2 rfl
          have qp3 : wx1.cell? ⟨np, 3, none⟩ = some (.int .i64 y2) := Fp.out.c 3 rfl
          have qp4 : wx1.cell? ⟨np, 4, none⟩ = some (.int .i64 s) := Fp.out.c 4 rfl
          have qp5 : wx1.cell? ⟨np, 5, none⟩ = some (.int .i64 v0) := Fp.out.c 5 rfl
          have qp6 : wx1.cell? ⟨np, 6, none⟩ = some (.int .i64 v1) := Fp.out.c 6 rfl
          have qp7 : wx1.cell? ⟨np, 7, none⟩ = some (.int .i64 v2) := Fp.out.c 7 rfl
          go_upto_region 6 with (first | (go_at_call 6; refine (HM.out _).mono ?_; rintro e wq0 ⟨rfl, xq0⟩))
          have Fp : Hid (HV wq0 np [.bool on, .int .i64 y0, .int .i64 y1, .int .i64 y2, .int .i64 s, .int .i64 v0, .int .i64 v1, .int .i64 v2]) := Fp.out.ext xq0
          have FX : Hid (Ext w wq0) := FX.out.trans xq0
          clear qp0 qp1 qp2 qp3 qp4 qp5 qp6 qp7 xq0 HM
          have qp1 : wq0.cell? ⟨np, 1, none⟩ = some (.int .i64 y0) := Fp.out.c 1 rfl
          have qp2 : wq0.cell? ⟨np, 2, none⟩ = some (.int .i64 y1) := Fp.out.c 2 rfl
          have qp3 : wq0.cell? ⟨np, 3, none⟩ = some (.int .i64 y2) := Fp.out.c 3 rfl
          go_upto_region 7 with fail
          clear qp1 qp2 qp3
          have ltpx : np < wq0.heap.size := Fp.out.1
          have Lx : Hid (w.heap.size ≤ wq0.heap.size) := FX.out.size
          have Fp : Hid (HV (wq0.alloc (.cells #[.bool true, .int .i64 y0, .int .i64 y1, .int .i64 y2] 26)) np [.bool on, .int .i64 y0, .int .i64 y1, .int .i64 y2, .int .i64 s, .int .i64 v0, .int .i64 v1, .int .i64 v2]) := Fp.out.alloc _
          have Fx : Hid (HV (wq0.alloc (.cells #[.bool true, .int .i64 y0, .int .i64 y1, .int .i64 y2] 26)) wq0.heap.size [.bool true, .int .i64 y0, .int .i64 y1, .int .i64 y2]) := hv_at rfl
          have FX : Hid (Ext w (wq0.alloc (.cells #[.bool true, .int .i64 y0, .int .i64 y1, .int .i64 y2] 26))) := FX.out.alloc _
          generalize (wq0.alloc (.cells #[.bool true, .int .i64 y0, .int .i64 y1, .int .i64 y2] 26)) = wx1 at *
          generalize wq0.heap.size = nx at *
          have qx0 : wx1.cell? ⟨nx, 0, none⟩ = some (.bool true) := Fx.out.c 0 rfl
          have qx1 : wx1.cell? ⟨nx, 1, none⟩ = some (.int .i64 y0) := Fx.out.c 1 rfl
          have qx2 : wx1.cell? ⟨nx, 2, none⟩ = some (.int .i64 y1) := Fx.out.c 2 rfl
          have qx3 : wx1.cell? ⟨nx, 3, none⟩ = some (.int .i64 y2) := Fx.out.c 3 rfl
          have qp4 : wx1.cell? ⟨np, 4, none⟩ = some (.int .i64 s) := Fp.out.c 4 rfl
          have qp5 : wx1.cell? ⟨np, 5, none⟩ = some (.int .i64 v0) := Fp.out.c 5 rfl
          have qp6 : wx1.cell? ⟨np, 6, none⟩ = some (.int .i64 v1) := Fp.out.c 6 rfl
          have qp7 : wx1.cell? ⟨np, 7, none⟩ = some (.int .i64 v2) := Fp.out.c 7 rfl
          go_upto_region 8 with (first | (go_at_call 8; refine (T1.out _).mono ?_; rintro e wq1 ⟨rfl, xq1⟩))
          have Fp : Hid (HV wq1 np [.bool on, .int .i64 y0, .int .i64 y1, .int .i64 y2, .int .i64 s, .int .i64 v0, .int .i64 v1, .int .i64 v2]) := Fp.out.ext xq1
          have Fx : Hid (HV wq1 nx [.bool true, .int .i64 y0, .int .i64 y1, .int .i64 y2]) := Fx.out.ext xq1
          have FX : Hid (Ext w wq1) := FX.out.trans xq1
          clear qx0 qx1 qx2 qx3 qp4 qp5 qp6 qp7 xq1 T1
          have ltpu : np < wq1.heap.size := Fp.out.1
          have ltxu : nx < wq1.heap.size := Fx.out.1
          have Lu : Hid (w.heap.size ≤ wq1.heap.size) := FX.out.size
          have Fp : Hid (HV (wq1.alloc (.cells #[.bool true, .int .i64 r0, .int .i64 r1, .int .i64 r2] 26)) np [.bool on, .int .i64 y0, .int .i64 y1, .int .i64 y2, .int .i64 s, .int .i64 v0, .int .i64 v1, .int .i64 v2]) := Fp.out.alloc _
          have Fx : Hid (HV (wq1.alloc (.cells #[.bool true, .int .i64 r0, .int .i64 r1, .int .i64 r2] 26)) nx [.bool true, .int .i64 y0, .int .i64 y1, .int .i64 y2]) := Fx.out.alloc _
          have Fu : Hid (HV (wq1.alloc (.cells #[.bool true, .int .i64 r0, .int .i64 r1, .int .i64 r2] 26)) wq1.heap.size [.bool true, .int .i64 r0, .int .i64 r1, .int .i64 r2]) := hv_at rfl
          have FX : Hid (Ext w (wq1.alloc (.cells #[.bool true, .int .i64 r0, .int .i64 r1, .int .i64 r2] 26))) := FX.out.alloc _
          generalize (wq1.alloc (.cells #[.bool true, .int .i64 r0, .int .i64 r1, .int .i64 r2] 26)) = wx2 at *
          generalize wq1.heap.size = nu at *
          have qu0 : wx2.cell? ⟨nu, 0, none⟩ = some (.bool true) := Fu.out.c 0 rfl
          have qu1 : wx2.cell? ⟨nu, 1, none⟩ = some (.int .i64 r0) := Fu.out.c 1 rfl
          have qu2 : wx2.cell? ⟨nu, 2, none⟩ = some (.int .i64 r1) := Fu.out.c 2 rfl
          have qu3 : wx2.cell? ⟨nu, 3, none⟩ = some (.int .i64 r2) := Fu.out.c 3 rfl
          have qx1 : wx2.cell? ⟨nx, 1, none⟩ = some (.int .i64 y0) := Fx.out.c 1 rfl
          have qx2 : wx2.cell? ⟨nx, 2, none⟩ = some (.int .i64 y1) := Fx.out.c 2 rfl
          have qx3 : wx2.cell? ⟨nx, 3, none⟩ = some (.int .i64 y2) := Fx.out.c 3 rfl
          have qp5 : wx2.cell? ⟨np, 5, none⟩ = some (.int .i64 v0) := Fp.out.c 5 rfl
          have qp6 : wx2.cell? ⟨np, 6, none⟩ = some (.int .i64 v1) := Fp.out.c 6 rfl
          have qp7 : wx2.cell? ⟨np, 7, none⟩ = some (.int .i64 v2) := Fp.out.c 7 rfl
          go_upto_region 10 with (first | (go_at_call 9; refine (num12_any _ _).mono ?_; rintro e wx ⟨rfl, hwx⟩; have hwy := hwx.symm; clear hwx; subst hwy) | (go_at_call_of 11 (Value.int IntKind.i64 r0); refine (E0.out _).mono ?_; rintro e wx ⟨rfl, hwx⟩; have hwy := hwx.symm; clear hwx; subst hwy) | (go_at_call_of 11 (Value.int IntKind.i64 r1); refine (E1.out _).mono ?_; rintro e wx ⟨rfl, hwx⟩; have hwy := hwx.symm; clear hwx; subst hwy) | (go_at_call_of 11 (Value.int IntKind.i64 r2); refine (E2.out _).mono ?_; rintro e wx ⟨rfl, hwx⟩; have hwy := hwx.symm; clear hwx; subst hwy))
          clear qu0 qu1 qu2 qu3 qx1 qx2 qx3 qp5 qp6 qp7 E0 E1 E2
          have qx0 : wx2.cell? ⟨nx, 0, none⟩ = some (.bool true) := Fx.out.c 0 rfl
          have qx1 : wx2.cell? ⟨nx, 1, none⟩ = some (.int .i64 y0) := Fx.out.c 1 rfl
          have qx2 : wx2.cell? ⟨nx, 2, none⟩ = some (.int .i64 y1) := Fx.out.c 2 rfl
          have qx3 : wx2.cell? ⟨nx, 3, none⟩ = some (.int .i64 y2) := Fx.out.c 3 rfl
          have qp5 : wx2.cell? ⟨np, 5, none⟩ = some (.int .i64 v0) := Fp.out.c 5 rfl
          have qp6 : wx2.cell? ⟨np, 6, none⟩ = some (.int .i64 v1) := Fp.out.c 6 rfl
          have qp7 : wx2.cell? ⟨np, 7, none⟩ = some (.int .i64 v2) := Fp.out.c 7 rfl
          go_upto_region 11 with (first | (go_at_call 8; refine (T2.out _).mono ?_; rintro e wq2 ⟨rfl, xq2⟩))
          have Fp : Hid (HV wq2 np [.bool on, .int .i64 y0, .int .i64 y1, .int .i64 y2, .int .i64 s, .int .i64 v0, .int .i64 v1, .int .i64 v2]) := Fp.out.ext xq2
          have Fx : Hid (HV wq2 nx [.bool true, .int .i64 y0, .int .i64 y1, .int .i64 y2]) := Fx.out.ext xq2
          have Fu : Hid (HV wq2 nu [.bool true, .int .i64 r0, .int .i64 r1, .int .i64 r2]) := Fu.out.ext xq2
          have FX : Hid (Ext w wq2) := FX.out.trans xq2
          clear qx0 qx1 qx2 qx3 qp5 qp6 qp7 xq2 T2
          have ltpa : np < wq2.heap.size := Fp.out.1
          have ltxa : nx < wq2.heap.size := Fx.out.1
          have ltua : nu < wq2.heap.size := Fu.out.1
          have La : Hid (w.heap.size ≤ wq2.heap.size) := FX.out.size
          have Fp : Hid (HV (wq2.alloc (.cells #[.bool true, .int .i64 v0, .int .i64 v1, .int .i64 v2] 26)) np [.bool on, .int .i64 y0, .int .i64 y1, .int .i64 y2, .int .i64 s, .int .i64 v0, .int .i64 v1, .int .i64 v2]) := Fp.out.alloc _
          have Fx : Hid (HV (wq2.alloc (.cells #[.bool true, .int .i64 v0, .int .i64 v1, .int .i64 v2] 26)) nx [.bool true, .int .i64 y0, .int .i64 y1, .int .i64 y2]) := Fx.out.alloc _
          have Fu : Hid (HV (wq2.alloc (.cells #[.bool true, .int .i64 v0, .int .i64 v1, .int .i64 v2] 26)) nu [.bool true, .int .i64 r0, .int .i64 r1, .int .i64 r2]) := Fu.out.alloc _
          have Fa : Hid (HV (wq2.alloc (.cells #[.bool true, .int .i64 v0, .int .i64 v1, .int .i64 v2] 26)) wq2.heap.size [.bool true, .int .i64 v0, .int .i64 v1, .int .i64 v2]) := hv_at rfl
          have FX : Hid (Ext w (wq2.alloc (.cells #[.bool true, .int .i64 v0, .int .i64 v1, .int .i64 v2] 26))) := FX.out.alloc _
          generalize (wq2.alloc (.cells #[.bool true, .int .i64 v0, .int .i64 v1, .int .i64 v2] 26)) = wx3 at *
          generalize wq2.heap.size = na at *
          have qp4 : wx3.cell? ⟨np, 4, none⟩ = some (.int .i64 s) := Fp.out.c 4 rfl
          have qp5 : wx3.cell? ⟨np, 5, none⟩ = some (.int .i64 v0) := Fp.out.c 5 rfl
          have qp6 : wx3.cell? ⟨np, 6, none⟩ = some (.int .i64 v1) := Fp.out.c 6 rfl
          have qp7 : wx3.cell? ⟨np, 7, none⟩ = some (.int .i64 v2) := Fp.out.c 7 rfl
          go_upto_region 12 with (first | (go_at_call 8; refine (T3.out _).mono ?_; rintro e wq3 ⟨rfl, xq3⟩))
          have Fp : Hid (HV wq3 np [.bool on, .int .i64 y0, .int .i64 y1, .int .i64 y2, .int .i64 s, .int .i64 v0, .int .i64 v1, .int .i64 v2]) := Fp.out.ext xq3
          have Fx : Hid (HV wq3 nx [.bool true, .int .i64 y0, .int .i64 y1, .int .i64 y2]) := Fx.out.ext xq3
          have Fu : Hid (HV wq3 nu [.bool true, .int .i64 r0, .int .i64 r1, .int .i64 r2]) := Fu.out.ext xq3
          have Fa : Hid (HV wq3 na [.bool true, .int .i64 v0, .int .i64 v1, .int .i64 v2]) := Fa.out.ext xq3
          have FX : Hid (Ext w wq3) := FX.out.trans xq3
          clear qp4 qp5 qp6 qp7 xq3 T3
          have ltpb : np < wq3.heap.size := Fp.out.1
          have ltxb : nx < wq3.heap.size := Fx.out.1
          have ltub : nu < wq3.heap.size := Fu.out.1
          have ltab : na < wq3.heap.size := Fa.out.1
          have Lb : Hid (w.heap.size ≤ wq3.heap.size) := FX.out.size
          have Fp : Hid (HV (wq3.alloc (.cells #[.bool true, .int .i64 v0, .int .i64 v1, .int .i64 v2] 26)) np [.bool on, .int .i64 y0, .int .i64 y1, .int .i64 y2, .int .i64 s, .int .i64 v0, .int .i64 v1, .int .i64 v2]) := Fp.out.alloc _
          have Fx : Hid (HV (wq3.alloc (.cells #[.bool true, .int .i64 v0, .int .i64 v1, .int .i64 v2] 26)) nx [.bool true, .int .i64 y0, .int .i64 y1, .int .i64 y2]) := Fx.out.alloc _
          have Fu : Hid (HV (wq3.alloc (.cells #[.bool true, .int .i64 v0, .int .i64 v1, .int .i64 v2] 26)) nu [.bool true, .int .i64 r0, .int .i64 r1, .int .i64 r2]) := Fu.out.alloc _
          have Fa : Hid (HV (wq3.alloc (.cells #[.bool true, .int .i64 v0, .int .i64 v1, .int .i64 v2] 26)) na [.bool true, .int .i64 v0, .int .i64 v1, .int .i64 v2]) := Fa.out.alloc _
          have Fb : Hid (HV (wq3.alloc (.cells #[.bool true, .int .i64 v0, .int .i64 v1, .int .i64 v2] 26)) wq3.heap.size [.bool true, .int .i64 v0, .int .i64 v1, .int .i64 v2]) := hv_at rfl
          have FX : Hid (Ext w (wq3.alloc (.cells #[.bool true, .int .i64 v0, .int .i64 v1, .int .i64 v2] 26))) := FX.out.alloc _
          generalize (wq3.alloc (.cells #[.bool true, .int .i64 v0, .int .i64 v1, .int .i64 v2] 26)) = wx4 at *
          generalize wq3.heap.size = nb at *
          have qx0 : wx4.cell? ⟨nx, 0, none⟩ = some (.bool true) := Fx.out.c 0 rfl
          have qx1 : wx4.cell? ⟨nx, 1, none⟩ = some (.int .i64 y0) := Fx.out.c 1 rfl
          have qx2 : wx4.cell? ⟨nx, 2, none⟩ = some (.int .i64 y1) := Fx.out.c 2 rfl
          have qx3 : wx4.cell? ⟨nx, 3, none⟩ = some (.int .i64 y2) := Fx.out.c 3 rfl
          have qp4 : wx4.cell? ⟨np, 4, none⟩ = some (.int .i64 s) := Fp.out.c 4 rfl
          go_upto_region 13 with (first | (go_at_call 8; refine (T4.out _).mono ?_; rintro e wq4 ⟨rfl, xq4⟩))
          have Fp : Hid (HV wq4 np [.bool on, .int .i64 y0, .int .i64 y1, .int .i64 y2, .int .i64 s, .int .i64 v0, .int .i64 v1, .int .i64 v2]) := Fp.out.ext xq4
          have Fx : Hid (HV wq4 nx [.bool true, .int .i64 y0, .int .i64 y1, .int .i64 y2]) := Fx.out.ext xq4
          have Fu : Hid (HV wq4 nu [.bool true, .int .i64 r0, .int .i64 r1, .int .i64 r2]) := Fu.out.ext xq4
          have Fa : Hid (HV wq4 na [.bool true, .int .i64 v0, .int .i64 v1, .int .i64 v2]) := Fa.out.ext xq4
          have Fb : Hid (HV wq4 nb [.bool true, .int .i64 v0, .int .i64 v1, .int .i64 v2]) := Fb.out.ext xq4
          have FX : Hid (Ext w wq4) := FX.out.trans xq4
          clear qx0 qx1 qx2 qx3 qp4 xq4 T4
          have ltpc : np < wq4.heap.size := Fp.out.1
          have ltxc : nx < wq4.heap.size := Fx.out.1
          have ltuc : nu < wq4.heap.size := Fu.out.1
          have ltac : na < wq4.heap.size := Fa.out.1
          have ltbc : nb < wq4.heap.size := Fb.out.1
          have Lc : Hid (w.heap.size ≤ wq4.heap.size) := FX.out.size
          have Fp : Hid (HV (wq4.alloc (.cells #[.bool true, .int .i64 y0, .int .i64 y1, .int .i64 y2] 26)) np [.bool on, .int .i64 y0, .int .i64 y1, .int .i64 y2, .int .i64 s, .int .i64 v0, .int .i64 v1, .int .i64 v2]) := Fp.out.alloc _
          have Fx : Hid (HV (wq4.alloc (.cells #[.bool true, .int .i64 y0, .int .i64 y1, .int .i64 y2] 26)) nx [.bool true, .int .i64 y0, .int .i64 y1, .int .i64 y2]) := Fx.out.alloc _
          have Fu : Hid (HV (wq4.alloc (.cells #[.bool true, .int .i64 y0, .int .i64 y1, .int .i64 y2] 26)) nu [.bool true, .int .i64 r0, .int .i64 r1, .int .i64 r2]) := Fu.out.alloc _
          have Fa : Hid (HV (wq4.alloc (.cells #[.bool true, .int .i64 y0, .int .i64 y1, .int .i64 y2] 26)) na [.bool true, .int .i64 v0, .int .i64 v1, .int .i64 v2]) := Fa.out.alloc _
          have Fb : Hid (HV (wq4.alloc (.cells #[.bool true, .int .i64 y0, .int .i64 y1, .int .i64 y2] 26)) nb [.bool true, .int .i64 v0, .int .i64 v1, .int .i64 v2]) := Fb.out.alloc _
          have Fc : Hid (HV (wq4.alloc (.cells #[.bool true, .int .i64 y0, .int .i64 y1, .int .i64 y2] 26)) wq4.heap.size [.bool true, .int .i64 y0, .int .i64 y1, .int .i64 y2]) := hv_at rfl
          have FX : Hid (Ext w (wq4.alloc (.cells #[.bool true, .int .i64 y0, .int .i64 y1, .int .i64 y2] 26))) := FX.out.alloc _
          generalize (wq4.alloc (.cells #[.bool true, .int .i64 y0, .int .i64 y1, .int .i64 y2] 26)) = wx5 at *
          generalize wq4.heap.size = nc at *
          have qa1 : wx5.cell? ⟨na, 1, none⟩ = some (.int .i64 v0) := Fa.out.c 1 rfl
          have qa2 : wx5.cell? ⟨na, 2, none⟩ = some (.int .i64 v1) := Fa.out.c 2 rfl
          have qa3 : wx5.cell? ⟨na, 3, none⟩ = some (.int .i64 v2) := Fa.out.c 3 rfl
          have qb1 : wx5.cell? ⟨nb, 1, none⟩ = some (.int .i64 v0) := Fb.out.c 1 rfl
          have qb2 : wx5.cell? ⟨nb, 2, none⟩ = some (.int .i64 v1) := Fb.out.c 2 rfl
          have qb3 : wx5.cell? ⟨nb, 3, none⟩ = some (.int .i64 v2) := Fb.out.c 3 rfl
          have qc0 : wx5.cell? ⟨nc, 0, none⟩ = some (.bool true) := Fc.out.c 0 rfl
          have qc1 : wx5.cell? ⟨nc, 1, none⟩ = some (.int .i64 y0) := Fc.out.c 1 rfl
          have qc2 : wx5.cell? ⟨nc, 2, none⟩ = some (.int .i64 y1) := Fc.out.c 2 rfl
          have qc3 : wx5.cell? ⟨nc, 3, none⟩ = some (.int .i64 y2) := Fc.out.c 3 rfl
          have qx0 : wx5.cell? ⟨nx, 0, none⟩ = some (.bool true) := Fx.out.c 0 rfl
          have qx1 : wx5.cell? ⟨nx, 1, none⟩ = some (.int .i64 y0) := Fx.out.c 1 rfl
          have qx2 : wx5.cell? ⟨nx, 2, none⟩ = some (.int .i64 y1) := Fx.out.c 2 rfl
          have qx3 : wx5.cell? ⟨nx, 3, none⟩ = some (.int .i64 y2) := Fx.out.c 3 rfl
          have qp5 : wx5.cell? ⟨np, 5, none⟩ = some (.int .i64 v0) := Fp.out.c 5 rfl
          have qp6 : wx5.cell? ⟨np, 6, none⟩ = some (.int .i64 v1) := Fp.out.c 6 rfl
          have qp7 : wx5.cell? ⟨np, 7, none⟩ = some (.int .i64 v2) := Fp.out.c 7 rfl
          go_upto_region 15 with (first | (go_at_call 9; refine (num12_any _ _).mono ?_; rintro e wx ⟨rfl, hwx⟩; have hwy := hwx.symm; clear hwx; subst hwy))
          clear qa1 qa2 qa3 qb1 qb2 qb3 qc0 qc1 qc2 qc3 qx0 qx1 qx2 qx3 qp5 qp6 qp7
          clear Fa Fb Fc
          generalize wx5 = wb at *
          go_cut [14, 15] from 16 to 173 (fun v14 v15 wx => ∃ g : Nat, v14 = .pointer (some ⟨g, 0, none⟩) ∧ v15 = .int .i64 0 ∧ Hid (HV wx g [.bool true, .int .i64 n0, .int .i64 n1, .int .i64 n2]) ∧ Hid (Ext wb wx))
          case first =>
            have qx1 : wb.cell? ⟨nx, 1, none⟩ = some (.int .i64 y0) := Fx.out.c 1 rfl
            have qx2 : wb.cell? ⟨nx, 2, none⟩ = some (.int .i64 y1) := Fx.out.c 2 rfl
            have qx3 : wb.cell? ⟨nx, 3, none⟩ = some (.int .i64 y2) := Fx.out.c 3 rfl
            have qp4 : wb.cell? ⟨np, 4, none⟩ = some (.int .i64 s) := Fp.out.c 4 rfl
            have qp5 : wb.cell? ⟨np, 5, none⟩ = some (.int .i64 v0) := Fp.out.c 5 rfl
            have qp6 : wb.cell? ⟨np, 6, none⟩ = some (.int .i64 v1) := Fp.out.c 6 rfl
            have qp7 : wb.cell? ⟨np, 7, none⟩ = some (.int .i64 v2) := Fp.out.c 7 rfl
            have ltx : nx < wb.heap.size := Fx.out.1
            have ltp : np < wb.heap.size := Fp.out.1
            obtain ⟨nea, neb, nec, ned⟩ : nx ≠ wb.heap.size ∧ wb.heap.size ≠ nx ∧ np ≠ wb.heap.size ∧ wb.heap.size ≠ np := by omega
            clear G3 Fu
            go_region_held3 (fun w' => w'.cell? ⟨nx, 1, none⟩ = some (.int .i64 y0) ∧ w'.cell? ⟨nx, 2, none⟩ = some (.int .i64 y1) ∧ w'.cell? ⟨nx, 3, none⟩ = some (.int .i64 y2) ∧ w'.cell? ⟨np, 4, none⟩ = some (.int .i64 s) ∧ w'.cell? ⟨np, 5, none⟩ = some (.int .i64 v0) ∧ w'.cell? ⟨np, 6, none⟩ = some (.int .i64 v1) ∧ w'.cell? ⟨np, 7, none⟩ = some (.int .i64 v2)) (first | (go_keep; done) | (refine ⟨?_, ?_, ?_, ?_, ?_, ?_, ?_⟩ <;> (rw [World.cell?_setCell_far _ _ _ _ (by dsimp only; omega), World.cell?_setCell_far _ _ _ _ (by dsimp only; omega), World.cell?_setCell_far _ _ _ _ (by dsimp only; omega), World.cell?_setCell_far _ _ _ _ (by dsimp only; omega)]; with_reducible assumption)) | skip) (first | (go_at_call_of 12 (Value.agg #[Value.int IntKind.i64 y0, Value.int IntKind.i64 y1, Value.int IntKind.i64 y2]); refine (G1.out _).mono ?_; rintro e wm1 ⟨rfl, zwm1⟩; have Ywm1 : Ext wb wm1 := Ext.trans (by repeat (first | with_reducible assumption | with_reducible exact Ext.refl _ | with_reducible refine Ext.drew ?_ | with_reducible refine Ext.drewN ?_ _ | with_reducible refine Ext.alloc ?_ _ | with_reducible refine Ext.set ?_ (by first | exact Nat.le_refl _ | (dsimp only; omega) | (simp; done)) _)) zwm1; have cxwm11 : wm1.cell? ⟨nx, 1, none⟩ = some (.int .i64 y0) := (Fx.out.ext Ywm1).c 1 rfl; have cxwm12 : wm1.cell? ⟨nx, 2, none⟩ = some (.int .i64 y1) := (Fx.out.ext Ywm1).c 2 rfl; have cxwm13 : wm1.cell? ⟨nx, 3, none⟩ = some (.int .i64 y2) := (Fx.out.ext Ywm1).c 3 rfl; have cpwm14 : wm1.cell? ⟨np, 4, none⟩ = some (.int .i64 s) := (Fp.out.ext Ywm1).c 4 rfl; have cpwm15 : wm1.cell? ⟨np, 5, none⟩ = some (.int .i64 v0) := (Fp.out.ext Ywm1).c 5 rfl; have cpwm16 : wm1.cell? ⟨np, 6, none⟩ = some (.int .i64 v1) := (Fp.out.ext Ywm1).c 6 rfl; have cpwm17 : wm1.cell? ⟨np, 7, none⟩ = some (.int .i64 v2) := (Fp.out.ext Ywm1).c 7 rfl; obtain ⟨newm1a, newm1b, newm1c, newm1d, lewm1⟩ : nx ≠ wm1.heap.size ∧ wm1.heap.size ≠ nx ∧ np ≠ wm1.heap.size ∧ wm1.heap.size ≠ np ∧ wb.heap.size ≤ wm1.heap.size := (by have := Ywm1.size; omega); first | (have G : Hid (HV wm1 wb.heap.size [.bool false, .int .i64 0, .int .i64 0, .int .i64 0]) := (hv_at (w := wb) (T := 26) rfl).drew.ext zwm1; obtain ⟨gwm10, gwm11, gwm12, gwm13⟩ := G.out.k4; obtain ⟨fwm10, fwm11, fwm12, fwm13⟩ := G.out.z4) | (have G : Hid (HV wm1 wb.heap.size [.bool false, .int .i64 0, .int .i64 0, .int .i64 0]) := (hv_at (w := wb) (T := 26) rfl).ext zwm1; obtain ⟨gwm10, gwm11, gwm12, gwm13⟩ := G.out.k4; obtain ⟨fwm10, fwm11, fwm12, fwm13⟩ := G.out.z4) | skip) | (go_at_call_of 12 (Value.agg #[Value.int IntKind.i64 v0, Value.int IntKind.i64 v1, Value.int IntKind.i64 v2]); refine (G2.out _).mono ?_; rintro e wm2 ⟨rfl, zwm2⟩; have Ywm2 : Ext wb wm2 := Ext.trans (by repeat (first | with_reducible assumption | with_reducible exact Ext.refl _ | with_reducible refine Ext.drew ?_ | with_reducible refine Ext.drewN ?_ _ | with_reducible refine Ext.alloc ?_ _ | with_reducible refine Ext.set ?_ (by first | exact Nat.le_refl _ | (dsimp only; omega) | (simp; done)) _)) zwm2; have cxwm21 : wm2.cell? ⟨nx, 1, none⟩ = some (.int .i64 y0) := (Fx.out.ext Ywm2).c 1 rfl; have cxwm22 : wm2.cell? ⟨nx, 2, none⟩ = some (.int .i64 y1) := (Fx.out.ext Ywm2).c 2 rfl; have cxwm23 : wm2.cell? ⟨nx, 3, none⟩ = some (.int .i64 y2) := (Fx.out.ext Ywm2).c 3 rfl; have cpwm24 : wm2.cell? ⟨np, 4, none⟩ = some (.int .i64 s) := (Fp.out.ext Ywm2).c 4 rfl; have cpwm25 : wm2.cell? ⟨np, 5, none⟩ = some (.int .i64 v0) := (Fp.out.ext Ywm2).c 5 rfl; have cpwm26 : wm2.cell? ⟨np, 6, none⟩ = some (.int .i64 v1) := (Fp.out.ext Ywm2).c 6 rfl; have cpwm27 : wm2.cell? ⟨np, 7, none⟩ = some (.int .i64 v2) := (Fp.out.ext Ywm2).c 7 rfl; obtain ⟨newm2a, newm2b, newm2c, newm2d, lewm2⟩ : nx ≠ wm2.heap.size ∧ wm2.heap.size ≠ nx ∧ np ≠ wm2.heap.size ∧ wm2.heap.size ≠ np ∧ wb.heap.size ≤ wm2.heap.size := (by have := Ywm2.size; omega); first | (have G : Hid (HV wm2 _ [.bool false, .int .i64 0, .int .i64 0, .int .i64 0]) := G.out.ext zwm2; obtain ⟨gwm20, gwm21, gwm22, gwm23⟩ := G.out.k4; obtain ⟨fwm20, fwm21, fwm22, fwm23⟩ := G.out.z4) | (have G : Hid (HV wm2 _ [.bool false, .int .i64 0, .int .i64 0, .int .i64 0]) := G.out.drew.ext zwm2; obtain ⟨gwm20, gwm21, gwm22, gwm23⟩ := G.out.k4; obtain ⟨fwm20, fwm21, fwm22, fwm23⟩ := G.out.z4) | (have G : Hid (HV wm2 wm1.heap.size [.bool false, .int .i64 0, .int .i64 0, .int .i64 0]) := (hv_at (w := wm1) (T := 26) rfl).drew.ext zwm2; obtain ⟨gwm20, gwm21, gwm22, gwm23⟩ := G.out.k4; obtain ⟨fwm20, fwm21, fwm22, fwm23⟩ := G.out.z4) | (have G : Hid (HV wm2 wm1.heap.size [.bool false, .int .i64 0, .int .i64 0, .int .i64 0]) := (hv_at (w := wm1) (T := 26) rfl).ext zwm2; obtain ⟨gwm20, gwm21, gwm22, gwm23⟩ := G.out.k4; obtain ⟨fwm20, fwm21, fwm22, fwm23⟩ := G.out.z4) | skip) | (go_at_call 8; refine (T5.out _).mono ?_; rintro e wm3 ⟨rfl, zwm3⟩; have Ywm3 : Ext wb wm3 := Ext.trans (by repeat (first | with_reducible assumption | with_reducible exact Ext.refl _ | with_reducible refine Ext.drew ?_ | with_reducible refine Ext.drewN ?_ _ | with_reducible refine Ext.alloc ?_ _ | with_reducible refine Ext.set ?_ (by first | exact Nat.le_refl _ | (dsimp only; omega) | (simp; done)) _)) zwm3; have cxwm31 : wm3.cell? ⟨nx, 1, none⟩ = some (.int .i64 y0) := (Fx.out.ext Ywm3).c 1 rfl; have cxwm32 : wm3.cell? ⟨nx, 2, none⟩ = some (.int .i64 y1) := (Fx.out.ext Ywm3).c 2 rfl; have cxwm33 : wm3.cell? ⟨nx, 3, none⟩ = some (.int .i64 y2) := (Fx.out.ext Ywm3).c 3 rfl; have cpwm34 : wm3.cell? ⟨np, 4, none⟩ = some (.int .i64 s) := (Fp.out.ext Ywm3).c 4 rfl; have cpwm35 : wm3.cell? ⟨np, 5, none⟩ = some (.int .i64 v0) := (Fp.out.ext Ywm3).c 5 rfl; have cpwm36 : wm3.cell? ⟨np, 6, none⟩ = some (.int .i64 v1) := (Fp.out.ext Ywm3).c 6 rfl; have cpwm37 : wm3.cell? ⟨np, 7, none⟩ = some (.int .i64 v2) := (Fp.out.ext Ywm3).c 7 rfl; obtain ⟨newm3a, newm3b, newm3c, newm3d, lewm3⟩ : nx ≠ wm3.heap.size ∧ wm3.heap.size ≠ nx ∧ np ≠ wm3.heap.size ∧ wm3.heap.size ≠ np ∧ wb.heap.size ≤ wm3.heap.size := (by have := Ywm3.size; omega); first | (have G : Hid (HV wm3 _ [.bool false, .int .i64 0, .int .i64 0, .int .i64 0]) := G.out.ext zwm3; obtain ⟨gwm30, gwm31, gwm32, gwm33⟩ := G.out.k4; obtain ⟨fwm30, fwm31, fwm32, fwm33⟩ := G.out.z4) | (have G : Hid (HV wm3 _ [.bool false, .int .i64 0, .int .i64 0, .int .i64 0]) := G.out.drew.ext zwm3; obtain ⟨gwm30, gwm31, gwm32, gwm33⟩ := G.out.k4; obtain ⟨fwm30, fwm31, fwm32, fwm33⟩ := G.out.z4) | (have G : Hid (HV wm3 wm2.heap.size [.bool false, .int .i64 0, .int .i64 0, .int .i64 0]) := (hv_at (w := wm2) (T := 26) rfl).drew.ext zwm3; obtain ⟨gwm30, gwm31, gwm32, gwm33⟩ := G.out.k4; obtain ⟨fwm30, fwm31, fwm32, fwm33⟩ := G.out.z4) | (have G : Hid (HV wm3 wm2.heap.size [.bool false, .int .i64 0, .int .i64 0, .int .i64 0]) := (hv_at (w := wm2) (T := 26) rfl).ext zwm3; obtain ⟨gwm30, gwm31, gwm32, gwm33⟩ := G.out.k4; obtain ⟨fwm30, fwm31, fwm32, fwm33⟩ := G.out.z4) | skip))
            all_goals
              go_wp2_with fail
              go_meet
              first | exact ⟨wm3.heap.size, rfl, rfl, hv_at rfl, Ywm3.alloc _⟩ | exact ⟨wb.heap.size, rfl, rfl, ((((G.out.set 0 _).set 1 _).set 2 _).set 3 _), (((Ywm3.set (Nat.le_refl _) _).set (Nat.le_refl _) _).set (Nat.le_refl _) _).set (Nat.le_refl _) _⟩ | exact ⟨wm1.heap.size, rfl, rfl, ((((G.out.set 0 _).set 1 _).set 2 _).set 3 _), (((Ywm3.set lewm1 _).set lewm1 _).set lewm1 _).set lewm1 _⟩ | exact ⟨wm2.heap.size, rfl, rfl, ((((G.out.set 0 _).set 1 _).set 2 _).set 3 _), (((Ywm3.set lewm2 _).set lewm2 _).set lewm2 _).set lewm2 _⟩
          case rest =>
            obtain ⟨nn, rfl, rfl, Fn, hx⟩ := hcut
            have hx := hx.out
            have Fp : Hid (HV wc np [.bool on, .int .i64 y0, .int .i64 y1, .int .i64 y2, .int .i64 s, .int .i64 v0, .int .i64 v1, .int .i64 v2]) := Fp.out.ext hx
            have Fx : Hid (HV wc nx [.bool true, .int .i64 y0, .int .i64 y1, .int .i64 y2]) := Fx.out.ext hx
            have Fu : Hid (HV wc nu [.bool true, .int .i64 r0, .int .i64 r1, .int .i64 r2]) := Fu.out.ext hx
            have FX : Hid (Ext w wc) := FX.out.trans hx
            clear hx G1 G2 T5
            have qn1 : wc.cell? ⟨nn, 1, none⟩ = some (.int .i64 n0) := Fn.out.c 1 rfl
            have qn2 : wc.cell? ⟨nn, 2, none⟩ = some (.int .i64 n1) := Fn.out.c 2 rfl
            have qn3 : wc.cell? ⟨nn, 3, none⟩ = some (.int .i64 n2) := Fn.out.c 3 rfl
            have qu1 : wc.cell? ⟨nu, 1, none⟩ = some (.int .i64 r0) := Fu.out.c 1 rfl
            have qu2 : wc.cell? ⟨nu, 2, none⟩ = some (.int .i64 r1) := Fu.out.c 2 rfl
            have qu3 : wc.cell? ⟨nu, 3, none⟩ = some (.int .i64 r2) := Fu.out.c 3 rfl
            go_upto_region 16 with fail
            go_region_held3 (fun w' => w'.cell? ⟨nn, 1, none⟩ = some (.int .i64 n0) ∧ w'.cell? ⟨nn, 2, none⟩ = some (.int .i64 n1) ∧ w'.cell? ⟨nn, 3, none⟩ = some (.int .i64 n2) ∧ w'.cell? ⟨nu, 1, none⟩ = some (.int .i64 r0) ∧ w'.cell? ⟨nu, 2, none⟩ = some (.int .i64 r1) ∧ w'.cell? ⟨nu, 3, none⟩ = some (.int .i64 r2)) (first | (go_keep; done) | skip) (first | (go_at_call 9; refine (num12_any _ _).mono ?_; rintro e wx ⟨rfl, hwx⟩; have hwy := hwx.symm; clear hwx; subst hwy) | (go_at_call 12; refine (G3.out _).mono ?_; rintro e wm5 ⟨rfl, zwm5⟩; have Y5 : Ext wc wm5 := Ext.trans (by repeat (first | with_reducible assumption | with_reducible exact Ext.refl _ | with_reducible refine Ext.drew ?_ | with_reducible refine Ext.drewN ?_ _ | with_reducible refine Ext.alloc ?_ _ | with_reducible refine Ext.set ?_ (by first | exact Nat.le_refl _ | (dsimp only; omega) | (simp; done)) _)) zwm5; have en1 : wm5.cell? ⟨nn, 1, none⟩ = some (.int .i64 n0) := (Fn.out.ext Y5).c 1 rfl; have en2 : wm5.cell? ⟨nn, 2, none⟩ = some (.int .i64 n1) := (Fn.out.ext Y5).c 2 rfl; have en3 : wm5.cell? ⟨nn, 3, none⟩ = some (.int .i64 n2) := (Fn.out.ext Y5).c 3 rfl; have eu1 : wm5.cell? ⟨nu, 1, none⟩ = some (.int .i64 r0) := (Fu.out.ext Y5).c 1 rfl; have eu2 : wm5.cell? ⟨nu, 2, none⟩ = some (.int .i64 r1) := (Fu.out.ext Y5).c 2 rfl; have eu3 : wm5.cell? ⟨nu, 3, none⟩ = some (.int .i64 r2) := (Fu.out.ext Y5).c 3 rfl))
            all_goals
              have FX : Hid (Ext w wm5) := FX.out.trans Y5
              go_wp2_with fail
              go_roundw
              case rel => exact ⟨k + 1, by omega, by go_num, FX⟩
              case measure => simp [intOf]; omega
      · go_wp2_with fail
        refine (wakes12_any _).mono ?_
        rintro e w1 ⟨rfl, x1⟩
        have E1 : Ext w w1 := FX.out.trans x1
        go_wp2_with fail
        go_ret
        exact ⟨rfl, E1⟩
    · have hk' : k = len := by omega
      subst hk'
      go_wp2_with fail
      refine (wakes12_any _).mono ?_
      rintro e w1 ⟨rfl, x1⟩
      have E1 : Ext w w1 := FX.out.trans x1
      go_wp2_with fail
      go_ret
      exact ⟨rfl, E1⟩
set_option maxRecDepth 20000 in
set_option maxHeartbeats 4000000 in
theorem lowbetween_none (a : Option Addr) (cap : Nat) (w : World) :
    Calls Try.prog 4 #[.slice a 0 cap] w fun e w' => e = .returned (.bool true) ∧ Ext w w' := by
  go_enter Try.func4, Try.ntmps4
  go_wp2_with fail
  go_loopw [3] (fun i wr => i = .int .i64 0 ∧ Hid (Ext w wr)) (fun _ _ => 0)
  case atStart => exact ⟨rfl, Ext.refl _⟩
  case round =>
    obtain ⟨rfl, FX⟩ := hrel
    go_wp2_with fail
    refine (wakes12_any _).mono ?_
    rintro e w1 ⟨rfl, x1⟩
    have E1 : Ext w w1 := FX.out.trans x1
    go_wp2_with fail
    go_ret
    exact ⟨rfl, E1⟩
end Go.Proofs.Ytbbnbpghhdmhaaa
