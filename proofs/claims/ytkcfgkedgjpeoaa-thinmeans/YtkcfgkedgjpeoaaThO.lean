/- ThinOnes. -/
import Derived.Test.YtkcfgkedgjpeoaaTh4
import Derived.Deep.Cut
import Derived.Deep.DeepCutAuto
namespace Go.Proofs.Ytkcfgkedgjpeoaa
open Go.RowKit Go.Shelf
theorem near_mul (v d : Int) (hd : 0 < d) : nearI (d * v) d = v := by
  refine (nearI_spec (d * v) d hd).unique hd ?_
  have e : d * v - v * d = 0 := by rw [Int.mul_comm d v]; omega
  unfold IsNear
  rw [e]
  exact ⟨by omega, by omega, fun h => by omega⟩
theorem near_add (v j : Int) (hj : 0 ≤ j) : nearI (j * v + v) (j + 1) = v := by
  have e : j * v + v = (j + 1) * v := by rw [Int.add_mul, Int.one_mul]
  rw [e]
  exact near_mul v (j + 1) (by omega)
theorem mulb {j v m : Int} (hj : 0 ≤ j ∧ j < 256) (hm : 0 ≤ m) (hv : -m ≤ v ∧ v ≤ m) : -(255 * m) ≤ j * v ∧ j * v ≤ 255 * m := by
  obtain ⟨v1, v2⟩ := hv
  have a1 : j * v ≤ j * m := Int.mul_le_mul_of_nonneg_left v2 hj.1
  have a2 : j * m ≤ 255 * m := Int.mul_le_mul_of_nonneg_right (by omega) hm
  have a3 : j * (-m) ≤ j * v := Int.mul_le_mul_of_nonneg_left v1 hj.1
  rw [Int.mul_neg] at a3
  omega
theorem okT_of {s0 s1 s2 n : Int} (h0 : -9007199254740992 < s0 ∧ s0 < 9007199254740992) (h1 : -9007199254740992 < s1 ∧ s1 < 9007199254740992) (h2 : -9007199254740992 < s2 ∧ s2 < 9007199254740992) (hn : 0 ≤ n ∧ n < 256) (hz : n = 0 → s0 = 0 ∧ s1 = 0 ∧ s2 = 0) : okT s0 s1 s2 n = true := by
  unfold okT
  split
  · rename_i h; simp [hz h]
  · unfold okS3
    rw [okS_iff.2 h0, okS_iff.2 h1, okS_iff.2 h2, decide_eq_true (show 0 < n by omega), decide_eq_true hn.2]
    rfl
theorem ones_step (v0 v1 v2 j k : Int) (hv : ok3 v0 v1 v2 = true) (hk : okK k = true) (hj : 0 ≤ j ∧ j < k) :
    takeT (j * v0) (j * v1) (j * v2) j k v0 v1 v2 = if j + 1 < k then .tuple #[.agg #[.int .i64 ((j + 1) * v0), .int .i64 ((j + 1) * v1), .int .i64 ((j + 1) * v2), .int .i64 (j + 1)], .agg #[.int .i64 0, .int .i64 0, .int .i64 0], .bool false, .int .i64 0] else .tuple #[.agg #[.int .i64 0, .int .i64 0, .int .i64 0, .int .i64 0], .agg #[.int .i64 v0, .int .i64 v1, .int .i64 v2], .bool true, .int .i64 0] := by
  obtain ⟨q0, q1, q2⟩ := ok3_parts hv
  have g0 := okW_bounds q0
  have g1 := okW_bounds q1
  have g2 := okW_bounds q2
  obtain ⟨k1, k2⟩ := okK_iff.1 hk
  have hj2 : 0 ≤ j ∧ j < 256 := by omega
  have m0 := mulb (m := 35184372088831) hj2 (by decide) (show -35184372088831 ≤ v0 ∧ v0 ≤ 35184372088831 by omega)
  have m1 := mulb (m := 35184372088831) hj2 (by decide) (show -35184372088831 ≤ v1 ∧ v1 ≤ 35184372088831 by omega)
  have m2 := mulb (m := 35184372088831) hj2 (by decide) (show -35184372088831 ≤ v2 ∧ v2 ≤ 35184372088831 by omega)
  have ok : okT (j * v0) (j * v1) (j * v2) j = true := okT_of (by omega) (by omega) (by omega) hj2 (fun e => by subst e; simp)
  unfold takeT
  rw [ok, hk, hv, near_add v0 j hj.1, near_add v1 j hj.1, near_add v2 j hj.1, hv]
  have e : ∀ v : Int, j * v + v = (j + 1) * v := fun v => by rw [Int.add_mul, Int.one_mul]
  rw [e, e, e]
  by_cases hl : j + 1 < k
  · rw [if_pos hl, if_pos hl]; rfl
  · rw [if_neg hl, if_neg hl]; rfl
set_option maxRecDepth 20000 in
set_option maxHeartbeats 40000000 in
theorem thinones_any (b off len cap : Nat) (Z : Nat → Nat → Int) (w : World) (hl : len ≤ maxLen) (hc : NL 8 w b off len Z) :
    Calls Try.prog 5 #[.slice (some ⟨b, off, none⟩) len cap] w fun e w' => e = .returned (.bool true) ∧ Ext w w' := by
  have hl' : len ≤ 9223372036854775807 := by unfold maxLen at hl; omega
  clear hl
  go_enter Try.func5, Try.ntmps5
  go_wp2_with fail
  go_loopw [3] (fun i wr => ∃ k : Nat, k ≤ len ∧ i = .int .i64 k ∧ Hid (Ext w wr)) (fun i _ => len - (intOf i).toNat)
  case atStart => exact ⟨0, Nat.zero_le _, rfl, Ext.refl _⟩
  case round =>
    obtain ⟨k, hk, rfl, FX⟩ := hrel
    by_cases hlt : k < len
    · by_cases h5 : k < 10
      · skip
        have c0 := ((hc.ext FX.out) k hlt 0 (by omega)).1
        have c1 := ((hc.ext FX.out) k hlt 1 (by omega)).1
        have c2 := ((hc.ext FX.out) k hlt 2 (by omega)).1
        have c3 := ((hc.ext FX.out) k hlt 3 (by omega)).1
        have c4 := ((hc.ext FX.out) k hlt 4 (by omega)).1
        have c5 := ((hc.ext FX.out) k hlt 5 (by omega)).1
        have c6 := ((hc.ext FX.out) k hlt 6 (by omega)).1
        have c7 := ((hc.ext FX.out) k hlt 7 (by omega)).1
        rw [Nat.add_zero] at c0
        have hlt' : (k : Int) < (len : Int) := by omega
        have zb := (hc k hlt 4 (by omega)).2
        clear hc
        generalize Z k = z at *
        go_upto_region 5 with fail
        clear c0 c1 c2 c3 c4 c5 c6 c7
        have Lp : Hid (w.heap.size ≤ wr.heap.size) := FX.out.size
        have Fp : Hid (HV (wr.alloc (.cells #[.int .i64 (z 0), .int .i64 (z 1), .int .i64 (z 2), .int .i64 (z 3), .int .i64 (z 4), .int .i64 (z 5), .int .i64 (z 6), .int .i64 (z 7)] 28)) wr.heap.size [.int .i64 (z 0), .int .i64 (z 1), .int .i64 (z 2), .int .i64 (z 3), .int .i64 (z 4), .int .i64 (z 5), .int .i64 (z 6), .int .i64 (z 7)]) := hv_at rfl
        have FX : Hid (Ext w (wr.alloc (.cells #[.int .i64 (z 0), .int .i64 (z 1), .int .i64 (z 2), .int .i64 (z 3), .int .i64 (z 4), .int .i64 (z 5), .int .i64 (z 6), .int .i64 (z 7)] 28))) := FX.out.alloc _
        generalize (wr.alloc (.cells #[.int .i64 (z 0), .int .i64 (z 1), .int .i64 (z 2), .int .i64 (z 3), .int .i64 (z 4), .int .i64 (z 5), .int .i64 (z 6), .int .i64 (z 7)] 28)) = wx1 at *
        generalize wr.heap.size = np at *
        have HV1 : Hid (∀ w, Calls Try.prog 7 #[.agg #[.int .i64 (z 5), .int .i64 (z 6), .int .i64 (z 7)]] w fun e w' => e = .returned (.bool (ok3 (z 5) (z 6) (z 7))) ∧ Ext w w') := mayv_any _ _ _
        generalize z 5 = v0 at *
        generalize z 6 = v1 at *
        generalize z 7 = v2 at *
        generalize z 4 = kk at *
        generalize z 0 = y0 at *
        generalize z 1 = y1 at *
        generalize z 2 = y2 at *
        generalize z 3 = y3 at *
        cases h1 : ok3 v0 v1 v2
        · rw [h1] at HV1
          clear h1
          have qp5 : wx1.cell? ⟨np, 5, none⟩ = some (.int .i64 v0) := Fp.out.c 5 rfl
          have qp6 : wx1.cell? ⟨np, 6, none⟩ = some (.int .i64 v1) := Fp.out.c 6 rfl
          have qp7 : wx1.cell? ⟨np, 7, none⟩ = some (.int .i64 v2) := Fp.out.c 7 rfl
          go_wp2_with fail
          refine (HV1.out _).mono ?_
          rintro e wq0 ⟨rfl, xq0⟩
          have Fp : Hid (HV wq0 np [.int .i64 y0, .int .i64 y1, .int .i64 y2, .int .i64 y3, .int .i64 kk, .int .i64 v0, .int .i64 v1, .int .i64 v2]) := Fp.out.ext xq0
          have FX : Hid (Ext w wq0) := FX.out.trans xq0
          clear qp5 qp6 qp7 xq0 HV1
          go_wp2_with fail
          go_roundw
          case rel => exact ⟨k + 1, by omega, by go_num, FX⟩
          case measure => simp [intOf]; omega
        · cases h2 : okK kk
          · rw [h1] at HV1
            clear h1
            have hk2 : kk < 1 ∨ 1 ≤ kk ∧ 256 < kk := by
              by_cases a : 1 ≤ kk
              · by_cases b : kk ≤ 256
                · rw [okK_iff.2 ⟨a, b⟩] at h2; exact absurd h2 (by decide)
                · omega
              · omega
            clear h2
            rcases hk2 with hk2 | ⟨hk2, hk3⟩
            · have qp5 : wx1.cell? ⟨np, 5, none⟩ = some (.int .i64 v0) := Fp.out.c 5 rfl
              have qp6 : wx1.cell? ⟨np, 6, none⟩ = some (.int .i64 v1) := Fp.out.c 6 rfl
              have qp7 : wx1.cell? ⟨np, 7, none⟩ = some (.int .i64 v2) := Fp.out.c 7 rfl
              go_wp2_with fail
              refine (HV1.out _).mono ?_
              rintro e wq0 ⟨rfl, xq0⟩
              have Fp : Hid (HV wq0 np [.int .i64 y0, .int .i64 y1, .int .i64 y2, .int .i64 y3, .int .i64 kk, .int .i64 v0, .int .i64 v1, .int .i64 v2]) := Fp.out.ext xq0
              have FX : Hid (Ext w wq0) := FX.out.trans xq0
              clear qp5 qp6 qp7 xq0 HV1
              have qp4 : wq0.cell? ⟨np, 4, none⟩ = some (.int .i64 kk) := Fp.out.c 4 rfl
              go_wp2_with fail
              go_roundw
              case rel => exact ⟨k + 1, by omega, by go_num, FX⟩
              case measure => simp [intOf]; omega
            · have qp5 : wx1.cell? ⟨np, 5, none⟩ = some (.int .i64 v0) := Fp.out.c 5 rfl
              have qp6 : wx1.cell? ⟨np, 6, none⟩ = some (.int .i64 v1) := Fp.out.c 6 rfl
              have qp7 : wx1.cell? ⟨np, 7, none⟩ = some (.int .i64 v2) := Fp.out.c 7 rfl
              go_wp2_with fail
              refine (HV1.out _).mono ?_
              rintro e wq0 ⟨rfl, xq0⟩
              have Fp : Hid (HV wq0 np [.int .i64 y0, .int .i64 y1, .int .i64 y2, .int .i64 y3, .int .i64 kk, .int .i64 v0, .int .i64 v1, .int .i64 v2]) := Fp.out.ext xq0
              have FX : Hid (Ext w wq0) := FX.out.trans xq0
              clear qp5 qp6 qp7 xq0 HV1
              have qp4 : wq0.cell? ⟨np, 4, none⟩ = some (.int .i64 kk) := Fp.out.c 4 rfl
              go_wp2_with fail
              go_roundw
              case rel => exact ⟨k + 1, by omega, by go_num, FX⟩
              case measure => simp [intOf]; omega
          · rw [h1] at HV1
            have HO : Hid (∀ w, Calls Try.prog 9 #[.agg #[.int .i64 0, .int .i64 0, .int .i64 0, .int .i64 0], .int .i64 1, .agg #[.int .i64 v0, .int .i64 v1, .int .i64 v2]] w fun e w' => e = .returned (.tuple #[.agg #[.int .i64 0, .int .i64 0, .int .i64 0, .int .i64 0], .agg #[.int .i64 v0, .int .i64 v1, .int .i64 v2], .bool true, .int .i64 0]) ∧ Ext w w') := fun w => by
              have h := ttake_any 0 0 0 0 1 v0 v1 v2 w
              have e := ones_step v0 v1 v2 0 1 h1 (by decide) (by decide)
              rw [Int.zero_mul, Int.zero_mul, Int.zero_mul, if_neg (by decide)] at e
              rw [e] at h
              exact h
            have HS : Hid (∀ j : Int, 0 ≤ j ∧ j < kk → takeT (j * v0) (j * v1) (j * v2) j kk v0 v1 v2 = if j + 1 < kk then .tuple #[.agg #[.int .i64 ((j + 1) * v0), .int .i64 ((j + 1) * v1), .int .i64 ((j + 1) * v2), .int .i64 (j + 1)], .agg #[.int .i64 0, .int .i64 0, .int .i64 0], .bool false, .int .i64 0] else .tuple #[.agg #[.int .i64 0, .int .i64 0, .int .i64 0, .int .i64 0], .agg #[.int .i64 v0, .int .i64 v1, .int .i64 v2], .bool true, .int .i64 0]) := fun j hj => ones_step v0 v1 v2 j kk h1 h2 hj
            obtain ⟨kk1, kk2⟩ := okK_iff.1 h2
            clear h1 h2 zb
            have qp5 : wx1.cell? ⟨np, 5, none⟩ = some (.int .i64 v0) := Fp.out.c 5 rfl
            have qp6 : wx1.cell? ⟨np, 6, none⟩ = some (.int .i64 v1) := Fp.out.c 6 rfl
            have qp7 : wx1.cell? ⟨np, 7, none⟩ = some (.int .i64 v2) := Fp.out.c 7 rfl
            go_wp2_with fail
            refine (HV1.out _).mono ?_
            rintro e wq0 ⟨rfl, xq0⟩
            have Fp : Hid (HV wq0 np [.int .i64 y0, .int .i64 y1, .int .i64 y2, .int .i64 y3, .int .i64 kk, .int .i64 v0, .int .i64 v1, .int .i64 v2]) := Fp.out.ext xq0
            have FX : Hid (Ext w wq0) := FX.out.trans xq0
            clear qp5 qp6 qp7 xq0 HV1
            have qp4 : wq0.cell? ⟨np, 4, none⟩ = some (.int .i64 kk) := Fp.out.c 4 rfl
            have qp5 : wq0.cell? ⟨np, 5, none⟩ = some (.int .i64 v0) := Fp.out.c 5 rfl
            have qp6 : wq0.cell? ⟨np, 6, none⟩ = some (.int .i64 v1) := Fp.out.c 6 rfl
            have qp7 : wq0.cell? ⟨np, 7, none⟩ = some (.int .i64 v2) := Fp.out.c 7 rfl
            go_upto_region 7 with (first | (go_at_call 9; refine (HO.out _).mono ?_; rintro e wq1 ⟨rfl, xq1⟩))
            have Fp : Hid (HV wq1 np [.int .i64 y0, .int .i64 y1, .int .i64 y2, .int .i64 y3, .int .i64 kk, .int .i64 v0, .int .i64 v1, .int .i64 v2]) := Fp.out.ext xq1
            have FX : Hid (Ext w wq1) := FX.out.trans xq1
            clear qp4 qp5 qp6 qp7 xq1 HO
            have ltpu : np < wq1.heap.size := Fp.out.1
            have Lu : Hid (w.heap.size ≤ wq1.heap.size) := FX.out.size
            have Lm : Hid (w.heap.size ≤ wq1.heap.size + 1) := Nat.le_trans FX.out.size (Nat.le_add_right _ _)
            have Fp : Hid (HV ((wq1.alloc (.cells #[.int .i64 0, .int .i64 0, .int .i64 0, .int .i64 0] 26)).alloc (.cells #[.int .i64 v0, .int .i64 v1, .int .i64 v2] 24)) np [.int .i64 y0, .int .i64 y1, .int .i64 y2, .int .i64 y3, .int .i64 kk, .int .i64 v0, .int .i64 v1, .int .i64 v2]) := ((Fp.out.alloc _).alloc _)
            have Fu : Hid (HV ((wq1.alloc (.cells #[.int .i64 0, .int .i64 0, .int .i64 0, .int .i64 0] 26)).alloc (.cells #[.int .i64 v0, .int .i64 v1, .int .i64 v2] 24)) wq1.heap.size [.int .i64 0, .int .i64 0, .int .i64 0, .int .i64 0]) := ((hv_at rfl).alloc _)
            have Fm : Hid (HV ((wq1.alloc (.cells #[.int .i64 0, .int .i64 0, .int .i64 0, .int .i64 0] 26)).alloc (.cells #[.int .i64 v0, .int .i64 v1, .int .i64 v2] 24)) (wq1.heap.size + 1) [.int .i64 v0, .int .i64 v1, .int .i64 v2]) := (hv_at (by simp))
            have FX : Hid (Ext w ((wq1.alloc (.cells #[.int .i64 0, .int .i64 0, .int .i64 0, .int .i64 0] 26)).alloc (.cells #[.int .i64 v0, .int .i64 v1, .int .i64 v2] 24))) := ((FX.out.alloc _).alloc _)
            generalize ((wq1.alloc (.cells #[.int .i64 0, .int .i64 0, .int .i64 0, .int .i64 0] 26)).alloc (.cells #[.int .i64 v0, .int .i64 v1, .int .i64 v2] 24)) = wx2 at *
            generalize wq1.heap.size = nu at *
            have ltum : nu < nu + 1 := by omega
            generalize nu + 1 = nm at *
            have qp5 : wx2.cell? ⟨np, 5, none⟩ = some (.int .i64 v0) := Fp.out.c 5 rfl
            have qp6 : wx2.cell? ⟨np, 6, none⟩ = some (.int .i64 v1) := Fp.out.c 6 rfl
            have qp7 : wx2.cell? ⟨np, 7, none⟩ = some (.int .i64 v2) := Fp.out.c 7 rfl
            have qu0 : wx2.cell? ⟨nu, 0, none⟩ = some (.int .i64 0) := Fu.out.c 0 rfl
            have qu1 : wx2.cell? ⟨nu, 1, none⟩ = some (.int .i64 0) := Fu.out.c 1 rfl
            have qu2 : wx2.cell? ⟨nu, 2, none⟩ = some (.int .i64 0) := Fu.out.c 2 rfl
            have qu3 : wx2.cell? ⟨nu, 3, none⟩ = some (.int .i64 0) := Fu.out.c 3 rfl
            have qm0 : wx2.cell? ⟨nm, 0, none⟩ = some (.int .i64 v0) := Fm.out.c 0 rfl
            have qm1 : wx2.cell? ⟨nm, 1, none⟩ = some (.int .i64 v1) := Fm.out.c 1 rfl
            have qm2 : wx2.cell? ⟨nm, 2, none⟩ = some (.int .i64 v2) := Fm.out.c 2 rfl
            go_upto_region 9 with (first | (go_at_call 10; refine (num14_any _ _).mono ?_; rintro e wx ⟨rfl, hwx⟩; have hwy := hwx.symm; clear hwx; subst hwy))
            clear qp5 qp6 qp7 qu0 qu1 qu2 qu3 qm0 qm1 qm2
            go_upto_region 10 with fail
            have ltpt : np < wx2.heap.size := Fp.out.1
            have ltut : nu < wx2.heap.size := Fu.out.1
            have ltmt : nm < wx2.heap.size := Fm.out.1
            have Lt : Hid (w.heap.size ≤ wx2.heap.size) := FX.out.size
            have Fp : Hid (HV (wx2.alloc (.cells #[.int .i64 0, .int .i64 0, .int .i64 0, .int .i64 0] 26)) np [.int .i64 y0, .int .i64 y1, .int .i64 y2, .int .i64 y3, .int .i64 kk, .int .i64 v0, .int .i64 v1, .int .i64 v2]) := Fp.out.alloc _
            have Fu : Hid (HV (wx2.alloc (.cells #[.int .i64 0, .int .i64 0, .int .i64 0, .int .i64 0] 26)) nu [.int .i64 0, .int .i64 0, .int .i64 0, .int .i64 0]) := Fu.out.alloc _
            have Fm : Hid (HV (wx2.alloc (.cells #[.int .i64 0, .int .i64 0, .int .i64 0, .int .i64 0] 26)) nm [.int .i64 v0, .int .i64 v1, .int .i64 v2]) := Fm.out.alloc _
            have Ft : Hid (HV (wx2.alloc (.cells #[.int .i64 0, .int .i64 0, .int .i64 0, .int .i64 0] 26)) wx2.heap.size [.int .i64 0, .int .i64 0, .int .i64 0, .int .i64 0]) := hv_at rfl
            have FX : Hid (Ext w (wx2.alloc (.cells #[.int .i64 0, .int .i64 0, .int .i64 0, .int .i64 0] 26))) := FX.out.alloc _
            generalize (wx2.alloc (.cells #[.int .i64 0, .int .i64 0, .int .i64 0, .int .i64 0] 26)) = wx3 at *
            generalize wx2.heap.size = nt at *
            clear Fu Fm
            generalize wx3 = wb at *
            have lpt : np < nt := by omega
            obtain ⟨K, eK⟩ : ∃ K : Nat, kk = (K : Int) := ⟨kk.toNat, by omega⟩
            subst eK
            have K1 : 1 ≤ K := by omega
            have K2 : K ≤ 256 := by omega
            clear kk1 kk2
            go_wp2_with fail
            go_loopw [10] (fun q wr => ∃ k1 : Nat, 1 ≤ k1 ∧ k1 ≤ K + 1 ∧ q = .int .i64 (k1 : Int) ∧ Hid (HV wr np [.int .i64 y0, .int .i64 y1, .int .i64 y2, .int .i64 y3, .int .i64 (K : Int), .int .i64 v0, .int .i64 v1, .int .i64 v2]) ∧ Hid (Ext w wr) ∧ Hid (k1 < K + 1 ∧ HV wr nt [.int .i64 (((k1 : Int) - 1) * v0), .int .i64 (((k1 : Int) - 1) * v1), .int .i64 (((k1 : Int) - 1) * v2), .int .i64 (((k1 : Int) - 1))] ∨ k1 = K + 1 ∧ HV wr nt [.int .i64 0, .int .i64 0, .int .i64 0, .int .i64 0])) (fun q _ => K + 1 - (intOf q).toNat)
            case atStart =>
              exact ⟨1, by omega, by omega, rfl, Fp, FX, .inl ⟨by omega, by simpa using Ft.out⟩⟩
            case round =>
              clear Fp FX Ft
              obtain ⟨k1, hk1, hk2, rfl, Fp, FX, Ft⟩ := hrel
              rcases Ft.out with ⟨hk3, Ft1⟩ | ⟨rfl, Ft1⟩
              · clear Ft
                generalize hj : (k1 : Int) - 1 = j at *
                have hj0 : 0 ≤ j ∧ j < (K : Int) := by omega
                have hjk : (k1 : Int) = j + 1 := by omega
                have HT : Hid (∀ w, Calls Try.prog 9 #[.agg #[.int .i64 (j * v0), .int .i64 (j * v1), .int .i64 (j * v2), .int .i64 j], .int .i64 (K : Int), .agg #[.int .i64 v0, .int .i64 v1, .int .i64 v2]] w fun e w' => e = .returned (takeT (j * v0) (j * v1) (j * v2) j K v0 v1 v2) ∧ Ext w w') := fun w => ttake_any _ _ _ _ _ _ _ _ w
                rw [HS.out j hj0] at HT
                have Ft : Hid (HV wr nt [.int .i64 (j * v0), .int .i64 (j * v1), .int .i64 (j * v2), .int .i64 j]) := Ft1
                have kle : (k1 : Int) ≤ (K : Int) := by omega
                clear HS Ft1 hj
                generalize ep0 : j * v0 = p0 at *
                generalize ep1 : j * v1 = p1 at *
                generalize ep2 : j * v2 = p2 at *
                by_cases hl : j + 1 < (K : Int)
                · rw [if_pos hl] at HT
                  have neK : ((k1 : Int) == (K : Int)) = false := by simp; omega
                  have hj2 : Hid (j + 1 = (k1 : Int)) := by show _ = _; omega
                  have hk4 : Hid (k1 < K) := by show _ < _; omega
                  clear hl hjk hj0
                  generalize eq0 : (j + 1) * v0 = r0 at *
                  generalize eq1 : (j + 1) * v1 = r1 at *
                  generalize eq2 : (j + 1) * v2 = r2 at *
                  generalize ej1 : j + 1 = j1 at *
                  have EQ : Hid (r0 = j1 * v0 ∧ r1 = j1 * v1 ∧ r2 = j1 * v2) := ⟨eq0.symm, eq1.symm, eq2.symm⟩
                  clear eq0 eq1 eq2 ej1
                  clear ep0 ep1 ep2
                  have qp4 : wr.cell? ⟨np, 4, none⟩ = some (.int .i64 (K : Int)) := Fp.out.c 4 rfl
                  have qp5 : wr.cell? ⟨np, 5, none⟩ = some (.int .i64 v0) := Fp.out.c 5 rfl
                  have qp6 : wr.cell? ⟨np, 6, none⟩ = some (.int .i64 v1) := Fp.out.c 6 rfl
                  have qp7 : wr.cell? ⟨np, 7, none⟩ = some (.int .i64 v2) := Fp.out.c 7 rfl
                  have qt0 : wr.cell? ⟨nt, 0, none⟩ = some (.int .i64 p0) := Ft.out.c 0 rfl
                  have qt1 : wr.cell? ⟨nt, 1, none⟩ = some (.int .i64 p1) := Ft.out.c 1 rfl
                  have qt2 : wr.cell? ⟨nt, 2, none⟩ = some (.int .i64 p2) := Ft.out.c 2 rfl
                  have qt3 : wr.cell? ⟨nt, 3, none⟩ = some (.int .i64 j) := Ft.out.c 3 rfl
                  go_upto_region 14 with (first | (go_at_call 9; refine (HT.out _).mono ?_; rintro e u2 ⟨rfl, x2⟩))
                  have Fp : Hid (HV u2 np [.int .i64 y0, .int .i64 y1, .int .i64 y2, .int .i64 y3, .int .i64 (K : Int), .int .i64 v0, .int .i64 v1, .int .i64 v2]) := Fp.out.ext x2
                  have Ft : Hid (HV u2 nt [.int .i64 p0, .int .i64 p1, .int .i64 p2, .int .i64 j]) := Ft.out.ext x2
                  have FX : Hid (Ext w u2) := FX.out.trans x2
                  clear qp4 qp5 qp6 qp7 qt0 qt1 qt2 qt3 x2 HT
                  have ltpx : np < u2.heap.size := Fp.out.1
                  have lttx : nt < u2.heap.size := Ft.out.1
                  have Lx : Hid (w.heap.size ≤ u2.heap.size) := FX.out.size
                  have Ln : Hid (w.heap.size ≤ u2.heap.size + 1) := Nat.le_trans FX.out.size (Nat.le_add_right _ _)
                  have Fp : Hid (HV ((u2.alloc (.cells #[.int .i64 r0, .int .i64 r1, .int .i64 r2, .int .i64 j1] 26)).alloc (.cells #[.int .i64 0, .int .i64 0, .int .i64 0] 24)) np [.int .i64 y0, .int .i64 y1, .int .i64 y2, .int .i64 y3, .int .i64 (K : Int), .int .i64 v0, .int .i64 v1, .int .i64 v2]) := ((Fp.out.alloc _).alloc _)
                  have Ft : Hid (HV ((u2.alloc (.cells #[.int .i64 r0, .int .i64 r1, .int .i64 r2, .int .i64 j1] 26)).alloc (.cells #[.int .i64 0, .int .i64 0, .int .i64 0] 24)) nt [.int .i64 p0, .int .i64 p1, .int .i64 p2, .int .i64 j]) := ((Ft.out.alloc _).alloc _)
                  have Fx : Hid (HV ((u2.alloc (.cells #[.int .i64 r0, .int .i64 r1, .int .i64 r2, .int .i64 j1] 26)).alloc (.cells #[.int .i64 0, .int .i64 0, .int .i64 0] 24)) u2.heap.size [.int .i64 r0, .int .i64 r1, .int .i64 r2, .int .i64 j1]) := ((hv_at rfl).alloc _)
                  have Fn : Hid (HV ((u2.alloc (.cells #[.int .i64 r0, .int .i64 r1, .int .i64 r2, .int .i64 j1] 26)).alloc (.cells #[.int .i64 0, .int .i64 0, .int .i64 0] 24)) (u2.heap.size + 1) [.int .i64 0, .int .i64 0, .int .i64 0]) := (hv_at (by simp))
                  have FX : Hid (Ext w ((u2.alloc (.cells #[.int .i64 r0, .int .i64 r1, .int .i64 r2, .int .i64 j1] 26)).alloc (.cells #[.int .i64 0, .int .i64 0, .int .i64 0] 24))) := ((FX.out.alloc _).alloc _)
                  generalize ((u2.alloc (.cells #[.int .i64 r0, .int .i64 r1, .int .i64 r2, .int .i64 j1] 26)).alloc (.cells #[.int .i64 0, .int .i64 0, .int .i64 0] 24)) = wx1 at *
                  generalize u2.heap.size = nx at *
                  have ltxn : nx < nx + 1 := by omega
                  generalize nx + 1 = nn at *
                  have qp4 : wx1.cell? ⟨np, 4, none⟩ = some (.int .i64 (K : Int)) := Fp.out.c 4 rfl
                  have qp5 : wx1.cell? ⟨np, 5, none⟩ = some (.int .i64 v0) := Fp.out.c 5 rfl
                  have qp6 : wx1.cell? ⟨np, 6, none⟩ = some (.int .i64 v1) := Fp.out.c 6 rfl
                  have qp7 : wx1.cell? ⟨np, 7, none⟩ = some (.int .i64 v2) := Fp.out.c 7 rfl
                  have qn0 : wx1.cell? ⟨nn, 0, none⟩ = some (.int .i64 0) := Fn.out.c 0 rfl
                  have qn1 : wx1.cell? ⟨nn, 1, none⟩ = some (.int .i64 0) := Fn.out.c 1 rfl
                  have qn2 : wx1.cell? ⟨nn, 2, none⟩ = some (.int .i64 0) := Fn.out.c 2 rfl
                  go_upto_region 16 with (first | (go_at_call 10; refine (num14_any _ _).mono ?_; rintro e wx ⟨rfl, hwx⟩; have hwy := hwx.symm; clear hwx; subst hwy))
                  clear qp4 qp5 qp6 qp7 qn0 qn1 qn2
                  have qx0 : wx1.cell? ⟨nx, 0, none⟩ = some (.int .i64 r0) := Fx.out.c 0 rfl
                  have qx1 : wx1.cell? ⟨nx, 1, none⟩ = some (.int .i64 r1) := Fx.out.c 1 rfl
                  have qx2 : wx1.cell? ⟨nx, 2, none⟩ = some (.int .i64 r2) := Fx.out.c 2 rfl
                  have qx3 : wx1.cell? ⟨nx, 3, none⟩ = some (.int .i64 j1) := Fx.out.c 3 rfl
                  have qt0 : wx1.cell? ⟨nt, 0, none⟩ = some (.int .i64 p0) := Ft.out.c 0 rfl
                  have zt0 : wx1.frozen? ⟨nt, 0, none⟩ = false := Ft.out.f 0 rfl
                  have qt1 : wx1.cell? ⟨nt, 1, none⟩ = some (.int .i64 p1) := Ft.out.c 1 rfl
                  have zt1 : wx1.frozen? ⟨nt, 1, none⟩ = false := Ft.out.f 1 rfl
                  have qt2 : wx1.cell? ⟨nt, 2, none⟩ = some (.int .i64 p2) := Ft.out.c 2 rfl
                  have zt2 : wx1.frozen? ⟨nt, 2, none⟩ = false := Ft.out.f 2 rfl
                  have qt3 : wx1.cell? ⟨nt, 3, none⟩ = some (.int .i64 j) := Ft.out.c 3 rfl
                  have zt3 : wx1.frozen? ⟨nt, 3, none⟩ = false := Ft.out.f 3 rfl
                  go_wp2_with fail
                  go_roundw
                  case rel =>
                    obtain ⟨E0, E1, E2⟩ := EQ.out
                    subst E0 E1 E2
                    have e1 : (((k1 + 1 : Nat) : Int) - 1) = j1 := by have := hj2.out; omega
                    have e2 := hk4.out
                    refine ⟨k1 + 1, by omega, by omega, by go_num, ((((Fp.out.far (by omega)).far (by omega)).far (by omega)).far (by omega)), ((((FX.out.set (p := ⟨nt, 0, none⟩) Lt.out _).set (p := ⟨nt, 1, none⟩) Lt.out _).set (p := ⟨nt, 2, none⟩) Lt.out _).set (p := ⟨nt, 3, none⟩) Lt.out _), .inl ⟨by omega, ?_⟩⟩
                    rw [e1]
                    exact ((((Ft.out.set 0 (.int .i64 (j1 * v0))).set 1 (.int .i64 (j1 * v1))).set 2 (.int .i64 (j1 * v2))).set 3 (.int .i64 j1))
                  case measure => first | (simp [intOf]; done) | (simp [intOf]; omega)
                · rw [if_neg hl] at HT
                  have hkK : k1 = K := by omega
                  subst hkK
                  clear hl hjk hj0 kle
                  clear ep0 ep1 ep2
                  have qp4 : wr.cell? ⟨np, 4, none⟩ = some (.int .i64 (k1 : Int)) := Fp.out.c 4 rfl
                  have qp5 : wr.cell? ⟨np, 5, none⟩ = some (.int .i64 v0) := Fp.out.c 5 rfl
                  have qp6 : wr.cell? ⟨np, 6, none⟩ = some (.int .i64 v1) := Fp.out.c 6 rfl
                  have qp7 : wr.cell? ⟨np, 7, none⟩ = some (.int .i64 v2) := Fp.out.c 7 rfl
                  have qt0 : wr.cell? ⟨nt, 0, none⟩ = some (.int .i64 p0) := Ft.out.c 0 rfl
                  have qt1 : wr.cell? ⟨nt, 1, none⟩ = some (.int .i64 p1) := Ft.out.c 1 rfl
                  have qt2 : wr.cell? ⟨nt, 2, none⟩ = some (.int .i64 p2) := Ft.out.c 2 rfl
                  have qt3 : wr.cell? ⟨nt, 3, none⟩ = some (.int .i64 j) := Ft.out.c 3 rfl
                  go_upto_region 14 with (first | (go_at_call 9; refine (HT.out _).mono ?_; rintro e u2 ⟨rfl, x2⟩))
                  have Fp : Hid (HV u2 np [.int .i64 y0, .int .i64 y1, .int .i64 y2, .int .i64 y3, .int .i64 (k1 : Int), .int .i64 v0, .int .i64 v1, .int .i64 v2]) := Fp.out.ext x2
                  have Ft : Hid (HV u2 nt [.int .i64 p0, .int .i64 p1, .int .i64 p2, .int .i64 j]) := Ft.out.ext x2
                  have FX : Hid (Ext w u2) := FX.out.trans x2
                  clear qp4 qp5 qp6 qp7 qt0 qt1 qt2 qt3 x2 HT
                  have ltpx : np < u2.heap.size := Fp.out.1
                  have lttx : nt < u2.heap.size := Ft.out.1
                  have Lx : Hid (w.heap.size ≤ u2.heap.size) := FX.out.size
                  have Ln : Hid (w.heap.size ≤ u2.heap.size + 1) := Nat.le_trans FX.out.size (Nat.le_add_right _ _)
                  have Fp : Hid (HV ((u2.alloc (.cells #[.int .i64 0, .int .i64 0, .int .i64 0, .int .i64 0] 26)).alloc (.cells #[.int .i64 v0, .int .i64 v1, .int .i64 v2] 24)) np [.int .i64 y0, .int .i64 y1, .int .i64 y2, .int .i64 y3, .int .i64 (k1 : Int), .int .i64 v0, .int .i64 v1, .int .i64 v2]) := ((Fp.out.alloc _).alloc _)
                  have Ft : Hid (HV ((u2.alloc (.cells #[.int .i64 0, .int .i64 0, .int .i64 0, .int .i64 0] 26)).alloc (.cells #[.int .i64 v0, .int .i64 v1, .int .i64 v2] 24)) nt [.int .i64 p0, .int .i64 p1, .int .i64 p2, .int .i64 j]) := ((Ft.out.alloc _).alloc _)
                  have Fx : Hid (HV ((u2.alloc (.cells #[.int .i64 0, .int .i64 0, .int .i64 0, .int .i64 0] 26)).alloc (.cells #[.int .i64 v0, .int .i64 v1, .int .i64 v2] 24)) u2.heap.size [.int .i64 0, .int .i64 0, .int .i64 0, .int .i64 0]) := ((hv_at rfl).alloc _)
                  have Fn : Hid (HV ((u2.alloc (.cells #[.int .i64 0, .int .i64 0, .int .i64 0, .int .i64 0] 26)).alloc (.cells #[.int .i64 v0, .int .i64 v1, .int .i64 v2] 24)) (u2.heap.size + 1) [.int .i64 v0, .int .i64 v1, .int .i64 v2]) := (hv_at (by simp))
                  have FX : Hid (Ext w ((u2.alloc (.cells #[.int .i64 0, .int .i64 0, .int .i64 0, .int .i64 0] 26)).alloc (.cells #[.int .i64 v0, .int .i64 v1, .int .i64 v2] 24))) := ((FX.out.alloc _).alloc _)
                  generalize ((u2.alloc (.cells #[.int .i64 0, .int .i64 0, .int .i64 0, .int .i64 0] 26)).alloc (.cells #[.int .i64 v0, .int .i64 v1, .int .i64 v2] 24)) = wx1 at *
                  generalize u2.heap.size = nx at *
                  have ltxn : nx < nx + 1 := by omega
                  generalize nx + 1 = nn at *
                  have qp4 : wx1.cell? ⟨np, 4, none⟩ = some (.int .i64 (k1 : Int)) := Fp.out.c 4 rfl
                  have qp5 : wx1.cell? ⟨np, 5, none⟩ = some (.int .i64 v0) := Fp.out.c 5 rfl
                  have qp6 : wx1.cell? ⟨np, 6, none⟩ = some (.int .i64 v1) := Fp.out.c 6 rfl
                  have qp7 : wx1.cell? ⟨np, 7, none⟩ = some (.int .i64 v2) := Fp.out.c 7 rfl
                  have qn0 : wx1.cell? ⟨nn, 0, none⟩ = some (.int .i64 v0) := Fn.out.c 0 rfl
                  have qn1 : wx1.cell? ⟨nn, 1, none⟩ = some (.int .i64 v1) := Fn.out.c 1 rfl
                  have qn2 : wx1.cell? ⟨nn, 2, none⟩ = some (.int .i64 v2) := Fn.out.c 2 rfl
                  go_upto_region 16 with (first | (go_at_call 10; refine (num14_any _ _).mono ?_; rintro e wx ⟨rfl, hwx⟩; have hwy := hwx.symm; clear hwx; subst hwy))
                  clear qp4 qp5 qp6 qp7 qn0 qn1 qn2
                  have qx0 : wx1.cell? ⟨nx, 0, none⟩ = some (.int .i64 0) := Fx.out.c 0 rfl
                  have qx1 : wx1.cell? ⟨nx, 1, none⟩ = some (.int .i64 0) := Fx.out.c 1 rfl
                  have qx2 : wx1.cell? ⟨nx, 2, none⟩ = some (.int .i64 0) := Fx.out.c 2 rfl
                  have qx3 : wx1.cell? ⟨nx, 3, none⟩ = some (.int .i64 0) := Fx.out.c 3 rfl
                  have qt0 : wx1.cell? ⟨nt, 0, none⟩ = some (.int .i64 p0) := Ft.out.c 0 rfl
                  have zt0 : wx1.frozen? ⟨nt, 0, none⟩ = false := Ft.out.f 0 rfl
                  have qt1 : wx1.cell? ⟨nt, 1, none⟩ = some (.int .i64 p1) := Ft.out.c 1 rfl
                  have zt1 : wx1.frozen? ⟨nt, 1, none⟩ = false := Ft.out.f 1 rfl
                  have qt2 : wx1.cell? ⟨nt, 2, none⟩ = some (.int .i64 p2) := Ft.out.c 2 rfl
                  have zt2 : wx1.frozen? ⟨nt, 2, none⟩ = false := Ft.out.f 2 rfl
                  have qt3 : wx1.cell? ⟨nt, 3, none⟩ = some (.int .i64 j) := Ft.out.c 3 rfl
                  have zt3 : wx1.frozen? ⟨nt, 3, none⟩ = false := Ft.out.f 3 rfl
                  go_wp2_with fail
                  go_roundw
                  case rel => exact ⟨k1 + 1, by omega, by omega, by go_num, ((((Fp.out.far (by omega)).far (by omega)).far (by omega)).far (by omega)), ((((FX.out.set (p := ⟨nt, 0, none⟩) Lt.out _).set (p := ⟨nt, 1, none⟩) Lt.out _).set (p := ⟨nt, 2, none⟩) Lt.out _).set (p := ⟨nt, 3, none⟩) Lt.out _), .inr ⟨rfl, ((((Ft.out.set 0 (.int .i64 0)).set 1 (.int .i64 0)).set 2 (.int .i64 0)).set 3 (.int .i64 0))⟩⟩
                  case measure => first | (simp [intOf]; done) | (simp [intOf]; omega)
              · clear Ft HS
                have Ft : Hid (HV wr nt [.int .i64 0, .int .i64 0, .int .i64 0, .int .i64 0]) := Ft1
                clear Ft1
                have qp4 : wr.cell? ⟨np, 4, none⟩ = some (.int .i64 (K : Int)) := Fp.out.c 4 rfl
                go_wp2_with fail
                go_roundw
                case rel => exact ⟨k + 1, by omega, by go_num, FX⟩
                case measure => simp [intOf]; omega
      · go_wp2_with fail
        refine (wakes14_any _).mono ?_
        rintro e w1 ⟨rfl, x1⟩
        have E1 : Ext w w1 := FX.out.trans x1
        go_wp2_with fail
        go_ret
        exact ⟨rfl, E1⟩
    · have hk' : k = len := by omega
      subst hk'
      go_wp2_with fail
      refine (wakes14_any _).mono ?_
      rintro e w1 ⟨rfl, x1⟩
      have E1 : Ext w w1 := FX.out.trans x1
      go_wp2_with fail
      go_ret
      exact ⟨rfl, E1⟩
set_option maxHeartbeats 4000000 in
theorem thinones_none (a : Option Addr) (cap : Nat) (w : World) :
    Calls Try.prog 5 #[.slice a 0 cap] w fun e w' => e = .returned (.bool true) ∧ Ext w w' := by
  go_enter Try.func5, Try.ntmps5
  go_wp2_with fail
  go_loopw [3] (fun i wr => i = .int .i64 0 ∧ Hid (Ext w wr)) (fun _ _ => 0)
  case atStart => exact ⟨rfl, Ext.refl _⟩
  case round =>
    obtain ⟨rfl, FX⟩ := hrel
    go_wp2_with fail
    refine (wakes14_any _).mono ?_
    rintro e w1 ⟨rfl, x1⟩
    have E1 : Ext w w1 := FX.out.trans x1
    go_wp2_with fail
    go_ret
    exact ⟨rfl, E1⟩
end Go.Proofs.Ytkcfgkedgjpeoaa
