/- MedianExact: its walk. -/
import Derived.Test.YtfooakbcgjebfaaMdt
namespace Go.Proofs.Ytfooakbcgjebfaa
open Go.RowKit Go.Conc Go.Shelf Go.Lib
set_option maxRecDepth 20000 in
set_option maxHeartbeats 8000000 in
theorem exact_walk (L : List Ask) (a : Option Addr) (c : Nat) (w : World) (hL : AL w a L) : Calls Try.prog 3 #[.slice a L.length c] w fun e w' => e = .returned (.bool true) ∧ Ext w w' := by
  have HN : Hid (∀ v w, Calls Try.prog 10 #[.int .i64 v] w fun e w' => e = .returned (.int .i64 v) ∧ w' = w) := num13_any
  have HW : Hid (∀ w, Calls Try.prog 13 #[] w fun e w' => e = .returned (.bool true) ∧ Ext w w') := wakes13_any
  have HL : Hid (AL w a L) := hL
  have hx0 : Hid (Ext w w) := Ext.refl w
  clear hL
  go_enter Try.func3, Try.ntmps3
  go_wp2_with fail
  go_loopw [3] (fun i wr => ∃ k : Nat, k ≤ 20 ∧ i = .int .i64 k ∧ Hid (Ext w wr)) (fun i _ => 20 - (intOf i).toNat)
  case atStart => exact ⟨0, by omega, rfl, hx0⟩
  case round =>
    obtain ⟨k, hk, rfl, hR⟩ := hrel
    by_cases hlt : k < L.length
    · have hlt2 : (k : Int) < (L.length : Int) := by omega
      by_cases h20 : k < 20
      · have h202 : (k : Int) < 20 := by omega
        obtain ⟨q, hq⟩ : ∃ q, L[k]? = some q := ⟨_, List.getElem?_eq_getElem hlt⟩
        obtain ⟨b, off, la, lc, rfl, ⟨d0, d1, d2, d3', d4'⟩, HV0, _⟩ := (HL.out.ext hR.out) k q hq
        have d3 : wr.cell? ⟨b, off + k * 5 + 3, none⟩ = some (.int .i64 q.v.y) := d3'
        have d4 : wr.cell? ⟨b, off + k * 5 + 4, none⟩ = some (.int .i64 q.v.z) := d4'
        have P0 : Hid (P5 (wr.alloc (asko la lc q)) wr.heap.size la lc q) := p5_at rfl
        have X0 : Hid (Ext w (wr.alloc (asko la lc q))) := hR.out.alloc _
        have HV : Hid (VL (wr.alloc (asko la lc q)) la q.l) := HV0.ext ((Ext.refl wr).alloc _)
        clear HV0 d3' d4' hq hlt
        obtain ⟨ql, n, v⟩ := q
        dsimp only at d0 d1 d2 d3 d4 HV
        by_cases h50 : ql.length ≤ 50
        · have h502 : (ql.length : Int) ≤ 50 := by omega
          have H50 : Hid (ql.length ≤ 50) := h50
          go_upto_region 5 with fail
          generalize wr.alloc (asko la lc ⟨ql, n, v⟩) = u0 at *
          generalize wr.heap.size = V at *
          clear d0 d1 d2 d3 d4 hR h50
          obtain ⟨a0, a1, a2, a3, a4⟩ := P0.out
          go_upto_region 10 with fail
          have x01 : Ext u0 (u0.alloc cells0) := (Ext.refl u0).alloc _
          have P1 : Hid (P5 (u0.alloc cells0) V la lc ⟨ql, n, v⟩) := P0.out.ext x01
          have Q1 : Hid (P3 (u0.alloc cells0) u0.heap.size nought) := p3_at (r := nought) rfl
          have X1 : Hid (Ext w (u0.alloc cells0)) := X0.out.trans x01
          have VL1 : Hid (VL (u0.alloc cells0) la ql) := HV.out.ext x01
          have LW : Hid (V < u0.heap.size) := P0.out.lt
          have HWB : Hid (w.heap.size ≤ u0.heap.size) := X0.out.size
          have HLB : Hid (∀ W, Ext u0 W → VL W la ql) := fun W xx => HV.out.ext xx
          have XB0 : Hid (Ext u0 (u0.alloc cells0)) := x01
          clear a0 a1 a2 a3 a4 x01 P0 X0 HV h502
          generalize u0.alloc cells0 = u1 at *
          obtain ⟨WB, hWB⟩ : ∃ WB, u0.heap.size = WB := ⟨_, rfl⟩
          rw [hWB] at HWB LW Q1 ⊢
          have HWB2 : Hid (u0.heap.size ≤ WB) := Nat.le_of_eq hWB
          clear hWB
          have HA : Hid (Calls Try.prog 6 #[askv la lc ⟨ql, n, v⟩] u1 fun e w' => e = .returned (.bool (okA ⟨ql, n, v⟩)) ∧ Ext u1 w') := may13_any ⟨ql, n, v⟩ la lc _ VL1.out
          obtain ⟨a0, a1, a2, a3, a4⟩ := P1.out
          cases hoa : okA ⟨ql, n, v⟩
          · have HO : Hid ((okWin ql n && okv v) = false) := hoa
            rw [hoa] at HA
            clear hoa
            go_upto_region 13 with (go_at_call 6; refine HA.out.mono ?_; rintro e wb ⟨rfl, x1⟩)
            have X2 : Hid (Ext w wb) := X1.out.trans x1
            have P2 : Hid (P5 wb V la lc ⟨ql, n, v⟩) := P1.out.ext x1
            have Q2 : Hid (P3 wb WB nought) := Q1.out.ext x1
            have VL2 : Hid (VL wb la ql) := VL1.out.ext x1
            have VW2 : Hid (VL wb none ([] : List Vc)) := VL.nil _ _
            clear a0 a1 a2 a3 a4 X1 P1 Q1 VL1 x1 HA LW
            have HC : Hid (Calls Try.prog 8 #[.slice la ql.length lc] wb fun e w' => ∃ r rc, e = .returned (.slice r ql.length rc) ∧ w'.ownsRow wb.heap.size Erw 3 (.slice r ql.length rc) ql.length (vcs ql) ∧ Ext wb w') := copyvecs_any ql la lc wb VL2.out (by have := H50.out; omega)
            obtain ⟨a0, a1, a2, a3, a4⟩ := P2.out
            go_upto_region 14 with (go_at_call 8; refine HC.out.mono ?_; rintro e w3 ⟨r, rc, rfl, O3, x3⟩)
            have X3 : Hid (Ext w w3) := X2.out.trans x3
            have P3' : Hid (P5 w3 V la lc ⟨ql, n, v⟩) := P2.out.ext x3
            have Q3 : Hid (P3 w3 WB nought) := Q2.out.ext x3
            have VW3 : Hid (VL w3 none ([] : List Vc)) := VW2.out.ext x3
            have VL3 : Hid (VL w3 la ql) := VL2.out.ext x3
            have VR3 : Hid (VL w3 r ql) := vl_own O3 rfl
            have HT : Hid (Calls Try.prog 9 #[.slice r ql.length rc, .int .i64 n, rv v] w3 fun e w' => e = .returned (.tuple #[.slice none 0 0, rv nought, .int .i64 1]) ∧ Ext w3 w') := take_bad ql r rc n v w3 VR3.out HO.out
            clear HC a0 a1 a2 a3 a4 O3 x3 X2 P2 Q2 VW2 VL2
            obtain ⟨a0, a1, a2, a3, a4⟩ := P3'.out
            go_upto_region 15 with (go_at_call 9; refine HT.out.mono ?_; rintro e w4 ⟨rfl, x4⟩)
            have x34 : Hid (Ext w3 (w4.alloc (cells3 nought))) := x4.alloc _
            have M4 : Hid (P3 (w4.alloc (cells3 nought)) w4.heap.size nought) := p3_at (r := nought) rfl
            have RX : Hid ((w4.alloc (cells3 nought)).ownsRow w3.heap.size Erw 3 (.slice none 0 0) 0 (vcs [])) := World.ownsRow_nil _ _ _ _
            generalize w4.alloc (cells3 nought) = u4 at *
            generalize w4.heap.size = M at *
            have VX : Hid (VL u4 none ([] : List Vc)) := VL.nil _ _
            have HE1 : Hid (Calls Try.prog 11 #[.slice none 0 0, .slice none 0 0] u4 fun e w' => e = .returned (.bool true) ∧ Ext u4 w') := eqvecs_same ([] : List Vc) none none 0 0 (by simp) u4 VX.out (VW3.out.ext x34.out)
            have HE2 : Hid (∀ W, Ext w3 W → Calls Try.prog 11 #[.slice r ql.length rc, .slice la ql.length lc] W fun e w' => e = .returned (.bool true) ∧ Ext W w') := fun W xx => eqvecs_same ql r la rc lc (by have := H50.out; omega) W (VR3.out.ext xx) (VL3.out.ext xx)
            have HP4 : Hid (∀ W, Ext w3 W → P5 W V la lc ⟨ql, n, v⟩) := fun W xx => P3'.out.ext xx
            have Q4 : Hid (P3 u4 WB nought) := Q3.out.ext x34.out
            clear a0 a1 a2 a3 a4 HT x4 P3' Q3 VW3 VL3 VR3 VX
            obtain ⟨⟨m0, m1, m2⟩, _⟩ := M4.out
            obtain ⟨⟨q0, q1, q2⟩, _⟩ := Q4.out
            go_upto_region 17 with (first | (go_at_call 10; refine (HN.out _ _).mono ?_; rintro e wx ⟨rfl, hwx⟩; have hwy := hwx.symm; clear hwx; subst hwy) | (go_at_call_of 11 (Value.slice none 0 0); refine HE1.out.mono ?_; rintro e w5 ⟨rfl, x5⟩; obtain ⟨b0, b1, b2, b3, b4⟩ := HP4.out w5 (x34.out.trans x5)) | (go_at_call_of 11 (Value.slice r ql.length rc); refine (HE2.out w5 (x34.out.trans x5)).mono ?_; rintro e w6 ⟨rfl, x6⟩))
            have x46 : Hid (Ext u4 w6) := x5.trans x6
            have HS : Hid (Calls Try.prog 12 #[.slice none 0 0] w6 fun e w' => (∃ u, e = .returned u) ∧ Ext w3 w') := (spoil_any w6 w3.heap.size none 0 0 _ (vrow_ext RX.out x46.out) (by omega) (Nat.le_trans x34.out.size x46.out.size)).mono fun e w' ⟨h1, h2⟩ => ⟨h1, h2.below (x34.out.trans x46.out) (fun i e => (RX.out.lt i e).1)⟩
            clear m0 m1 m2 q0 q1 q2 b0 b1 b2 b3 b4 HE1 M4 Q4 RX x5 x6
            go_upto_region 18 with (go_at_call 12; refine HS.out.mono ?_; rintro e w7 ⟨⟨u, rfl⟩, x7⟩)
            obtain ⟨b0, b1, b2, b3, b4⟩ := HP4.out w7 x7
            have HE3 := HE2.out w7 x7
            have X7 : Hid (Ext w w7) := X3.out.trans x7
            clear HE2 HP4 HS x7 x46 x34 X3
            go_wp2_with (go_at_call 11; refine HE3.mono ?_; rintro e w8 ⟨rfl, x8⟩)
            have X8 : Hid (Ext w w8) := X7.out.trans x8
            clear b0 b1 b2 b3 b4 x8 X7 HE3
            go_roundw
            case measure => simp [intOf]; omega
            case rel => exact ⟨k + 1, by omega, by simp, X8⟩
          · have hoa2 : okWin ql n = true ∧ okv v = true := by unfold okA at hoa; simpa using hoa
            rw [hoa] at HA
            clear hoa
            obtain ⟨n1, n7, hle⟩ := okWin_le hoa2.1
            obtain ⟨N, hNn⟩ : ∃ N : Nat, n = (N : Int) := ⟨n.toNat, by omega⟩
            have HNn : Hid (n = (N : Int)) := hNn
            obtain ⟨ms, hms⟩ : ∃ ms, pushL N ql v = ms := ⟨_, rfl⟩
            obtain ⟨m, hm⟩ : ∃ m, medv ms = m := ⟨_, rfl⟩
            have HML : Hid (ms.length ≤ 7) := by
              have h5 := pushL_le (n := N) v (l := ql) (by omega) (by omega)
              rw [hms] at h5
              show _ ≤ _
              omega
            have HO : Hid (okWin ql N = true ∧ okv v = true ∧ pushL N ql v = ms ∧ medv ms = m ∧ True) := ⟨by rw [← hNn]; exact hoa2.1, hoa2.2, hms, hm, trivial⟩
            clear hoa2 n1 n7 hle hNn hms hm
            go_upto_region 12 with (go_at_call 6; refine HA.out.mono ?_; rintro e w1 ⟨rfl, x1⟩)
            have X1' : Hid (Ext w w1) := X1.out.trans x1
            have P1' : Hid (P5 w1 V la lc ⟨ql, n, v⟩) := P1.out.ext x1
            have Q1' : Hid (P3 w1 WB nought) := Q1.out.ext x1
            have VL1' : Hid (VL w1 la ql) := VL1.out.ext x1
            have XB : Hid (Ext u0 w1) := XB0.out.trans x1
            have HMd : Hid (Calls Try.prog 7 #[.slice la ql.length lc, .int .i64 n, rv v] w1 fun e w' => ∃ g o c, e = .returned (.tuple #[.slice (some ⟨g, o, none⟩) ms.length c, rv m]) ∧ VL w' (some ⟨g, o, none⟩) ms ∧ w1.heap.size ≤ g ∧ Ext w1 w') := by
              have h5 := rmedian_any ql la lc N v w1 VL1'.out HO.out.1
              rw [HO.out.2.2.1, HO.out.2.2.2.1, ← HNn.out] at h5
              exact h5
            clear a0 a1 a2 a3 a4 X1 P1 Q1 VL1 x1 HA
            obtain ⟨a0, a1, a2, a3, a4⟩ := P1'.out
            go_upto_region 13 with (go_at_call 7; refine HMd.out.mono ?_; rintro e w2 ⟨gw, ow, cw, rfl, hvw, hgw, x2⟩; obtain ⟨⟨z0, z1, z2⟩, f0, f1, f2⟩ := Q1'.out.ext x2)
            have e7 : Hid (put3 w2 WB 0 m = ((w2.setCell ⟨WB, 0, none⟩ (.int .i64 m.x)).setCell ⟨WB, 1, none⟩ (.int .i64 m.y)).setCell ⟨WB, 2, none⟩ (.int .i64 m.z)) := rfl
            rw [← e7.out]
            have lw : WB < w1.heap.size := Q1'.out.lt
            have t7 : Tn (fun k => k = WB) w2 (put3 w2 WB 0 m) := put3_tn w2 WB 0 m
            have X2 : Hid (Ext w (put3 w2 WB 0 m)) := t7.below (X1'.out.trans x2) (fun i e => by rw [e]; exact HWB.out)
            have P2 : Hid (P5 (put3 w2 WB 0 m) V la lc ⟨ql, n, v⟩) := (P1'.out.ext x2).tn t7 (by have := LW.out; omega)
            have Q2 : Hid (P3 (put3 w2 WB 0 m) WB m) := (Q1'.out.ext x2).set m
            have VL2 : Hid (VL (put3 w2 WB 0 m) la ql) := (HLB.out _ (t7.below (XB.out.trans x2) (fun i e => by rw [e]; exact HWB2.out)))
            have VW2 : Hid (VL (put3 w2 WB 0 m) (some ⟨gw, ow, none⟩) ms) := hvw.tn t7 (by omega)
            clear a0 a1 a2 a3 a4 z0 z1 z2 f0 f1 f2 X1' P1' Q1' VL1' HMd hvw hgw x2 e7 lw t7 LW
            generalize put3 w2 WB 0 m = wb at *
            have HC : Hid (Calls Try.prog 8 #[.slice la ql.length lc] wb fun e w' => ∃ r rc, e = .returned (.slice r ql.length rc) ∧ w'.ownsRow wb.heap.size Erw 3 (.slice r ql.length rc) ql.length (vcs ql) ∧ Ext wb w') := copyvecs_any ql la lc wb VL2.out (by have := H50.out; omega)
            obtain ⟨a0, a1, a2, a3, a4⟩ := P2.out
            go_upto_region 14 with (go_at_call 8; refine HC.out.mono ?_; rintro e w3 ⟨r, rc, rfl, O3, x3⟩)
            have X3 : Hid (Ext w w3) := X2.out.trans x3
            have P3' : Hid (P5 w3 V la lc ⟨ql, n, v⟩) := P2.out.ext x3
            have Q3 : Hid (P3 w3 WB m) := Q2.out.ext x3
            have VW3 : Hid (VL w3 (some ⟨gw, ow, none⟩) ms) := VW2.out.ext x3
            have VL3 : Hid (VL w3 la ql) := VL2.out.ext x3
            have VR3 : Hid (VL w3 r ql) := vl_own O3 rfl
            have HT : Hid (Calls Try.prog 9 #[.slice r ql.length rc, .int .i64 n, rv v] w3 fun e w' => ∃ g cap, e = .returned (.tuple #[.slice (some ⟨g, 0, none⟩) ms.length cap, rv m, .int .i64 0]) ∧ w'.ownsRow w3.heap.size Erw 3 (.slice (some ⟨g, 0, none⟩) ms.length cap) ms.length (vcs ms) ∧ Ext w3 w') := by
              have h5 := take_good ql r rc N v w3 VR3.out HO.out.1 HO.out.2.1
              rw [HO.out.2.2.1, HO.out.2.2.2.1, ← HNn.out] at h5
              exact h5
            clear HC a0 a1 a2 a3 a4 O3 x3 X2 P2 Q2 VW2 VL2
            obtain ⟨a0, a1, a2, a3, a4⟩ := P3'.out
            go_upto_region 15 with (go_at_call 9; refine HT.out.mono ?_; rintro e w4 ⟨gx, cx, rfl, ho, x4⟩)
            have x34 : Hid (Ext w3 (w4.alloc (cells3 m))) := x4.alloc _
            have M4 : Hid (P3 (w4.alloc (cells3 m)) w4.heap.size m) := p3_at (r := m) rfl
            have RX : Hid ((w4.alloc (cells3 m)).ownsRow w3.heap.size Erw 3 (.slice (some ⟨gx, 0, none⟩) ms.length cx) ms.length (vcs ms)) := vrow_ext ho ((Ext.refl w4).alloc _)
            generalize w4.alloc (cells3 m) = u4 at *
            generalize w4.heap.size = M at *
            have VX : Hid (VL u4 (some ⟨gx, 0, none⟩) ms) := vl_own RX.out rfl
            have HE1 : Hid (Calls Try.prog 11 #[.slice (some ⟨gx, 0, none⟩) ms.length cx, .slice (some ⟨gw, ow, none⟩) ms.length cw] u4 fun e w' => e = .returned (.bool true) ∧ Ext u4 w') := eqvecs_same ms (some ⟨gx, 0, none⟩) (some ⟨gw, ow, none⟩) cx cw (by have := HML.out; omega) u4 VX.out (VW3.out.ext x34.out)
            have HE2 : Hid (∀ W, Ext w3 W → Calls Try.prog 11 #[.slice r ql.length rc, .slice la ql.length lc] W fun e w' => e = .returned (.bool true) ∧ Ext W w') := fun W xx => eqvecs_same ql r la rc lc (by have := H50.out; omega) W (VR3.out.ext xx) (VL3.out.ext xx)
            have HP4 : Hid (∀ W, Ext w3 W → P5 W V la lc ⟨ql, n, v⟩) := fun W xx => P3'.out.ext xx
            have Q4 : Hid (P3 u4 WB m) := Q3.out.ext x34.out
            clear a0 a1 a2 a3 a4 HT ho x4 P3' Q3 VW3 VL3 VR3 VX
            obtain ⟨⟨m0, m1, m2⟩, _⟩ := M4.out
            obtain ⟨⟨q0, q1, q2⟩, _⟩ := Q4.out
            go_upto_region 17 with (first | (go_at_call 10; refine (HN.out _ _).mono ?_; rintro e wx ⟨rfl, hwx⟩; have hwy := hwx.symm; clear hwx; subst hwy) | (go_at_call_of 11 (Value.slice (some ⟨gx, 0, none⟩) ms.length cx); refine HE1.out.mono ?_; rintro e w5 ⟨rfl, x5⟩; obtain ⟨b0, b1, b2, b3, b4⟩ := HP4.out w5 (x34.out.trans x5)) | (go_at_call_of 11 (Value.slice r ql.length rc); refine (HE2.out w5 (x34.out.trans x5)).mono ?_; rintro e w6 ⟨rfl, x6⟩))
            have x46 : Hid (Ext u4 w6) := x5.trans x6
            have HS : Hid (Calls Try.prog 12 #[.slice (some ⟨gx, 0, none⟩) ms.length cx] w6 fun e w' => (∃ u, e = .returned u) ∧ Ext w3 w') := (spoil_any w6 w3.heap.size (some ⟨gx, 0, none⟩) cx ms.length _ (vrow_ext RX.out x46.out) (by have := HML.out; omega) (Nat.le_trans x34.out.size x46.out.size)).mono fun e w' ⟨h1, h2⟩ => ⟨h1, h2.below (x34.out.trans x46.out) (fun i e => (RX.out.lt i e).1)⟩
            clear m0 m1 m2 q0 q1 q2 b0 b1 b2 b3 b4 HE1 M4 Q4 RX x5 x6
            go_upto_region 18 with (go_at_call 12; refine HS.out.mono ?_; rintro e w7 ⟨⟨u, rfl⟩, x7⟩)
            obtain ⟨b0, b1, b2, b3, b4⟩ := HP4.out w7 x7
            have HE3 := HE2.out w7 x7
            have X7 : Hid (Ext w w7) := X3.out.trans x7
            clear HE2 HP4 HS x7 x46 x34 X3
            go_wp2_with (go_at_call 11; refine HE3.mono ?_; rintro e w8 ⟨rfl, x8⟩)
            have X8 : Hid (Ext w w8) := X7.out.trans x8
            clear b0 b1 b2 b3 b4 x8 X7 HE3
            go_roundw
            case measure => simp [intOf]; omega
            case rel => exact ⟨k + 1, by omega, by simp, X8⟩
        · have h502 : ¬ (ql.length : Int) ≤ 50 := by omega
          go_upto_region 5 with fail
          generalize wr.alloc (asko la lc ⟨ql, n, v⟩) = u0 at *
          generalize wr.heap.size = V at *
          clear d0 d1 d2 d3 d4 hR
          obtain ⟨a0, a1, a2, a3, a4⟩ := P0.out
          go_wp2_with fail
          go_ret
          exact ⟨rfl, X0.out⟩
      · have h202 : ¬ (k : Int) < 20 := by omega
        go_wp2_with (go_at_call 13; refine (HW.out _).mono ?_; rintro e w9 ⟨rfl, x9⟩)
        go_ret
        exact ⟨rfl, hR.out.trans x9⟩
    · have hlt2 : ¬ (k : Int) < (L.length : Int) := by omega
      go_wp2_with (go_at_call 13; refine (HW.out _).mono ?_; rintro e w9 ⟨rfl, x9⟩)
      go_ret
      exact ⟨rfl, hR.out.trans x9⟩
end Go.Proofs.Ytfooakbcgjebfaa
