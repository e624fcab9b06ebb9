/- DrvBus: its walk. -/
import Derived.Test.YtdfhhfpfnkjbnaaBn6
import Derived.Test.YtdfhhfpfnkjbnaaBn7
namespace Go.Proofs.Ytdfhhfpfnkjbnaa
open Go.RowKit Go.Conc
theorem lt_meas2 {n i : Nat} (h : i < n) : n - (intOf (.int .i64 ((i + 1 : Nat) : Int))).toNat < n - (intOf (.int .i64 (i : Int))).toNat := by
  simp [intOf]
  omega
set_option maxRecDepth 20000 in
set_option maxHeartbeats 8000000 in
theorem drvbus_any (w : World) (a : Option Addr) (L : List Raw) (c : Nat) (N : Int) (hR : LR w a L) :
    Calls Try.prog 7 #[.agg #[.slice a L.length c, .int .i64 N]] w fun e w' => e = .returned (.bool true) ∧ Ext w w' := by
  obtain ⟨i0, hi0, hz0, hz1, hz2⟩ := dinfo
  have HNU : Hid (∀ v w', Calls Try.prog 11 #[.int .i64 v] w' fun e w'' => e = .returned (.int .i64 v) ∧ w'' = w') := num9_any
  have HW : Hid (∀ w', Calls Try.prog 13 #[] w' fun e w'' => e = .returned (.bool true) ∧ Ext w' w'') := wakes9_any
  have HLR : Hid (∀ W, Ext w W → LR W a L) := fun W x => hR.ext x
  have Fp : Hid (HV (w.alloc (.cells #[.slice a L.length c, .int .i64 N] 60)) w.heap.size [.slice a L.length c, .int .i64 N]) := hv_at rfl
  have FX : Hid (Ext w (w.alloc (.cells #[.slice a L.length c, .int .i64 N] 60))) := (Ext.refl w).alloc _
  clear hR
  go_enter Try.func7, Try.ntmps7
  go_upto_region 1 with fail
  generalize w.alloc (.cells #[.slice a L.length c, .int .i64 N] 60) = wa at *
  obtain ⟨np, hnp⟩ : ∃ k, w.heap.size = k := ⟨_, rfl⟩
  rw [hnp] at Fp ⊢
  have HNP : Hid (w.heap.size = np) := hnp
  clear hnp
  have qp0 : wa.cell? ⟨np, 0, none⟩ = some (.slice a L.length c) := Fp.out.c 0 rfl
  go_upto_region 2 with fail
  clear qp0
  have Fm : Hid (HV (wa.alloc (.cells #[.int .i64 16, .int .i64 49, .slice a L.length c] 62)) wa.heap.size [.int .i64 16, .int .i64 49, .slice a L.length c]) := hv_at rfl
  have Fp : Hid (HV (wa.alloc (.cells #[.int .i64 16, .int .i64 49, .slice a L.length c] 62)) np [.slice a L.length c, .int .i64 N]) := Fp.out.alloc _
  have FX : Hid (Ext w (wa.alloc (.cells #[.int .i64 16, .int .i64 49, .slice a L.length c] 62))) := FX.out.alloc _
  generalize wa.alloc (.cells #[.int .i64 16, .int .i64 49, .slice a L.length c] 62) = wb at *
  generalize wa.heap.size = nm at *
  have qp0 : wb.cell? ⟨np, 0, none⟩ = some (.slice a L.length c) := Fp.out.c 0 rfl
  by_cases h0 : L.length = 0
  · have h0b : ((L.length : Int) == 0) = true := by rw [h0]; rfl
    go_wp2_with fail
    go_ret
    exact ⟨rfl, FX.out⟩
  · have h0b : ((L.length : Int) == 0) = false := beq_eq_false_iff_ne.2 (by omega)
    by_cases h3 : L.length ≤ 300
    · have h3b : ¬ (300 : Int) < (L.length : Int) := by omega
      have qm0 : wb.cell? ⟨nm, 0, none⟩ = some (.int .i64 16) := Fm.out.c 0 rfl
      have qm1 : wb.cell? ⟨nm, 1, none⟩ = some (.int .i64 49) := Fm.out.c 1 rfl
      have qm2 : wb.cell? ⟨nm, 2, none⟩ = some (.slice a L.length c) := Fm.out.c 2 rfl
      have HL3 : Hid (0 < L.length ∧ L.length ≤ 300) := ⟨by omega, h3⟩
      have HY : Hid (∀ W, Ext w W → Calls Try.prog 25 #[.slice (some ⟨W.heap.size, 0, none⟩) 1 1, .slice none 0 0] (W.alloc (.cells #[.int .i64 16, .int .i64 49, .slice a L.length c] 62)) fun e w' => e = .returned (.bool (okMs [⟨16, 49, L⟩] && okFs [])) ∧ Ext W w') := fun W x => by
        have x1 : Ext W (W.alloc (.cells #[.int .i64 16, .int .i64 49, .slice a L.length c] 62)) := (Ext.refl W).alloc _
        refine (may_any _ (some ⟨W.heap.size, 0, none⟩) [⟨16, 49, L⟩] 1 none [] 0 (mrs_one (HLR.out _ (x.trans x1)) HL3.out.2 (m3_new (m := ⟨16, 49, L⟩) rfl)) (by simp [maxLen]) (frs_none _ _) (by simp [maxLen])).mono ?_
        rintro e w' ⟨h1, h2⟩
        exact ⟨h1, x1.trans h2⟩
      have HN : Hid ((okMs [⟨16, 49, L⟩] && okFs []) = true → ∀ W, Ext w W → Calls Try.prog 26 #[.slice (some ⟨W.heap.size, 0, none⟩) 1 1, .slice none 0 0] (W.alloc (.cells #[.int .i64 16, .int .i64 49, .slice a L.length c] 62)) fun e w' => ∃ y : BA, e = .returned (.tuple #[.pointer (some ⟨y.b, 0, none⟩), .int .i64 0]) ∧ Hid (IsBus w' y (newB [⟨16, 49, L⟩] []) ∧ ∀ k, FB y k → W.heap.size ≤ k) ∧ Ext W w') := fun hk W x => by
        have x1 : Ext W (W.alloc (.cells #[.int .i64 16, .int .i64 49, .slice a L.length c] 62)) := (Ext.refl W).alloc _
        refine (busnew_any _ (some ⟨W.heap.size, 0, none⟩) [⟨16, 49, L⟩] 1 none [] 0 (mrs_one (HLR.out _ (x.trans x1)) HL3.out.2 (m3_new (m := ⟨16, 49, L⟩) rfl)) (by simp [maxLen]) (frs_none _ _) (by simp [maxLen])).mono ?_
        rintro e w' ⟨h1, _, h2⟩
        obtain ⟨y, he, hb, hf⟩ := h2 hk
        exact ⟨y, he, ⟨hb, fun k o => by have := hf k o; have := x1.size; omega⟩, x1.trans h1⟩
      have HRW : Hid ((okMs [⟨16, 49, L⟩] && okFs []) = true → ∀ r ∈ L, okR r = true) := okM_raws
      have HB1 : Hid (B1 (newB [⟨16, 49, L⟩] []) (dv0 L 1)) := ⟨rfl, rfl, rfl⟩
      generalize newB [⟨16, 49, L⟩] [] = s0 at *
      generalize (okMs [⟨16, 49, L⟩] && okFs []) = ok at *
      cases ok
      · clear HN HRW HB1
        go_wp2_with (go_at_call 25; refine (HY.out _ FX.out).mono ?_; rintro e w1 ⟨rfl, x1⟩)
        go_ret
        exact ⟨rfl, FX.out.trans x1⟩
      · skip
        have HRW := HRW.out rfl
        have HRA : Hid (∀ r ∈ L, okR r = true) := HRW
        clear HRW
        go_upto_region 4 with (go_at_call 25; refine (HY.out _ FX.out).mono ?_; rintro e w1 ⟨rfl, x1⟩)
        have Fp : Hid (HV w1 np [.slice a L.length c, .int .i64 N]) := Fp.out.ext x1
        have Fm : Hid (HV w1 nm [.int .i64 16, .int .i64 49, .slice a L.length c]) := Fm.out.ext x1
        have FX : Hid (Ext w w1) := FX.out.trans x1
        clear qp0 qm0 qm1 qm2 x1 HY h0b h3b h0 h3
        have qm0 : w1.cell? ⟨nm, 0, none⟩ = some (.int .i64 16) := Fm.out.c 0 rfl
        have qm1 : w1.cell? ⟨nm, 1, none⟩ = some (.int .i64 49) := Fm.out.c 1 rfl
        have qm2 : w1.cell? ⟨nm, 2, none⟩ = some (.slice a L.length c) := Fm.out.c 2 rfl
        have LPW : Hid (np < w1.heap.size) := Fp.out.1
        go_upto_region 5 with (go_at_call 26; refine (HN.out (by first | exact rfl | trivial) _ FX.out).mono ?_; rintro e w2 ⟨y, rfl, hB, x2⟩)
        have Fp : Hid (HV w2 np [.slice a L.length c, .int .i64 N]) := Fp.out.ext x2
        have h8 : np < w1.heap.size := LPW.out
        have HBU : Hid (Hb w w2 y s0 w2.heap.size ∧ ¬ FB y np) := ⟨⟨FX.out.trans x2, hB.out.1, fun k o => by have := hB.out.2 k o; have := FX.out.size; omega, fun k o => hB.out.1.lt k o, Nat.le_refl _⟩, fun o => by have h9 := hB.out.2 np o; have _ := h8; omega⟩
        clear qm0 qm1 qm2 Fm HN hB h8
        have HD0 : Hid (∀ W, Calls Try.prog 23 #[.int .i64 16, .int .i64 49] W fun e w' => e = .returned (.tuple #[.agg #[.int .i64 16, .int .i64 49, .bool false, .int .i64 1, .int .i64 0, .int .i64 0, .bool false, .int .i64 0, .int .i64 0], .int .i64 0]) ∧ Ext W w') := fun W => newdr_any 16 49 W
        go_upto_region 6 with (go_at_call 23; refine (HD0.out _).mono ?_; rintro e w3 ⟨rfl, x3⟩)
        have x4 : Ext w2 (w3.alloc (.cells #[.int .i64 16, .int .i64 49, .bool false, .int .i64 1, .int .i64 0, .int .i64 0, .bool false, .int .i64 0, .int .i64 0] 24)) := x3.alloc _
        have Fd : Hid (HV (w3.alloc (.cells #[.int .i64 16, .int .i64 49, .bool false, .int .i64 1, .int .i64 0, .int .i64 0, .bool false, .int .i64 0, .int .i64 0] 24)) w3.heap.size [.int .i64 16, .int .i64 49, .bool false, .int .i64 1, .int .i64 0, .int .i64 0, .bool false, .int .i64 0, .int .i64 0]) := hv_at rfl
        have Fp : Hid (HV (w3.alloc (.cells #[.int .i64 16, .int .i64 49, .bool false, .int .i64 1, .int .i64 0, .int .i64 0, .bool false, .int .i64 0, .int .i64 0] 24)) np [.slice a L.length c, .int .i64 N]) := Fp.out.ext x4
        have HBU : Hid (Hb w (w3.alloc (.cells #[.int .i64 16, .int .i64 49, .bool false, .int .i64 1, .int .i64 0, .int .i64 0, .bool false, .int .i64 0, .int .i64 0] 24)) y s0 w2.heap.size ∧ ¬ FB y np) := ⟨HBU.out.1.ext x4, HBU.out.2⟩
        have HLO : Hid (np < w2.heap.size ∧ w2.heap.size ≤ w3.heap.size ∧ w.heap.size ≤ w3.heap.size) := ⟨by have := LPW.out; have := x2.size; omega, x3.size, by have := FX.out.size; have := x2.size; have := x3.size; omega⟩
        generalize (w3.alloc (.cells #[.int .i64 16, .int .i64 49, .bool false, .int .i64 1, .int .i64 0, .int .i64 0, .bool false, .int .i64 0, .int .i64 0] 24)) = w4 at *
        generalize w3.heap.size = nd at *
        generalize w2.heap.size = lo at *
        clear x2 x3 x4 HD0 FX LPW
        obtain ⟨q, hq, HQ0⟩ := within_any N 5 (by omega) (by omega)
        have HQ : Hid (∀ w, Calls Try.prog 24 #[.int .i64 N, .int .i64 5] w fun e w' => e = .returned (.int .i64 q) ∧ w' = w) := HQ0
        obtain ⟨per, hpe, hp1⟩ : ∃ per : Nat, per = 1 + q ∧ 1 ≤ per ∧ per ≤ 5 := ⟨1 + q, rfl, by omega, by omega⟩
        have hwq : IntKind.i64.wrap (1 + (q : Int)) = (per : Int) := by rw [hpe, IntKind.wrap_i64]; omega
        have HP : Hid (1 ≤ per ∧ per ≤ 5) := hp1
        have HS1 : Hid (∀ W, Ext w4 W → Calls Try.prog 14 #[.agg #[.int .i64 16, .int .i64 49, .bool false, .int .i64 1, .int .i64 0, .int .i64 0, .bool false, .int .i64 0, .int .i64 0], .bool true, .int .i64 (per : Int)] W fun e w' => e = .returned (.tuple #[.agg #[.int .i64 16, .int .i64 49, .bool true, .int .i64 (per : Int), .int .i64 1, .int .i64 0, .bool false, .int .i64 0, .int .i64 0], .int .i64 0]) ∧ Ext w4 w') := fun W x => by
          have h := setdr_good (newD 16 49) true per rfl (inn_iff.2 (by omega)) W
          rw [show setD (newD 16 49) true per = ⟨16, 49, true, per, 1, 0, false, 0, 0⟩ from set_first per] at h
          exact h.mono fun e w' ⟨h1, h2⟩ => ⟨h1, x.trans h2⟩
        clear HQ0 hq hpe hp1
        go_cut [8] (fun v8 wx => v8 = .int .i64 0 ∧ Hid (HV wx nd [.int .i64 16, .int .i64 49, .bool true, .int .i64 (per : Int), .int .i64 1, .int .i64 0, .bool false, .int .i64 0, .int .i64 0] ∧ HV wx np [.slice a L.length c, .int .i64 N] ∧ Hb w wx y s0 lo))
        case first =>
          rename_i hA1 hA0
          have hA1 : Hid _ := hA1
          have hA0 : Hid _ := hA0
          go_tidy
          have hA1 := hA1.out
          have hA0 := hA0.out
          have qd0 : w4.cell? ⟨nd, 0, none⟩ = some (.int .i64 16) := Fd.out.c 0 rfl
          have qd1 : w4.cell? ⟨nd, 1, none⟩ = some (.int .i64 49) := Fd.out.c 1 rfl
          have qd2 : w4.cell? ⟨nd, 2, none⟩ = some (.bool false) := Fd.out.c 2 rfl
          have qd3 : w4.cell? ⟨nd, 3, none⟩ = some (.int .i64 1) := Fd.out.c 3 rfl
          have qd4 : w4.cell? ⟨nd, 4, none⟩ = some (.int .i64 0) := Fd.out.c 4 rfl
          have qd5 : w4.cell? ⟨nd, 5, none⟩ = some (.int .i64 0) := Fd.out.c 5 rfl
          have qd6 : w4.cell? ⟨nd, 6, none⟩ = some (.bool false) := Fd.out.c 6 rfl
          have qd7 : w4.cell? ⟨nd, 7, none⟩ = some (.int .i64 0) := Fd.out.c 7 rfl
          have qd8 : w4.cell? ⟨nd, 8, none⟩ = some (.int .i64 0) := Fd.out.c 8 rfl
          have qp1 : w4.cell? ⟨np, 1, none⟩ = some (.int .i64 N) := Fp.out.c 1 rfl
          go_region_with (first | (go_at_call 24; refine (HQ.out _).mono ?_; rintro e wx ⟨rfl, hwx⟩; have hwy := hwx.symm; clear hwx; subst hwy) | (go_at_call 14; refine (HS1.out _ (by first | exact Ext.refl _ | exact (Ext.refl _).drew | exact (Ext.refl _).drew.drew | exact drewN_ext _)).mono ?_; rintro e w5 ⟨rfl, x5⟩; have kd0 : w5.cell? ⟨nd, 0, none⟩ = some (.int .i64 16) := x5.keepc qd0; have kd1 : w5.cell? ⟨nd, 1, none⟩ = some (.int .i64 49) := x5.keepc qd1; have kd2 : w5.cell? ⟨nd, 2, none⟩ = some (.bool false) := x5.keepc qd2; have kd3 : w5.cell? ⟨nd, 3, none⟩ = some (.int .i64 1) := x5.keepc qd3; have kd4 : w5.cell? ⟨nd, 4, none⟩ = some (.int .i64 0) := x5.keepc qd4; have kd5 : w5.cell? ⟨nd, 5, none⟩ = some (.int .i64 0) := x5.keepc qd5; have kd6 : w5.cell? ⟨nd, 6, none⟩ = some (.bool false) := x5.keepc qd6; have kd7 : w5.cell? ⟨nd, 7, none⟩ = some (.int .i64 0) := x5.keepc qd7; have kd8 : w5.cell? ⟨nd, 8, none⟩ = some (.int .i64 0) := x5.keepc qd8; have zd0 : w5.frozen? ⟨nd, 0, none⟩ = false := (Fd.out.ext x5).f 0 rfl; have zd1 : w5.frozen? ⟨nd, 1, none⟩ = false := (Fd.out.ext x5).f 1 rfl; have zd2 : w5.frozen? ⟨nd, 2, none⟩ = false := (Fd.out.ext x5).f 2 rfl; have zd3 : w5.frozen? ⟨nd, 3, none⟩ = false := (Fd.out.ext x5).f 3 rfl; have zd4 : w5.frozen? ⟨nd, 4, none⟩ = false := (Fd.out.ext x5).f 4 rfl; have zd5 : w5.frozen? ⟨nd, 5, none⟩ = false := (Fd.out.ext x5).f 5 rfl; have zd6 : w5.frozen? ⟨nd, 6, none⟩ = false := (Fd.out.ext x5).f 6 rfl; have zd7 : w5.frozen? ⟨nd, 7, none⟩ = false := (Fd.out.ext x5).f 7 rfl; have zd8 : w5.frozen? ⟨nd, 8, none⟩ = false := (Fd.out.ext x5).f 8 rfl; have kp1 : w5.cell? ⟨np, 1, none⟩ = some (.int .i64 N) := x5.keepc qp1))
          all_goals
            go_wp2_with fail
            go_meet
            have hn := HLO.out
            exact ⟨rfl, (Fd.out.ext x5).nine ⟨16, 49, true, per, 1, 0, false, 0, 0⟩, (Fp.out.ext x5).past (by omega) ⟨16, 49, true, per, 1, 0, false, 0, 0⟩, (HBU.out.1.ext x5).put hn.2.1 hn.2.2 ⟨16, 49, true, per, 1, 0, false, 0, 0⟩⟩
        case rest =>
          obtain ⟨rfl, hC⟩ := hcut
          have HI : Hid (Lp w wc y lo np nd a c N L per 0 ⟨16, 49, true, per, 1, 0, false, 0, 0⟩ [] (.slice none 0 0)) := ⟨⟨s0, dv0 L 1, hC.out.2.2, HB1.out, jn_zero L per⟩, hC.out.1, hC.out.2.1, World.ownsRow_nil _ _ _ _⟩
          have HFP : Hid (¬ FB y np) := HBU.out.2
          clear hC Fd Fp HBU HS1 HQ hwq HB1
          generalize wc = w6 at *
          go_upto_region 9 with (go_at_call 11; refine (HNU.out _ _).mono ?_; rintro e wx ⟨rfl, hwx⟩; have hwy := hwx.symm; clear hwx; subst hwy)
          go_wp2_with fail
          rename_i K hK
          have HK0 : Hid (∀ (a : Act) (w : World), Code.wp Try.prog _ _ a w → K a w) := hK
          clear hK
          go_loopw [9, 10, 11, 12, 13, 14, 15, 16, 17, 18, 19] (fun va vi _ _ _ _ _ _ _ _ _ wr => ∃ (i : Nat) (all : List Raw) (d : Dr), i ≤ 60 ∧ vi = .int .i64 i ∧ Hid (Lp w wr y lo np nd a c N L per i d all va)) (fun _ vi _ _ _ _ _ _ _ _ _ _ => 60 - (intOf vi).toNat)
          case atStart => exact ⟨0, [], _, Nat.zero_le _, rfl, HI⟩
          case round =>
            clear HI
            obtain ⟨i, all, d, hi, rfl, HL⟩ := hrel
            by_cases hlt : i < 60
            · have hlt' : (i : Int) < 60 := by omega
              go_upto_if 88 with fail
              go_cut [] (fun wx => Hid (wr = wx))
              case first =>
                go_wp2_with fail
                go_meet
                exact rfl
              case rest =>
                have hC2 : wr = wc := hcut.out
                clear hcut
                subst hC2
                rename_i KR hKR
                refine hKR _ _ ?_
                refine busround w wr y a L all c N d per i lo np nd _ _ rfl rfl _ _ _ _ _ _ _ _ _ _ _ _ _ _ _ _ _ _ _ _ _ _ _ _ _ _ _ _ _ _ _ _ _ _ _ _ _ _ _ _ _ _ _ _ _ _ _ _ _ _ _ _ _ _ _ _ _ _ _ _ _ _ _ _ _ _ _ _ _ _ _ _ _ _ _ _ _ _ _ _ _ _ _ _ _ _ _ _ _ _ _ _ _ _ _ _ _ _ _ _ _ _ _ _ _ _ _ _ _ _ _ _ _ _ _ _ _ _ _ _ _ _ _ _ _ _ _ _ _ _ _ _ _ _ _ _ _ _ _ _ _ _ _ _ _ _ _ _ _ _ _ _ _ _ _ _ _ _ _ _ _ _ _ _ _ _ _ _ _ _ _ _ _ _ _ _ _ _ _ _ _ _ _ _ _ _ _ _ _ _ _ _ _ _ _ _ _ _ _ _ _ _ _ _ _ _ _ _ _ _ _ _ _ _ _ _ _ _ _ _ _ _ _ _ _ _ _ _ _ _ _ _ _ _ _ _ _ _ _ _ HNU ?_ hlt HL HP HL3 HRA HLO HFP
                intro y11 y12 y13 y14 y15 y16 y17 y18 y19 y87 y88 y89 y90 y91 y92 y93 y94 y95 y96 y97 y98 y99 y100 y101 y102 y103 y104 y105 y106 y107 y108 y109 y110 y111 y112 y113 y114 y115 y116 y117 y118 y119 y120 y121 y122 y123 y124 y125 y126 y127 y128 y129 y130 y131 y132 y133 y134 y135 y136 y137 y138 y139 y140 y141 y142 y143 y144 y145 y146 vi vb D tl w9 hvi HL9
                subst hvi
                go_roundw
                case measure => exact lt_meas2 hlt
                case rel =>
                  (repeat apply Exists.intro)
                  exact ⟨⟨i + 1, all ++ tl, D, by omega, rfl, HL9⟩, rfl⟩
            · have hk : i = 60 := by omega
              subst hk
              obtain ⟨⟨s, v, hb, hs, J⟩, fd, fp, row⟩ := HL.out
              have HB : Hid (Hb w wr y s lo) := hb
              have HS : Hid (B1 s v) := hs
              have HOK : Hid (okD d = true) := (js_any HP.out HL3.out.1 HRA.out J).ok
              have JE := jn_end J HP.out
              have HE : Hid (all = cyc L all.length ∧ 0 < all.length ∧ all.length ≤ 120) := ⟨JE.1, JE.2.1, jn_len J HP.out.1⟩
              have HD : Hid (d.addr = 16 ∧ d.id = 49 ∧ d.bad = 0 ∧ (d.st = 4 ∨ d.st = 5) ∧ v.addr = 16 ∧ inn d.per 1 250 = true) := ⟨J.ad, J.idn, J.bd, JE.2.2.1, jn_addr J, inn_iff.2 (by rw [J.pe]; have := HP.out; omega)⟩
              have Fd : Hid (HV wr nd [.int .i64 d.addr, .int .i64 d.id, .bool d.want, .int .i64 d.per, .int .i64 d.st, .int .i64 d.fails, .bool d.tried, .int .i64 d.left, .int .i64 d.bad]) := fd
              have Fp : Hid (HV wr np [.slice a L.length c, .int .i64 N]) := fp
              obtain ⟨ga, gc, hu⟩ := row_form row
              subst hu
              obtain ⟨g, rfl, _, hgc⟩ := row_cells row HE.out.2.1
              have HG : Hid (∀ j u, (rvs all)[j]? = some u → wr.cell? (Addr.add ⟨g, 0, none⟩ j) = some u) := hgc
              clear hb hs J JE fd fp row HL hgc hlt hi
              go_wp2_with fail
              refine HK0.out _ _ ?_
              exact busloop2 w wr y s v d a L all c N lo np nd g gc _ _ rfl rfl _ _ _ _ _ _ _ _ _ _ _ _ _ _ _ _ _ _ _ _ _ _ _ _ _ _ _ _ _ _ _ _ _ _ _ _ _ _ _ _ _ _ _ _ _ _ _ _ _ _ _ _ _ _ _ _ _ _ _ _ _ _ _ _ _ _ _ _ _ _ _ _ _ _ _ _ _ _ _ _ _ _ _ _ _ _ _ _ _ _ _ _ _ _ _ _ _ _ _ _ _ _ _ _ _ _ _ _ _ _ _ _ _ _ _ _ _ _ _ _ _ _ _ _ _ _ _ _ _ _ _ _ _ _ _ _ _ _ _ _ _ _ _ _ _ _ _ _ _ _ _ _ _ _ _ _ _ _ _ _ _ _ _ _ _ _ _ _ _ _ _ _ _ _ _ _ _ _ _ _ _ _ _ _ _ _ _ _ _ _ _ _ _ _ _ _ _ _ _ _ _ _ _ _ _ _ _ _ _ _ _ _ _ _ _ _ _ _ _ _ _ _ _ _ _ _ _ _ _ _ _ _ _ _ _ _ _ _ _ HNU HW HB HS HOK HD Fd HLO Fp HE HL3 HLR HG
    · have h3b : (300 : Int) < (L.length : Int) := by omega
      go_wp2_with fail
      go_ret
      exact ⟨rfl, FX.out⟩
end Go.Proofs.Ytdfhhfpfnkjbnaa
