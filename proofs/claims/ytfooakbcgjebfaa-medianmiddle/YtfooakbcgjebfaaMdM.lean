/- MedianMiddle: its walk. -/
import Derived.Test.YtfooakbcgjebfaaMdMn
namespace Go.Proofs.Ytfooakbcgjebfaa
open Go.RowKit Go.Conc Go.Shelf Go.Lib
set_option maxRecDepth 20000 in
set_option maxHeartbeats 8000000 in
theorem mid_walk (L : List Ask) (a : Option Addr) (c : Nat) (w : World) (hL : AL w a L) : Calls Try.prog 4 #[.slice a L.length c] w fun e w' => e = .returned (.bool true) ∧ Ext w w' := by
  have HN : Hid (∀ v w, Calls Try.prog 10 #[.int .i64 v] w fun e w' => e = .returned (.int .i64 v) ∧ w' = w) := num13_any
  have HW : Hid (∀ w, Calls Try.prog 13 #[] w fun e w' => e = .returned (.bool true) ∧ Ext w w') := wakes13_any
  have HL : Hid (AL w a L) := hL
  have hx0 : Hid (Ext w w) := Ext.refl w
  clear hL
  go_enter Try.func4, Try.ntmps4
  go_wp2_with fail
  go_loopw [3] (fun i wr => ∃ k : Nat, k ≤ 20 ∧ i = .int .i64 k ∧ Hid (Ext w wr)) (fun i _ => 20 - (intOf i).toNat)
  case atStart => exact ⟨0, by omega, rfl, hx0⟩
  case round =>
    obtain ⟨k, hk, rfl, hR⟩ := hrel
    by_cases hlt : k < L.length
    · have hlt2 : (k : Int) < (L.length : Int) := by omega
      by_cases h20 : k < 20
      · have h202 : (k : Int) < 20 := by omega
        obtain ⟨q, hq⟩ : ∃ q, L[k]? = some q := ⟨_, List.getElem?_eq_getElem hlt⟩
        obtain ⟨b, off, la, lc, rfl, ⟨d0, d1, d2, d3', d4'⟩, HV0, hlc, _⟩ := (HL.out.ext hR.out) k q hq
        have d3 : wr.cell? ⟨b, off + k * 5 + 3, none⟩ = some (.int .i64 q.v.y) := d3'
        have d4 : wr.cell? ⟨b, off + k * 5 + 4, none⟩ = some (.int .i64 q.v.z) := d4'
        have P0 : Hid (P5 (wr.alloc (asko la lc q)) wr.heap.size la lc q) := p5_at rfl
        have X0 : Hid (Ext w (wr.alloc (asko la lc q))) := hR.out.alloc _
        have HV : Hid (VL (wr.alloc (asko la lc q)) la q.l) := HV0.ext ((Ext.refl wr).alloc _)
        have HLC : Hid (q.l.length ≤ lc) := hlc
        clear HV0 hlc d3' d4' hq hlt
        obtain ⟨ql, n, v⟩ := q
        dsimp only at d0 d1 d2 d3 d4 HV HLC
        have HA : Hid (Calls Try.prog 6 #[askv la lc ⟨ql, n, v⟩] (wr.alloc (asko la lc ⟨ql, n, v⟩)) fun e w' => e = .returned (.bool (okA ⟨ql, n, v⟩)) ∧ Ext (wr.alloc (asko la lc ⟨ql, n, v⟩)) w') := may13_any ⟨ql, n, v⟩ la lc _ HV.out
        cases hoa : okA ⟨ql, n, v⟩
        · rw [hoa] at HA
          clear hoa HV HLC
          go_upto_region 5 with fail
          generalize wr.alloc (asko la lc ⟨ql, n, v⟩) = u0 at *
          generalize wr.heap.size = V at *
          obtain ⟨a0, a1, a2, a3, a4⟩ := P0.out
          go_wp2_with (go_at_call 6; refine HA.out.mono ?_; rintro e w1 ⟨rfl, x1⟩)
          have X1 : Hid (Ext w w1) := X0.out.trans x1
          clear x1 d0 d1 d2 d3 d4 a0 a1 a2 a3 a4 P0 X0
          go_roundw
          case measure => simp [intOf]; omega
          case rel => exact ⟨k + 1, by omega, by simp, X1⟩
        · have hoa2 : okWin ql n = true ∧ okv v = true := by unfold okA at hoa; simpa using hoa
          rw [hoa] at HA
          clear hoa
          obtain ⟨n1, n7, hle⟩ := okWin_le hoa2.1
          by_cases hsh : (ql.length : Int) < n - 1
          · clear HV HLC hoa2 hle
            go_upto_region 5 with fail
            generalize wr.alloc (asko la lc ⟨ql, n, v⟩) = u0 at *
            generalize wr.heap.size = V at *
            obtain ⟨a0, a1, a2, a3, a4⟩ := P0.out
            go_wp2_with (go_at_call 6; refine HA.out.mono ?_; rintro e w1 ⟨rfl, x1⟩; obtain ⟨b0, b1, b2, b3, b4⟩ := P0.out.ext x1)
            have X1 : Hid (Ext w w1) := X0.out.trans x1
            clear x1 d0 d1 d2 d3 d4 a0 a1 a2 a3 a4 b0 b1 b2 b3 b4 P0 X0
            go_roundw
            case measure => simp [intOf]; omega
            case rel => exact ⟨k + 1, by omega, by simp, X1⟩
          · have hN4 : Hid (okN n = true) := by
              have := hoa2.1
              unfold okWin at this
              simp only [Bool.and_eq_true] at this
              exact this.1
            go_upto_region 5 with fail
            generalize wr.alloc (asko la lc ⟨ql, n, v⟩) = u0 at *
            generalize wr.heap.size = V at *
            obtain ⟨a0, a1, a2, a3, a4⟩ := P0.out
            have HO : Hid (okWin ql n = true ∧ okv v = true) := hoa2
            clear hoa2
            go_upto_region 6 with (go_at_call 6; refine HA.out.mono ?_; rintro e w1 ⟨rfl, x1⟩; obtain ⟨b0, b1, b2, b3, b4⟩ := P0.out.ext x1)
            have X1 : Hid (Ext w w1) := X0.out.trans x1
            have P1 : Hid (P5 w1 V la lc ⟨ql, n, v⟩) := P0.out.ext x1
            obtain ⟨N, hNn⟩ : ∃ N : Nat, n = (N : Int) := ⟨n.toNat, by omega⟩
            obtain ⟨D, hD⟩ : ∃ D : Nat, ql.length = D + (N - 1) := ⟨ql.length - (N - 1), by omega⟩
            have HB : Hid (n = (N : Int) ∧ ql.length = D + (N - 1) ∧ 1 ≤ N ∧ N ≤ 7) := ⟨hNn, hD, by omega, by omega⟩
            obtain ⟨k1, hk1, ek1⟩ : ∃ k1, IntKind.i64.wrap (n - 1) = k1 ∧ Hid (k1 = ((N - 1 : Nat) : Int)) := ⟨_, rfl, by
              show IntKind.i64.wrap (n - 1) = _
              rw [IntKind.wrap_i64]
              omega⟩
            obtain ⟨dd, hdd, edd⟩ : ∃ dd, IntKind.i64.wrap ((ql.length : Int) - k1) = dd ∧ Hid (dd = (D : Int)) := ⟨_, rfl, by
              have := ek1.out
              show IntKind.i64.wrap ((ql.length : Int) - k1) = _
              rw [IntKind.wrap_i64]
              omega⟩
            obtain ⟨a', c', HSl, HVc⟩ : ∃ a' c', Hid (∀ W, (Instr.sliceAt 23 (.slice la ql.length lc) (some (.int .i64 dd)) none none).run Try.prog W = .ok (.slice a' (N - 1) c') W) ∧ Hid (VL w1 a' (ql.drop D)) := by
              refine ⟨if lc = D then la else la.map (·.add (D * 3)), lc - D, fun W => ?_, (HV.out.ext x1).cut HLC.out⟩
              rw [edd.out, run_cut la ql.length lc D (by omega) W]
              rw [show ql.length - D = N - 1 by omega]
            have hsl := HSl.out
            obtain ⟨ms, hms⟩ : ∃ ms, pushL N (ql.drop D) v = ms := ⟨_, rfl⟩
            obtain ⟨m, hm⟩ : ∃ m, medv ms = m := ⟨_, rfl⟩
            have hml : ms.length = N := by
              rw [← hms]; unfold pushL
              rw [if_pos (by rw [List.length_drop]; omega)]
              simp only [List.length_append, List.length_drop, List.length_singleton]
              omega
            have hmo : ms.all okv = true := by
              rw [← hms]; unfold pushL
              rw [if_pos (by rw [List.length_drop]; omega)]
              have h1 := HO.out.1
              unfold okWin at h1
              simp only [Bool.and_eq_true, List.all_eq_true] at h1
              simp only [List.all_append, Bool.and_eq_true, List.all_eq_true]
              exact ⟨fun x hx => h1.2.2 x (List.mem_of_mem_drop hx), by simpa using HO.out.2⟩
            have HT : Hid (∀ W, Ext w1 W → Calls Try.prog 9 #[.slice a' (N - 1) c', .int .i64 n, rv v] W fun e w' => ∃ g cap, e = .returned (.tuple #[.slice (some ⟨g, 0, none⟩) N cap, rv m, .int .i64 0]) ∧ Hid (VL w' (some ⟨g, 0, none⟩) ms) ∧ Hid (W.heap.size ≤ g) ∧ Hid (Ext W w') ∧ P5 w' V la lc ⟨ql, n, v⟩) := fun W x => by
              have e1 : N - 1 = (ql.drop D).length := by rw [List.length_drop]; omega
              rw [HB.out.1, e1]
              refine (take_is (ql.drop D) a' c' N v ms m W (HVc.out.ext x) (okWin_of _ _ (by rw [← HB.out.1]; exact hN4.out) (by rw [List.length_drop]; omega) ?_) HO.out.2 hms hm).mono ?_
              · have h1 := HO.out.1
                unfold okWin at h1
                simp only [Bool.and_eq_true, List.all_eq_true] at h1
                simp only [List.all_eq_true]
                exact fun x hx => h1.2.2 x (List.mem_of_mem_drop hx)
              · rintro e w' ⟨g, cap, rfl, h1, h2, h3⟩
                exact ⟨g, cap, by rw [hml], h1, h2, h3, by rw [← HB.out.1]; exact P1.out.ext (x.trans h3)⟩
            have HMS : Hid (ms.length = N ∧ medv ms = m ∧ ms.all okv = true) := ⟨hml, hm, hmo⟩
            have LV : V < w1.heap.size := P1.out.lt
            have n9 : V ≠ w1.heap.size := Nat.ne_of_lt LV
            have o9 : w1.heap.size ≠ V := Nat.ne_of_gt LV
            have x11 : Hid (Ext w1 w1) := Ext.refl w1
            clear x1 d0 d1 d2 d3 d4 a0 a1 a2 a3 a4 P0 X0 HA HV hNn hD n1 n7 hle hsh HVc HSl ek1 edd hms hm hml hmo LV hR
            go_cut [5, 6, 7] (fun v5 v6 v7 wx => ∃ g go cap M, v5 = .slice (some ⟨g, go, none⟩) N cap ∧ v6 = .pointer (some ⟨M, 0, none⟩) ∧ v7 = .int .i64 0 ∧ Hid (Mid w V M g go la lc ⟨ql, n, v⟩ m ms wx))
            case first =>
              go_region_held3 (fun w' => w'.cell? ⟨V, 0, none⟩ = some (.slice la ql.length lc) ∧ w'.cell? ⟨V, 1, none⟩ = some (.int .i64 n) ∧ w'.cell? ⟨V, 2, none⟩ = some (.int .i64 v.x) ∧ w'.cell? ⟨V, 3, none⟩ = some (.int .i64 v.y) ∧ w'.cell? ⟨V, 4, none⟩ = some (.int .i64 v.z)) (first | (go_keep; done) | skip) (first | (go_at_call 9; (with_reducible refine (HT.out _ x11.out.drew).mono ?_); rintro e w2 ⟨g, cap, rfl, v2, g2, x2, s0, s1, s2, s3, s4⟩) | (go_at_call 9; refine (HT.out _ (x11.out.alloc cells0).drew).mono ?_; rintro e w2 ⟨g, cap, rfl, v2, g2, x2, s0, s1, s2, s3, s4⟩; obtain ⟨⟨z0, z1, z2⟩, f0, f1, f2⟩ := (p3_at (w := w1) (r := nought) (T := 25) rfl).ext (Ext.trans (Ext.refl (w1.alloc cells0)).drew x2.out)))
              all_goals
                go_wp2_with fail
                go_meet
              · exact ⟨g, 0, cap, _, rfl, rfl, rfl, mid_b X1.out P1.out v2.out (Ext.trans (Ext.refl w1).drew x2.out)⟩
              · exact ⟨g, 0, cap, _, rfl, rfl, rfl, mid_a X1.out P1.out v2.out (by have := g2.out; simpa using this) (Ext.trans (Ext.refl (w1.alloc cells0)).drew x2.out)⟩
            case rest =>
              obtain ⟨g, go, cap, M, rfl, rfl, rfl, hC⟩ := hcut
              clear HT hsl b0 b1 b2 b3 b4 n9 o9 x11 P1 X1 HLC HO hk1 hdd
              obtain ⟨y0, y1, y2, y3, y4⟩ := hC.out.2.1
              have hNN : (N : Int) = n := HB.out.1.symm
              go_wp2_with (go_at_call 10; refine (HN.out _ _).mono ?_; rintro e wx ⟨rfl, hwx⟩; have hwy := hwx.symm; clear hwx; subst hwy)
              have hmL : Hid (ms.length ≤ 7) := by have := HMS.out.1; have := HB.out; show _ ≤ _; omega
              have hq0 : Hid (Quiet wc wc) := ⟨0, rfl⟩
              clear y0 y1 y2 y3 y4 hNN
              go_loopw [8, 9, 10, 11] (fun v8 v9 v10 v11 wx => ∃ j : Nat, j ≤ N ∧ v8 = .int .i64 (cLo ms m.y j : Nat) ∧ v9 = .int .i64 (cHi ms m.y j : Nat) ∧ v10 = .int .i64 (cEq ms m.y j : Nat) ∧ v11 = .int .i64 j ∧ Hid (Quiet wc wx)) (fun _ _ _ v11 _ => N - (intOf v11).toNat)
              case atStart => exact ⟨0, Nat.zero_le _, rfl, rfl, rfl, rfl, hq0⟩
              case round =>
                obtain ⟨j, hj, rfl, rfl, rfl, rfl, hQ⟩ := hrel
                by_cases hjn : j < N
                · have hjn2 : (j : Int) < (N : Int) := by omega
                  obtain ⟨z, hz⟩ : ∃ z, ms[j]? = some z := ⟨_, List.getElem?_eq_getElem (by rw [HMS.out.1]; exact hjn)⟩
                  have S1 : Hid (cLo ms m.y (j + 1) = cLo ms m.y j + if decide (z.y < m.y) = true then 1 else 0) := cnt_step hz
                  have S2 : Hid (cHi ms m.y (j + 1) = cHi ms m.y j + if decide (m.y < z.y) = true then 1 else 0) := cnt_step hz
                  have S3 : Hid (cEq ms m.y (j + 1) = cEq ms m.y j + if decide (z.y = m.y) = true then 1 else 0) := cnt_step hz
                  have B1 : (cLo ms m.y j : Int) ≤ 7 := by have := c_le ms (fun v => decide (v.y < m.y)) j hmL.out; unfold cLo; omega
                  have B2 : (cHi ms m.y j : Int) ≤ 7 := by have := c_le ms (fun v => decide (m.y < v.y)) j hmL.out; unfold cHi; omega
                  have B3 : (cEq ms m.y j : Int) ≤ 7 := by have := c_le ms (fun v => decide (v.y = m.y)) j hmL.out; unfold cEq; omega
                  generalize cLo ms m.y j = c1 at *
                  generalize cHi ms m.y j = c2 at *
                  generalize cEq ms m.y j = c3 at *
                  obtain ⟨g', go', eg, _, z1, _⟩ := (hC.out.2.2.2.ext hQ.out.ext) j z hz
                  cases eg
                  obtain ⟨⟨_, m1, _⟩, _⟩ := hC.out.2.2.1.ext hQ.out.ext
                  have hj8 : (j : Int) < 8 := by have := HB.out; omega
                  have HQ0 : Hid (Quiet wc wr) := hQ
                  clear hz hQ hq0
                  rcases Int.lt_trichotomy z.y m.y with hc | hc | hc
                  · have t1 : decide (z.y < m.y) = true := decide_eq_true (by omega)
                    have t2 : decide (m.y < z.y) = false := decide_eq_false (by omega)
                    have t3 : decide (z.y = m.y) = false := decide_eq_false (by omega)
                    have t3' : (z.y == m.y) = false := by simpa using t3
                    rw [t1, if_pos rfl] at S1
                    rw [t2, if_neg (by decide)] at S2
                    rw [t3, if_neg (by decide)] at S3
                    clear hc
                    go_upto_region 13 with fail
                    go_quiet (fail)
                    have z1' : (wr.drewN nq).cell? ⟨g, go + j * 3 + 1, none⟩ = some (.int .i64 z.y) := z1
                    have m1' : (wr.drewN nq).cell? ⟨M, 1, none⟩ = some (.int .i64 m.y) := m1
                    have HQ1 : Hid (Quiet wc (wr.drewN nq)) := by obtain ⟨t, e⟩ := HQ0.out; exact ⟨t + nq, by rw [e, World.drewN_drewN]⟩
                    clear z1 m1 HQ0
                    generalize wr.drewN nq = wq13 at *
                    have z1 := z1'
                    have m1 := m1'
                    have HQ0 : Hid (Quiet wc wq13) := HQ1
                    clear z1' m1' HQ1
                    go_upto_region 15 with fail
                    go_quiet (fail)
                    have z1' : (wq13.drewN nq).cell? ⟨g, go + j * 3 + 1, none⟩ = some (.int .i64 z.y) := z1
                    have m1' : (wq13.drewN nq).cell? ⟨M, 1, none⟩ = some (.int .i64 m.y) := m1
                    have HQ1 : Hid (Quiet wc (wq13.drewN nq)) := by obtain ⟨t, e⟩ := HQ0.out; exact ⟨t + nq, by rw [e, World.drewN_drewN]⟩
                    clear z1 m1 HQ0
                    generalize wq13.drewN nq = wq15 at *
                    have z1 := z1'
                    have m1 := m1'
                    have HQ0 : Hid (Quiet wc wq15) := HQ1
                    clear z1' m1' HQ1
                    go_upto_region 17 with fail
                    go_quiet (fail)
                    have z1' : (wq15.drewN nq).cell? ⟨g, go + j * 3 + 1, none⟩ = some (.int .i64 z.y) := z1
                    have m1' : (wq15.drewN nq).cell? ⟨M, 1, none⟩ = some (.int .i64 m.y) := m1
                    have HQ1 : Hid (Quiet wc (wq15.drewN nq)) := by obtain ⟨t, e⟩ := HQ0.out; exact ⟨t + nq, by rw [e, World.drewN_drewN]⟩
                    clear z1 m1 HQ0
                    generalize wq15.drewN nq = wq17 at *
                    have z1 := z1'
                    have m1 := m1'
                    have HQ0 : Hid (Quiet wc wq17) := HQ1
                    clear z1' m1' HQ1
                    clear z1 m1
                    go_wp2_with fail
                    go_roundw
                    case measure => simp [intOf]; omega
                    case rel => exact ⟨j + 1, by omega, by rw [S1.out]; simp, by rw [S2.out]; simp, by rw [S3.out]; simp, by simp, HQ0⟩
                  · have t1 : decide (z.y < m.y) = false := decide_eq_false (by omega)
                    have t2 : decide (m.y < z.y) = false := decide_eq_false (by omega)
                    have t3 : decide (z.y = m.y) = true := decide_eq_true (by omega)
                    have t3' : (z.y == m.y) = true := by simpa using t3
                    rw [t1, if_neg (by decide)] at S1
                    rw [t2, if_neg (by decide)] at S2
                    rw [t3, if_pos rfl] at S3
                    clear hc
                    go_upto_region 13 with fail
                    go_quiet (fail)
                    have z1' : (wr.drewN nq).cell? ⟨g, go + j * 3 + 1, none⟩ = some (.int .i64 z.y) := z1
                    have m1' : (wr.drewN nq).cell? ⟨M, 1, none⟩ = some (.int .i64 m.y) := m1
                    have HQ1 : Hid (Quiet wc (wr.drewN nq)) := by obtain ⟨t, e⟩ := HQ0.out; exact ⟨t + nq, by rw [e, World.drewN_drewN]⟩
                    clear z1 m1 HQ0
                    generalize wr.drewN nq = wq13 at *
                    have z1 := z1'
                    have m1 := m1'
                    have HQ0 : Hid (Quiet wc wq13) := HQ1
                    clear z1' m1' HQ1
                    go_upto_region 15 with fail
                    go_quiet (fail)
                    have z1' : (wq13.drewN nq).cell? ⟨g, go + j * 3 + 1, none⟩ = some (.int .i64 z.y) := z1
                    have m1' : (wq13.drewN nq).cell? ⟨M, 1, none⟩ = some (.int .i64 m.y) := m1
                    have HQ1 : Hid (Quiet wc (wq13.drewN nq)) := by obtain ⟨t, e⟩ := HQ0.out; exact ⟨t + nq, by rw [e, World.drewN_drewN]⟩
                    clear z1 m1 HQ0
                    generalize wq13.drewN nq = wq15 at *
                    have z1 := z1'
                    have m1 := m1'
                    have HQ0 : Hid (Quiet wc wq15) := HQ1
                    clear z1' m1' HQ1
                    go_upto_region 17 with fail
                    go_quiet (fail)
                    have z1' : (wq15.drewN nq).cell? ⟨g, go + j * 3 + 1, none⟩ = some (.int .i64 z.y) := z1
                    have m1' : (wq15.drewN nq).cell? ⟨M, 1, none⟩ = some (.int .i64 m.y) := m1
                    have HQ1 : Hid (Quiet wc (wq15.drewN nq)) := by obtain ⟨t, e⟩ := HQ0.out; exact ⟨t + nq, by rw [e, World.drewN_drewN]⟩
                    clear z1 m1 HQ0
                    generalize wq15.drewN nq = wq17 at *
                    have z1 := z1'
                    have m1 := m1'
                    have HQ0 : Hid (Quiet wc wq17) := HQ1
                    clear z1' m1' HQ1
                    clear z1 m1
                    go_wp2_with fail
                    go_roundw
                    case measure => simp [intOf]; omega
                    case rel => exact ⟨j + 1, by omega, by rw [S1.out]; simp, by rw [S2.out]; simp, by rw [S3.out]; simp, by simp, HQ0⟩
                  · have t1 : decide (z.y < m.y) = false := decide_eq_false (by omega)
                    have t2 : decide (m.y < z.y) = true := decide_eq_true (by omega)
                    have t3 : decide (z.y = m.y) = false := decide_eq_false (by omega)
                    have t3' : (z.y == m.y) = false := by simpa using t3
                    rw [t1, if_neg (by decide)] at S1
                    rw [t2, if_pos rfl] at S2
                    rw [t3, if_neg (by decide)] at S3
                    clear hc
                    go_upto_region 13 with fail
                    go_quiet (fail)
                    have z1' : (wr.drewN nq).cell? ⟨g, go + j * 3 + 1, none⟩ = some (.int .i64 z.y) := z1
                    have m1' : (wr.drewN nq).cell? ⟨M, 1, none⟩ = some (.int .i64 m.y) := m1
                    have HQ1 : Hid (Quiet wc (wr.drewN nq)) := by obtain ⟨t, e⟩ := HQ0.out; exact ⟨t + nq, by rw [e, World.drewN_drewN]⟩
                    clear z1 m1 HQ0
                    generalize wr.drewN nq = wq13 at *
                    have z1 := z1'
                    have m1 := m1'
                    have HQ0 : Hid (Quiet wc wq13) := HQ1
                    clear z1' m1' HQ1
                    go_upto_region 15 with fail
                    go_quiet (fail)
                    have z1' : (wq13.drewN nq).cell? ⟨g, go + j * 3 + 1, none⟩ = some (.int .i64 z.y) := z1
                    have m1' : (wq13.drewN nq).cell? ⟨M, 1, none⟩ = some (.int .i64 m.y) := m1
                    have HQ1 : Hid (Quiet wc (wq13.drewN nq)) := by obtain ⟨t, e⟩ := HQ0.out; exact ⟨t + nq, by rw [e, World.drewN_drewN]⟩
                    clear z1 m1 HQ0
                    generalize wq13.drewN nq = wq15 at *
                    have z1 := z1'
                    have m1 := m1'
                    have HQ0 : Hid (Quiet wc wq15) := HQ1
                    clear z1' m1' HQ1
                    go_upto_region 17 with fail
                    go_quiet (fail)
                    have z1' : (wq15.drewN nq).cell? ⟨g, go + j * 3 + 1, none⟩ = some (.int .i64 z.y) := z1
                    have m1' : (wq15.drewN nq).cell? ⟨M, 1, none⟩ = some (.int .i64 m.y) := m1
                    have HQ1 : Hid (Quiet wc (wq15.drewN nq)) := by obtain ⟨t, e⟩ := HQ0.out; exact ⟨t + nq, by rw [e, World.drewN_drewN]⟩
                    clear z1 m1 HQ0
                    generalize wq15.drewN nq = wq17 at *
                    have z1 := z1'
                    have m1 := m1'
                    have HQ0 : Hid (Quiet wc wq17) := HQ1
                    clear z1' m1' HQ1
                    clear z1 m1
                    go_wp2_with fail
                    go_roundw
                    case measure => simp [intOf]; omega
                    case rel => exact ⟨j + 1, by omega, by rw [S1.out]; simp, by rw [S2.out]; simp, by rw [S3.out]; simp, by simp, HQ0⟩
                · have hjn2 : ¬ (j : Int) < (N : Int) := by omega
                  have hje : N = j := by omega
                  subst hje
                  obtain ⟨E1, E2, E3⟩ := cnt_ends HMS.out.2.1 (by have := HMS.out.1; have := HB.out; omega)
                  rw [HMS.out.1] at E1 E2 E3
                  obtain ⟨hh, eh, eh2⟩ : ∃ hh, Int.tdiv n 2 = hh ∧ Hid (hh = ((N / 2 : Nat) : Int)) := ⟨_, rfl, by show Int.tdiv n 2 = _; have := HB.out; rw [this.1]; rfl⟩
                  have hodd : N % 2 = 1 := by have := okN_cases hN4.out; have := HB.out; omega
                  have F1 : ¬ ((cLo ms m.y N : Int) > hh) := by have := eh2.out; omega
                  have F2 : ¬ ((cHi ms m.y N : Int) > hh) := by have := eh2.out; omega
                  have F3 : ¬ (cEq ms m.y N = 0) := by omega
                  have F5 : ((cEq ms m.y N : Int) == 0) = false := by simpa using F3
                  have F4 : -10 < hh := by have := eh2.out; have := HB.out; omega
                  have F6 : hh < 10 := by have := eh2.out; have := HB.out; omega
                  generalize cLo ms m.y N = c1 at *
                  generalize cHi ms m.y N = c2 at *
                  generalize cEq ms m.y N = c3 at *
                  clear E1 E2 E3 hodd eh2
                  have HC2 : Hid (Mid w V M g go la lc ⟨ql, n, v⟩ m ms wr) := hC.out.ext hQ.out.ext
                  obtain ⟨y0, y1, y2, y3, y4⟩ := HC2.out.2.1
                  clear hC hQ hq0
                  go_upto_region 22 with fail
                  clear y0 y1 y2 y3 y4 eh F1 F2 F3 F4 F5 F6 hjn2 hjn
                  have hN1 : 1 ≤ (N : Int) := by have := HB.out; omega
                  have hN7 : (N : Int) ≤ 7 := by have := HB.out; omega
                  have HR0 : Hid (∀ W : World, W.ownsRow W.heap.size Erw 3 (.slice none 0 0) 0 (vcs (ms.reverse.take 0)) ∧ Ext W W) := fun W => ⟨World.ownsRow_nil _ _ _ _, Ext.refl _⟩
                  obtain ⟨i0, hi, hz2, hz1, hz0⟩ := infoq
                  generalize wr = wd at *
                  go_wp2_with fail
                  go_loopw [12, 13] (fun v12 v13 wx => ∃ (i j : Nat) (r : Option Addr) (cc : Nat), i + j + 1 = N ∧ v12 = .slice r i cc ∧ v13 = .int .i64 j ∧ Hid (wx.ownsRow wd.heap.size Erw 3 (.slice r i cc) i (vcs (ms.reverse.take i)) ∧ Ext wd wx)) (fun _ v13 _ => (intOf v13).toNat)
                  case atStart => exact ⟨0, N - 1, none, 0, by omega, rfl, by congr 1; omega, HR0.out wd⟩
                  case round =>
                    obtain ⟨i, j, r, cc, hij, rfl, rfl, hR⟩ := hrel
                    clear HR0
                    by_cases hj0 : 0 < j
                    · have hj02 : (0 : Int) < (j : Int) := by omega
                      have hj3 : (j : Int) < (N : Int) := by omega
                      obtain ⟨z, hz⟩ : ∃ z, ms[j]? = some z := ⟨_, List.getElem?_eq_getElem (by rw [HMS.out.1]; omega)⟩
                      obtain ⟨g', go', eg, z0, z1, z2⟩ := (HC2.out.2.2.2.ext hR.out.2) j z hz
                      cases eg
                      have HT : Hid (vcs (ms.reverse.take (i + 1)) = vcs (ms.reverse.take i) ++ [(.int .i64 z.x : Value), .int .i64 z.y, .int .i64 z.z]) := by
                        have h1 := back_step hz (by rw [HMS.out.1]; omega)
                        rw [HMS.out.1, show N - 1 - j = i by omega] at h1
                        show _ = _
                        rw [h1, vcs_snoc]
                      have h63 : i + 1 ≤ maxLen := by unfold maxLen; omega
                      have hby : (i + 1) * 24 ≤ 140737488355328 := by omega
                      have x4 : Ext wr (wr.alloc (cells3 z)) := (Ext.refl wr).alloc _
                      have O4 : Hid ((wr.alloc (cells3 z)).ownsRow wd.heap.size Erw 3 (.slice r i cc) i (vcs (ms.reverse.take i)) ∧ Ext wd (wr.alloc (cells3 z))) := ⟨vrow_ext hR.out.1 x4, hR.out.2.trans x4⟩
                      clear x4 hR hz
                      go_wp2_with (at_builtin; refine wpList_append_lies _ rfl (.tmp 131) (.tmp 136) 23 rfl wd.heap.size Erw i0 (.agg #[.int .i64 0, .int .i64 0, .int .i64 0]) 3 24 Try.underlying23 hi hz0 hz1 hz2 rfl (by decide) _ i (vcs (ms.reverse.take i)) rfl (by exact O4.out.1) ⟨wr.heap.size, 0, none⟩ 1 1 [(.int .i64 z.x : Value), .int .i64 z.y, .int .i64 z.z] rfl rfl (by exact news3 wr z) (news3_one z) (by decide) h63 hby (by exact O4.out.2.size) _ rfl ?_; intro g' cap' w9 hown' hg' hgb hgl; have R9 : Hid (w9.ownsRow wd.heap.size Erw 3 (.slice (some ⟨g', 0, none⟩) (i + 1) cap') (i + 1) (vcs (ms.reverse.take (i + 1))) ∧ Ext wd w9) := (by rw [HT.out]; exact ⟨hown', vrow_grown hg' O4.out.1 rfl O4.out.2 (Nat.le_refl _)⟩); clear hown' hg' hgb hgl)
                      go_roundw
                      case measure => simp [intOf]; omega
                      case rel => exact ⟨i + 1, j - 1, _, cap', by omega, rfl, by congr 1; omega, R9⟩
                    · have hj02 : ¬ (0 : Int) < (j : Int) := by omega
                      obtain ⟨z, hz⟩ : ∃ z, ms[0]? = some z := ⟨_, List.getElem?_eq_getElem (by rw [HMS.out.1]; omega)⟩
                      have HC3 := HC2.out.ext hR.out.2
                      obtain ⟨g', go', eg, zc0⟩ := HC3.2.2.2 0 z hz
                      cases eg
                      rw [Nat.zero_mul, Nat.add_zero] at zc0
                      have HZ : Hid (C3 wr g go z) := zc0
                      have HX3 : Hid (Ext w wr) := HC3.1
                      have HP3 : Hid (P3 wr M m) := HC3.2.2.1
                      have HV5 : Hid (P5 wr V la lc ⟨ql, n, v⟩) := HC3.2.1
                      have hil : (ms.reverse.take i).length = i := by rw [List.length_take, List.length_reverse, HMS.out.1]; omega
                      have hVL : VL wr r (ms.reverse.take i) := vl_own hR.out.1 hil
                      have hba : ms.reverse.take i ++ [z] = ms.reverse := by have h1 := back_all hz; rw [HMS.out.1, show N - 1 = i by omega] at h1; exact h1
                      have hall : ∀ x ∈ ms, okv x = true := by simpa [List.all_eq_true] using HMS.out.2.2
                      have HT2 : Hid (∀ W, Ext wr W → Calls Try.prog 9 #[.slice r i cc, .int .i64 n, rv z] W fun e w' => ∃ g2 cap2, e = .returned (.tuple #[.slice (some ⟨g2, 0, none⟩) N cap2, rv m, .int .i64 0]) ∧ Hid (Ext W w') ∧ w'.cell? ⟨V, 1, none⟩ = some (.int .i64 n) ∧ C3 w' g go z) := fun W x => by
                        rw [HB.out.1]
                        have := take_is (ms.reverse.take i) r cc N z ms.reverse m W (hVL.ext x) (okWin_of _ _ (by rw [← HB.out.1]; exact hN4.out) (by rw [hil]; omega) (by simp only [List.all_eq_true]; exact fun y hy => hall y (List.mem_reverse.1 (List.mem_of_mem_take hy)))) (hall z (List.mem_of_getElem? hz)) (by unfold pushL; rw [if_pos (by rw [hil]; omega), hba]) ((medv_perm (List.reverse_perm ms)).trans HMS.out.2.1)
                        rw [hil] at this
                        refine this.mono ?_
                        rintro e w' ⟨g2, cap2, rfl, _, _, h3⟩
                        exact ⟨g2, cap2, by rw [List.length_reverse, HMS.out.1], h3, by rw [← HB.out.1]; exact (x.trans h3).keepc HV5.out.2.1, HZ.out.ext (x.trans h3)⟩
                      obtain ⟨k0, k1, k2⟩ := HZ.out
                      have v1 := HV5.out.2.1
                      dsimp only at v1
                      have lV := HV5.out.lt
                      have lG : g < wr.heap.size := World.block_lt_of_cell? wr ⟨g, go, none⟩ k0
                      have q1 : V ≠ wr.heap.size := Nat.ne_of_lt lV
                      have q2 : wr.heap.size ≠ V := Nat.ne_of_gt lV
                      have q3 : g ≠ wr.heap.size := Nat.ne_of_lt lG
                      have q4 : wr.heap.size ≠ g := Nat.ne_of_gt lG
                      have x11 : Hid (Ext wr wr) := Ext.refl wr
                      have hN0 : (0 : Int) < (N : Int) := by omega
                      have hN00 : 0 < N := by omega
                      clear hR hz HC3 zc0 hil hVL hba hall lV lG HC2 hN4 hij hi hz2 hz1 hz0 hN1 hN7
                      go_upto_region 26 with fail
                      go_cut [15, 16] (fun v15 v16 wx => ∃ M2, v15 = .pointer (some ⟨M2, 0, none⟩) ∧ v16 = .int .i64 0 ∧ Hid (Twin w M M2 m wx))
                      case first =>
                        go_region_held3 (fun w' => w'.cell? ⟨V, 1, none⟩ = some (.int .i64 n) ∧ w'.cell? ⟨g, go, none⟩ = some (.int .i64 z.x) ∧ w'.cell? ⟨g, go + 1, none⟩ = some (.int .i64 z.y) ∧ w'.cell? ⟨g, go + 2, none⟩ = some (.int .i64 z.z)) (first | (go_keep; done) | skip) (first | (go_at_call 9; (with_reducible refine (HT2.out _ x11.out.drew).mono ?_); rintro e w2 ⟨g2, cap2, rfl, x2, s0, s1, s2, s3⟩) | (go_at_call 9; refine (HT2.out _ (x11.out.alloc cells0).drew).mono ?_; rintro e w2 ⟨g2, cap2, rfl, x2, s0, s1, s2, s3⟩; obtain ⟨⟨y0, y1, y2⟩, f0, f1, f2⟩ := (p3_at (w := wr) (r := nought) (T := 25) rfl).ext (Ext.trans (Ext.refl (wr.alloc cells0)).drew x2.out)))
                        all_goals
                          go_wp2_with fail
                          go_meet
                        · exact ⟨_, rfl, rfl, twin_b HX3.out HP3.out (Ext.trans (Ext.refl wr).drew x2.out)⟩
                        · exact ⟨_, rfl, rfl, twin_a HX3.out HP3.out (Ext.trans (Ext.refl (wr.alloc cells0)).drew x2.out)⟩
                      case rest =>
                        obtain ⟨M2, rfl, rfl, hT⟩ := hcut
                        clear HT2 k0 k1 k2 v1 q1 q2 q3 q4 x11
                        obtain ⟨⟨y0, y1, y2⟩, _⟩ := hT.out.2.1
                        obtain ⟨⟨r0, r1, r2⟩, _⟩ := hT.out.2.2
                        go_wp2_with (go_at_call 10; refine (HN.out _ _).mono ?_; rintro e wx ⟨rfl, hwx⟩; have hwy := hwx.symm; clear hwx; subst hwy)
                        clear y0 y1 y2 r0 r1 r2
                        go_roundw
                        case measure => simp [intOf]; omega
                        case rel => exact ⟨k + 1, by omega, by simp, hT.out.1⟩
      · have h202 : ¬ (k : Int) < 20 := by omega
        go_wp2_with (go_at_call 13; refine (HW.out _).mono ?_; rintro e w9 ⟨rfl, x9⟩)
        go_ret
        exact ⟨rfl, hR.out.trans x9⟩
    · have hlt2 : ¬ (k : Int) < (L.length : Int) := by omega
      go_wp2_with (go_at_call 13; refine (HW.out _).mono ?_; rintro e w9 ⟨rfl, x9⟩)
      go_ret
      exact ⟨rfl, hR.out.trans x9⟩
end Go.Proofs.Ytfooakbcgjebfaa
