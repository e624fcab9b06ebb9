/- The reference's Median: its walk. -/
import Derived.Test.YtfooakbcgjebfaaMds
namespace Go.Proofs.Ytfooakbcgjebfaa
open Go.RowKit Go.Conc Go.Shelf Go.Lib
set_option maxRecDepth 20000 in
set_option maxHeartbeats 8000000 in
theorem rmedian_any (ls : List Vc) (a : Option Addr) (lc n : Nat) (x : Vc) (w : World) (hV : VL w a ls) (h1 : okWin ls n = true) :
    Calls Try.prog 7 #[.slice a ls.length lc, .int .i64 n, rv x] w fun e w' => ∃ g o c, e = .returned (.tuple #[.slice (some ⟨g, o, none⟩) (pushL n ls x).length c, rv (medv (pushL n ls x))]) ∧ VL w' (some ⟨g, o, none⟩) (pushL n ls x) ∧ w.heap.size ≤ g ∧ Ext w w' := by
  obtain ⟨n1, n2, n3⟩ := okWin_le h1
  have hms := pushL_pos n ls x
  have hml := pushL_le (n := n) x (by omega : ls.length ≤ n) (by omega)
  obtain ⟨i0, hi, hz2, hz1, hz0⟩ := infoq
  obtain ⟨HB, HZ, HX⟩ := take_vars w x
  have HVV : Hid (VL ((w.alloc (cells3 x)).alloc cells0) a ls) := hV.ext HX
  have HZH : Hid (P3 ((w.alloc (cells3 x)).alloc cells0) (w.heap.size + 1) nought) := HZ
  have HXH : Hid (Ext w ((w.alloc (cells3 x)).alloc cells0)) := HX
  obtain ⟨ms, hmse⟩ : ∃ ms, pushL n ls x = ms := ⟨_, rfl⟩
  rw [hmse] at hms hml ⊢
  obtain ⟨m, hm⟩ : ∃ m, medv ms = m := ⟨_, rfl⟩
  rw [hm]
  have HMS : Hid (0 < ms.length ∧ ms.length ≤ 7 ∧ medv ms = m) := ⟨hms, by omega, hm⟩
  have HPU : Hid (pushL n ls x = ms) := hmse
  clear hV h1 hms hml hm hmse HX HZ
  go_enter Try.func7, Try.ntmps7
  go_upto_region 1 with fail
  generalize ((w.alloc (cells3 x)).alloc cells0) = W0 at *
  obtain ⟨⟨b0, b1, b2⟩, _⟩ := HB
  have LB : w.heap.size < W0.heap.size := World.block_lt_of_cell? W0 ⟨w.heap.size, 0, none⟩ b0
  have q1 : w.heap.size ≠ W0.heap.size := Nat.ne_of_lt LB
  have q2 : W0.heap.size ≠ w.heap.size := Nat.ne_of_gt LB
  have HC : Hid (∀ W, Ext W0 W → Calls Try.prog 8 #[.slice a ls.length lc] W fun e w' => ∃ r rc, e = .returned (.slice r ls.length rc) ∧ Hid (w'.ownsRow W0.heap.size Erw 3 (.slice r ls.length rc) ls.length (vcs ls)) ∧ Hid (Ext W0 w') ∧ Hid (Ext W w') ∧ w'.cell? ⟨w.heap.size, 0, none⟩ = some (.int .i64 x.x) ∧ w'.cell? ⟨w.heap.size, 1, none⟩ = some (.int .i64 x.y) ∧ w'.cell? ⟨w.heap.size, 2, none⟩ = some (.int .i64 x.z)) := fun W xx => (copyvecs_any ls a lc W (HVV.out.ext xx) (by omega)).mono fun e w' ⟨r, rc, h1, h2, h3⟩ => ⟨r, rc, h1, vrow_low h2 xx.size, xx.trans h3, h3, (xx.trans h3).keepc b0, (xx.trans h3).keepc b1, (xx.trans h3).keepc b2⟩
  have x11 : Hid (Ext W0 W0) := Ext.refl W0
  have h63 : ls.length + 1 ≤ maxLen := by unfold maxLen; omega
  have hby : (ls.length + 1) * 24 ≤ 140737488355328 := by omega
  have HN : Hid (1 ≤ n ∧ n ≤ 7 ∧ ls.length ≤ n) := by show _ ∧ _; omega
  clear LB n1 n2 n3
  go_cut [8] (fun v8 wx => ∃ g cap, v8 = .slice (some ⟨g, 0, none⟩) (ls.length + 1) cap ∧ Hid (wx.ownsRow W0.heap.size Erw 3 (.slice (some ⟨g, 0, none⟩) (ls.length + 1) cap) (ls.length + 1) (vcs (ls ++ [x])) ∧ Ext W0 wx))
  case first =>
    have HVS : Hid (vcs (ls ++ [x]) = vcs ls ++ [(.int .i64 x.x : Value), .int .i64 x.y, .int .i64 x.z]) := vcs_snoc ls x
    go_region_held3 (fun w' => w'.cell? ⟨w.heap.size, 0, none⟩ = some (.int .i64 x.x) ∧ w'.cell? ⟨w.heap.size, 1, none⟩ = some (.int .i64 x.y) ∧ w'.cell? ⟨w.heap.size, 2, none⟩ = some (.int .i64 x.z)) (first | (go_keep; done) | skip) (first | (refine step_append_lies _ rfl (.tmp 14) (.tmp 16) 23 rfl W0.heap.size Erw i0 (.agg #[.int .i64 0, .int .i64 0, .int .i64 0]) 3 24 Try.underlying23 hi hz0 hz1 hz2 rfl (by decide) _ ls.length (vcs ls) rfl (by first | exact O1.out | exact vrow_ext O1.out (Ext.alloc (Ext.refl _) _) | exact vrow_ext O1.out (Ext.drew (Ext.alloc (Ext.refl _) _)) | exact vrow_ext O1.out (Ext.alloc (Ext.drew (Ext.refl _)) _)) _ 1 1 [.int .i64 x.x, .int .i64 x.y, .int .i64 x.z] rfl rfl (by first | exact NB.out | exact news3 _ x) (by exact news3_one x) (by decide) h63 hby (by first | exact X1.out.size | exact (Ext.alloc X1.out _).size) _ rfl ?_; intro g' cap' w9 hown' hg' hgb hgl; have R9 : Hid (w9.ownsRow W0.heap.size Erw 3 (.slice (some ⟨g', 0, none⟩) (ls.length + 1) cap') (ls.length + 1) (vcs (ls ++ [x])) ∧ Ext W0 w9) := (by rw [HVS.out]; first | exact ⟨hown', vrow_grown hg' O1.out rfl X1.out (Nat.le_refl _)⟩ | exact ⟨hown', vrow_grown hg' (vrow_ext O1.out (Ext.alloc (Ext.refl _) _)) rfl (Ext.alloc X1.out _) (Nat.le_refl _)⟩); have t0 := R9.out.2.keepc b0; have t1 := R9.out.2.keepc b1; have t2 := R9.out.2.keepc b2; clear hown' hg' hgb hgl) | (go_at_call 8; (with_reducible refine (HC.out _ x11.out.drew).mono ?_); rintro e w1 ⟨r, rc, rfl, O1, X1, Y1, s0, s1, s2⟩) | (go_at_call 8; refine (HC.out _ (x11.out.alloc (cells3 x)).drew).mono ?_; rintro e w1 ⟨r, rc, rfl, O1, X1, Y1, s0, s1, s2⟩; have NB : Hid (∀ j u, [(.int .i64 x.x : Value), .int .i64 x.y, .int .i64 x.z][j]? = some u → w1.cell? ((⟨W0.heap.size, 0, none⟩ : Addr).add j) = some u) := news3_ext (Ext.trans (Ext.refl (W0.alloc (cells3 x))).drew Y1.out)))
    all_goals
      go_wp2_with fail
      go_meet
      exact ⟨_, _, rfl, R9⟩
  case rest =>
    obtain ⟨g, cap, rfl, hC⟩ := hcut
    clear HC x11 h63 hby b0 b1 b2 q1 q2 HVV
    have HV1 : Hid (VL wc (some ⟨g, 0, none⟩) (ls ++ [x])) := vl_own hC.out.1 (by simp)
    have HCP : Hid (ls.length + 1 ≤ cap) := by
      rcases hC.out.1.2 with ⟨e, _⟩ | ⟨g', cap', cur, hv, hb, hg, h1, _⟩
      · cases e
      · cases hv; exact h1
    have HX1 : Hid (Ext W0 wc) := hC.out.2
    have HG : Hid (w.heap.size + 1 < g) := by have h5 := (hC.out.1.lt g rfl).1; have h6 := HZH.out.lt; show _ < _; omega
    clear hC
    generalize wc = wa at *
    go_upto_if 21 with fail
    obtain ⟨bb, hbb, hbb2⟩ : ∃ bb, decide ((n : Int) < (ls.length : Int) + 1) = bb ∧ Hid (decide ((n : Int) < (ls.length : Int) + 1) = bb) := ⟨_, rfl, rfl⟩
    rw [hbb]
    clear hbb
    go_cut [8] (fun v8 wx => ∃ off cc, v8 = .slice (some ⟨g, off, none⟩) ms.length cc ∧ Hid (VL wx (some ⟨g, off, none⟩) ms ∧ wa = wx))
    case first =>
      have hb3 := hbb2.out
      clear hbb2
      cases bb
      · have h1 := of_decide_eq_false hb3
        have e1 : ls ++ [x] = ms := by rw [← HPU.out, push_shortL (by omega)]
        have e2 : ls.length + 1 = ms.length := by rw [← e1]; simp
        have HF : Hid (VL wa (some ⟨g, 0, none⟩) ms) := by rw [← e1]; exact HV1.out
        have HE : Hid (ls.length + 1 = ms.length) := e2
        clear h1 hb3 e1 e2
        go_wp2_with fail
        go_meet
        exact ⟨0, cap, by rw [HE.out], HF.out, rfl⟩
      · have h1 := of_decide_eq_true hb3
        clear hb3
        have hn0 := HN.out
        have i1 : (1 : Int) ≤ (n : Int) := by omega
        have i2 : (n : Int) ≤ 7 := by omega
        have i3 : (ls.length : Int) ≤ (n : Int) := by omega
        have e1 : (ls ++ [x]).drop 1 = ms := by rw [← HPU.out, push_fullL (by omega) (by omega)]
        have HE : Hid (ls.length + 1 - n = 1 ∧ ls.length + 1 - (ls.length + 1 - n) = ms.length) := by show _ ∧ _; rw [← e1]; simp; omega
        have HF : Hid (VL wa (if cap = 1 then some ⟨g, 0, none⟩ else some ⟨g, 1 * 3, none⟩) ms) := by rw [← e1]; exact HV1.out.slice (by simpa using HCP.out)
        have hcp : ¬ cap = ls.length + 1 - n := by have := HCP.out; omega
        have HF2 : Hid (VL wa (some ⟨g, (ls.length + 1 - n) * 3, none⟩) ms) := by
          have h5 := HF.out
          rw [if_neg (by have := HCP.out; omega)] at h5
          rw [HE.out.1]
          exact h5
        clear hn0 e1
        go_wp2_with fail
        go_meet
        exact ⟨(ls.length + 1 - n) * 3, cap - (ls.length + 1 - n), by rw [HE.out.2], HF2.out, rfl⟩
    case rest =>
      obtain ⟨go, cc, rfl, hD⟩ := hcut
      have e9 := hD.out.2
      have e8 := hD.out.1
      clear hD
      subst e9
      have HV2 : Hid (VL wa (some ⟨g, go, none⟩) ms) := e8
      clear e8 hbb2 HV1 HCP HPU HN hi hz2 hz1 hz0
      obtain ⟨j0, hj, hy2, hy1, hy0⟩ := infoI
      have m7 : (ms.length : Int) ≤ 7 := by have := HMS.out; omega
      have H0 : Hid (R3 wa wa 0 0 0 ((ms.take 0).map fun v => v.x) ((ms.take 0).map fun v => v.y) ((ms.take 0).map fun v => v.z) (.slice none 0 0) (.slice none 0 0) (.slice none 0 0)) := r3_nil wa
      go_wp2_with fail
      go_loopw [9, 10, 11, 12] (fun v9 v10 v11 v12 wx => ∃ (k : Nat) (r1 : Option Addr) (c1 : Nat) (r2 : Option Addr) (c2 : Nat) (r3 : Option Addr) (c3 : Nat), k ≤ ms.length ∧ v9 = .slice r1 k c1 ∧ v10 = .slice r2 k c2 ∧ v11 = .slice r3 k c3 ∧ v12 = .int .i64 k ∧ Hid (R3 wa wx k k k ((ms.take k).map fun v => v.x) ((ms.take k).map fun v => v.y) ((ms.take k).map fun v => v.z) (.slice r1 k c1) (.slice r2 k c2) (.slice r3 k c3))) (fun _ _ _ v12 _ => ms.length - (intOf v12).toNat)
      case atStart => exact ⟨0, none, 0, none, 0, none, 0, Nat.zero_le _, rfl, rfl, rfl, rfl, H0⟩
      case round =>
        obtain ⟨k, r1, c1, r2, c2, r3, c3, hk, rfl, rfl, rfl, rfl, hR⟩ := hrel
        clear H0
        by_cases hlt : k < ms.length
        · have hlt2 : (k : Int) < (ms.length : Int) := by omega
          obtain ⟨z, hz⟩ : ∃ z, ms[k]? = some z := ⟨_, List.getElem?_eq_getElem hlt⟩
          obtain ⟨b, off, eg, z0, z1, z2⟩ := (HV2.out.ext hR.out.ex) k z hz
          cases eg
          have EX : Hid ((ms.take (k + 1)).map (fun v => v.x) = (ms.take k).map (fun v => v.x) ++ [z.x] ∧ (ms.take (k + 1)).map (fun v => v.y) = (ms.take k).map (fun v => v.y) ++ [z.y] ∧ (ms.take (k + 1)).map (fun v => v.z) = (ms.take k).map (fun v => v.z) ++ [z.z]) := ⟨map_snoc _ hz, map_snoc _ hz, map_snoc _ hz⟩
          have HC3 : Hid (∀ W, Ext wa W → C3 W g (go + k * 3) z) := fun W xx => by
            obtain ⟨b', off', e, c⟩ := (HV2.out.ext xx) k z hz
            cases e
            exact c
          have h63 : k + 1 ≤ maxLen := by have := HMS.out; unfold maxLen; omega
          have hby : (k + 1) * 8 ≤ 140737488355328 := by have := HMS.out; omega
          have O1 : Hid (R3 wa (wr.alloc (.cells #[.int .i64 z.x] Ei)) k k k ((ms.take k).map fun v => v.x) ((ms.take k).map fun v => v.y) ((ms.take k).map fun v => v.z) (.slice r1 k c1) (.slice r2 k c2) (.slice r3 k c3)) := hR.out.ext ((Ext.refl wr).alloc _)
          clear hz hR
          go_upto_region 9 with (at_builtin; refine wpList_append_lies _ rfl (.tmp 34) (.tmp 40) 42 rfl wa.heap.size Ei j0 (.int .i64 0) 1 8 Try.underlying42 hj hy0 hy1 hy2 rfl (by decide) _ k (ivs ((ms.take k).map fun v => v.x)) rfl (by exact O1.out.oa) ⟨wr.heap.size, 0, none⟩ 1 1 [(.int .i64 z.x : Value)] rfl rfl (by exact news1 wr z.x) (by exact news1_one z.x) (by decide) h63 hby (by exact O1.out.ex.size) _ rfl ?_; intro g1 cap1 w1 hown1 hg1 hgb1 hgl1)
          have G1 : Hid (R3 wa w1 (k + 1) k k ((ms.take k).map (fun v => v.x) ++ [z.x]) ((ms.take k).map fun v => v.y) ((ms.take k).map fun v => v.z) (.slice (some ⟨g1, 0, none⟩) (k + 1) cap1) (.slice r2 k c2) (.slice r3 k c3)) := O1.out.grow hown1 hg1 hgb1
          clear O1 hown1 hg1 hgb1 hgl1 z0 z1 z2
          obtain ⟨z0, z1, z2⟩ := HC3.out w1 G1.out.ex
          have O2 : Hid (R3 wa (w1.alloc (.cells #[.int .i64 z.y] Ei)) k k (k + 1) ((ms.take k).map fun v => v.y) ((ms.take k).map fun v => v.z) ((ms.take k).map (fun v => v.x) ++ [z.x]) (.slice r2 k c2) (.slice r3 k c3) (.slice (some ⟨g1, 0, none⟩) (k + 1) cap1)) := G1.out.rot.ext ((Ext.refl w1).alloc _)
          clear G1
          go_upto_region 10 with (at_builtin; refine wpList_append_lies _ rfl (.tmp 42) (.tmp 48) 42 rfl wa.heap.size Ei j0 (.int .i64 0) 1 8 Try.underlying42 hj hy0 hy1 hy2 rfl (by decide) _ k (ivs ((ms.take k).map fun v => v.y)) rfl (by exact O2.out.oa) ⟨w1.heap.size, 0, none⟩ 1 1 [(.int .i64 z.y : Value)] rfl rfl (by exact news1 w1 z.y) (by exact news1_one z.y) (by decide) h63 hby (by exact O2.out.ex.size) _ rfl ?_; intro g2 cap2 w2 hown2 hg2 hgb2 hgl2)
          have G2 : Hid (R3 wa w2 (k + 1) k (k + 1) ((ms.take k).map (fun v => v.y) ++ [z.y]) ((ms.take k).map fun v => v.z) ((ms.take k).map (fun v => v.x) ++ [z.x]) (.slice (some ⟨g2, 0, none⟩) (k + 1) cap2) (.slice r3 k c3) (.slice (some ⟨g1, 0, none⟩) (k + 1) cap1)) := O2.out.grow hown2 hg2 hgb2
          clear O2 hown2 hg2 hgb2 hgl2 z0 z1 z2
          obtain ⟨z0, z1, z2⟩ := HC3.out w2 G2.out.ex
          have O3 : Hid (R3 wa (w2.alloc (.cells #[.int .i64 z.z] Ei)) k (k + 1) (k + 1) ((ms.take k).map fun v => v.z) ((ms.take k).map (fun v => v.x) ++ [z.x]) ((ms.take k).map (fun v => v.y) ++ [z.y]) (.slice r3 k c3) (.slice (some ⟨g1, 0, none⟩) (k + 1) cap1) (.slice (some ⟨g2, 0, none⟩) (k + 1) cap2)) := G2.out.rot.ext ((Ext.refl w2).alloc _)
          clear G2
          go_wp2_with (at_builtin; refine wpList_append_lies _ rfl (.tmp 50) (.tmp 56) 42 rfl wa.heap.size Ei j0 (.int .i64 0) 1 8 Try.underlying42 hj hy0 hy1 hy2 rfl (by decide) _ k (ivs ((ms.take k).map fun v => v.z)) rfl (by exact O3.out.oa) ⟨w2.heap.size, 0, none⟩ 1 1 [(.int .i64 z.z : Value)] rfl rfl (by exact news1 w2 z.z) (by exact news1_one z.z) (by decide) h63 hby (by exact O3.out.ex.size) _ rfl ?_; intro g3 cap3 w3 hown3 hg3 hgb3 hgl3; have G3 : Hid (R3 wa w3 (k + 1) (k + 1) (k + 1) ((ms.take k).map (fun v => v.z) ++ [z.z]) ((ms.take k).map (fun v => v.x) ++ [z.x]) ((ms.take k).map (fun v => v.y) ++ [z.y]) (.slice (some ⟨g3, 0, none⟩) (k + 1) cap3) (.slice (some ⟨g1, 0, none⟩) (k + 1) cap1) (.slice (some ⟨g2, 0, none⟩) (k + 1) cap2)) := (by exact O3.out.grow hown3 hg3 hgb3); clear hown3 hg3 hgb3 hgl3)
          clear O3 z0 z1 z2
          go_roundw
          case measure => simp [intOf]; omega
          case rel => exact ⟨k + 1, _, cap1, _, cap2, _, cap3, by omega, rfl, rfl, rfl, by simp, by rw [EX.out.1, EX.out.2.1, EX.out.2.2]; exact G3.out.rot⟩
        · have hlt2 : ¬ (k : Int) < (ms.length : Int) := by omega
          have hke : ms.length = k := by omega
          have HL : Hid (∀ W, Ext wr W → IL W r1 (ms.map fun v => v.x) ∧ IL W r2 (ms.map fun v => v.y) ∧ IL W r3 (ms.map fun v => v.z)) := fun W xx => by
            have h5 := hR.out.ext xx
            rw [← hke, List.take_length] at h5
            exact ⟨il_own h5.oa (by simp), il_own h5.ob (by simp), il_own h5.oc (by simp)⟩
          have HX3 : Hid (Ext w wr) := HXH.out.trans (HX1.out.trans hR.out.ex)
          have HZ3 : Hid (P3 wr (w.heap.size + 1) nought) := HZH.out.ext (HX1.out.trans hR.out.ex)
          have HV3 : Hid (VL wr (some ⟨g, go, none⟩) ms) := HV2.out.ext hR.out.ex
          have hmx : med (ms.map fun v => v.x) = m.x := by rw [← HMS.out.2.2]; rfl
          have hmy : med (ms.map fun v => v.y) = m.y := by rw [← HMS.out.2.2]; rfl
          have hmz : med (ms.map fun v => v.z) = m.z := by rw [← HMS.out.2.2]; rfl
          have hl1 : 0 < ms.length := HMS.out.1
          have hl2 : ms.length ≤ 8 := by have := HMS.out; omega
          have HM1 : Hid (∀ W, Ext wr W → Calls Try.prog 16 #[.slice r1 k c1] W fun e w' => e = .returned (.int .i64 m.x) ∧ Ext wr w') := fun W xx => by
            have := rmiddle_any (ms.map fun v => v.x) r1 c1 W (HL.out W xx).1 (by simpa using hl1) (by simpa using hl2)
            rw [List.length_map, hke, hmx] at this
            exact this.mono fun e w' ⟨h1, h2⟩ => ⟨h1, xx.trans h2.ext⟩
          have HM2 : Hid (∀ W, Ext wr W → Calls Try.prog 16 #[.slice r2 k c2] W fun e w' => e = .returned (.int .i64 m.y) ∧ Ext wr w') := fun W xx => by
            have := rmiddle_any (ms.map fun v => v.y) r2 c2 W (HL.out W xx).2.1 (by simpa using hl1) (by simpa using hl2)
            rw [List.length_map, hke, hmy] at this
            exact this.mono fun e w' ⟨h1, h2⟩ => ⟨h1, xx.trans h2.ext⟩
          have HM3 : Hid (∀ W, Ext wr W → Calls Try.prog 16 #[.slice r3 k c3] W fun e w' => e = .returned (.int .i64 m.z) ∧ Ext wr w') := fun W xx => by
            have := rmiddle_any (ms.map fun v => v.z) r3 c3 W (HL.out W xx).2.2 (by simpa using hl1) (by simpa using hl2)
            rw [List.length_map, hke, hmz] at this
            exact this.mono fun e w' ⟨h1, h2⟩ => ⟨h1, xx.trans h2.ext⟩
          have HKE : Hid (ms.length = k) := hke
          have x33 : Hid (Ext wr wr) := Ext.refl wr
          clear hmx hmy hmz hl1 hl2 HL hR hke hj hy2 hy1 hy0 hlt HV2 HX1 HXH HZH
          go_wp2_with (first | (go_at_call_of 16 (Value.slice r1 k c1); refine (HM1.out _ x33.out).mono ?_; rintro e w4 ⟨rfl, x4⟩) | (go_at_call_of 16 (Value.slice r2 k c2); refine (HM2.out _ x4).mono ?_; rintro e w5 ⟨rfl, x5⟩) | (go_at_call_of 16 (Value.slice r3 k c3); refine (HM3.out _ x5).mono ?_; rintro e w6 ⟨rfl, x6⟩; obtain ⟨⟨z0, z1, z2⟩, zf0, zf1, zf2⟩ := HZ3.out.ext x6))
          have hx8 : Ext w (put3 w6 (w.heap.size + 1) 0 m) := (HX3.out.trans x6).put3 (Nat.le_succ _) 0 m
          have hv8 : VL (put3 w6 (w.heap.size + 1) 0 m) (some ⟨g, go, none⟩) ms := (HV3.out.ext x6).tn (put3_tn _ _ _ _) (by have := HG.out; omega)
          refine bodyPost_ret (v := .tuple #[.slice (some ⟨g, go, none⟩) ms.length cc, rv m]) (by simp [results, Try.results7, go_sem, z0, z1, z2]) rfl ⟨g, go, cc, rfl, hv8, (by have := HG.out; omega), hx8⟩
end Go.Proofs.Ytfooakbcgjebfaa
