/- BusSamples: its walk. -/
import Derived.Test.YtadgaolakbnhcaaZb
namespace Go.Proofs.Ytadgaolakbnhcaa
open Go.RowKit Go.Conc
set_option maxRecDepth 20000 in
set_option maxHeartbeats 8000000 in
theorem samples_any (w : World) (am : Option Addr) (M : List Md) (cm : Nat) (af : Option Addr) (lf cf : Nat) (al : Option Addr) (ll cl : Nat) (hM : MRs w am M) (hl : M.length ≤ maxLen) (hcm : M.length ≤ cm) :
    Calls Try.prog 4 #[scv am M.length cm af lf cf al ll cl] w fun e w' => e = .returned (.bool true) ∧ Ext w w' := by
  have x0 : Ext w (w.alloc (scc am M.length cm af lf cf al ll cl)) := (Ext.refl w).alloc _
  have hS : SC (w.alloc (scc am M.length cm af lf cf al ll cl)) w.heap.size am M.length cm af lf cf al ll cl := sc_new
  have HH := heavy_any _ am M cm none 0 0 (hM.ext x0) hl
  have HMM : Hid (∀ wr, Ext (w.alloc (scc am M.length cm af lf cf al ll cl)) wr → MRs wr am M) := fun wr x => (hM.ext x0).ext x
  have HX0 : Hid (Ext w (w.alloc (scc am M.length cm af lf cf al ll cl))) := x0
  have HNU : Hid (∀ v w', Calls Try.prog 11 #[.int .i64 v] w' fun e w'' => e = .returned (.int .i64 v) ∧ w'' = w') := num_any
  unfold maxLen at hl
  clear hM x0
  obtain ⟨s0, s1, s2⟩ := id hS
  have HS : Hid (SC (w.alloc (scc am M.length cm af lf cf al ll cl)) w.heap.size am M.length cm af lf cf al ll cl) := hS
  clear hS
  go_enter Try.func4, Try.ntmps4
  go_upto_region 1 with fail
  generalize w.alloc (scc am M.length cm af lf cf al ll cl) = w0 at *
  generalize w.heap.size = B at *
  cases hhv : heavyB 0 M <;> rw [hhv] at HH
  · by_cases h0 : M.length = 0
    · rw [h0] at HH s0
      go_wp2_with (go_at_call 7; refine HH.mono ?_; rintro e wx ⟨rfl, hwx⟩; have hwy := hwx.symm; clear hwx; subst hwy)
      go_ret
      exact ⟨rfl, HX0.out⟩
    · have h0p : 0 < M.length := by omega
      have h0b : ((M.length : Int) == 0) = false := beq_eq_false_iff_ne.2 (by omega)
      have hc1 : (1 : Int) ≤ (cm : Int) := by omega
      have hM1 := (HMM.out w0 (Ext.refl _)).one h0p
      have HY := may_any w0 am [gm M 0] cm none [] 0 hM1 (by simp [maxLen]) (frs_nil _ _) (by simp [maxLen])
      clear hM1
      cases hok : okMs [gm M 0] && okFs [] <;> rw [hok] at HY
      · go_wp2_with (first | (go_at_call 7; refine HH.mono ?_; rintro e wx ⟨rfl, hwx⟩; have hwy := hwx.symm; clear hwx; subst hwy) | (go_at_call 10; refine HY.mono ?_; rintro e w1 ⟨rfl, x1⟩))
        go_ret
        exact ⟨rfl, HX0.out.trans x1⟩
      · have hmm : okM (gm M 0) = true := by
          have h1 := (Bool.and_eq_true _ _ ▸ hok).1
          have h2 : (okUp [gm M 0] 0 && (okM (gm [gm M 0] 0) && (fnd (dvs [gm M 0]) 0 (gm [gm M 0] 0).addr).isNone)) = true := (Bool.and_eq_true _ _ ▸ h1).2
          simp only [Bool.and_eq_true] at h2
          exact h2.2.1
        have HN : Hid (∀ w1, Ext w0 w1 → Calls Try.prog 9 #[.slice am 1 cm, .slice none 0 0] w1 fun e w' => ∃ y : BA, e = .returned (.tuple #[.pointer (some ⟨y.b, 0, none⟩), .int .i64 0]) ∧ Hid (Rg w0 w' y (newB [gm M 0] []))) := fun w1 x1 => by
          refine (busnew_any w1 am [gm M 0] cm none [] 0 ((HMM.out w1 x1).one h0p) (by simp [maxLen]) (frs_nil _ _) (by simp [maxLen])).mono ?_
          rintro e w' ⟨x2, _, hy⟩
          obtain ⟨y, he, hb, hf⟩ := hy hok
          exact ⟨y, he, x1.trans x2, hb, fun k o => by have := hf k o; have := x1.size; omega⟩
        have HMO : Hid (okM (gm M 0) = true) := hmm
        clear hmm hok
        obtain ⟨b1, o1, la, lc, rfl, _, _, _⟩ := HMM.out w0 (Ext.refl _) 0 h0p
        have HM0 : Hid (∀ wr, Ext w0 wr → wr.cell? ⟨b1, o1, none⟩ = some (.int .i64 (gm M 0).addr) ∧ wr.cell? ⟨b1, o1 + 2, none⟩ = some (.slice la (gm M 0).list.length lc) ∧ LR wr la (gm M 0).list) := fun wr x => by
          rename_i m3 lr _
          exact ⟨x.keepc m3.1, x.keepc m3.2.2, lr.ext x⟩
        rename_i m3 lr _
        clear m3 lr
        have HSN : Hid (SG (newB [gm M 0] []) (gm M 0) (gm M 0).dev) := SG.new _
        have hl4 : (gm M 0).list.length ≤ 4096 := (okM_parts HMO.out).2
        generalize newB [gm M 0] [] = sn at *
        generalize gm M 0 = m at *
        by_cases hl0 : m.list.length = 0
        · go_wp2_with (first | (go_at_call 7; refine HH.mono ?_; rintro e wx ⟨rfl, hwx⟩; have hwy := hwx.symm; clear hwx; subst hwy) | (go_at_call 10; refine HY.mono ?_; rintro e w1 ⟨rfl, x1⟩; obtain ⟨q0, q1, q2⟩ := HS.out.ext x1; obtain ⟨q3, q4, _⟩ := HM0.out _ x1; rw [hl0] at q4))
          go_ret
          exact ⟨rfl, HX0.out.trans x1⟩
        · have hlb : ((m.list.length : Int) == 0) = false := beq_eq_false_iff_ne.2 (by omega)
          have hln : (m.list.length : Int) ≠ 0 := by omega
          have hlp : 0 < m.list.length := by omega
          obtain ⟨b2, o2, rfl, _⟩ := (HM0.out w0 (Ext.refl _)).2.2 0 hlp
          obtain ⟨qn, hqn, HW1⟩ := within_any (ll : Int) 7 (by omega) (by omega)
          have HV1 : Hid (∀ w, Calls Try.prog 14 #[.int .i64 ll, .int .i64 7] w fun e w' => e = .returned (.int .i64 qn) ∧ w' = w) := HW1
          clear HW1
          go_upto_region 4 with (first | (go_at_call 7; refine HH.mono ?_; rintro e wx ⟨rfl, hwx⟩; have hwy := hwx.symm; clear hwx; subst hwy) | (go_at_call 10; refine HY.mono ?_; rintro e w1 ⟨rfl, x1⟩; obtain ⟨q0, q1, q2⟩ := HS.out.ext x1; obtain ⟨q3, q4, _⟩ := HM0.out _ x1) | (go_at_call 9; refine (HN.out _ x1).mono ?_; rintro e w2 ⟨y, rfl, h2⟩))
          clear q0 q1 q2 q3 q4 HN HH HY
          go_upto_region 6 with (go_at_call 11; refine (HNU.out _ _).mono ?_; rintro e wx ⟨rfl, hwx⟩; have hwy := hwx.symm; clear hwx; subst hwy)
          obtain ⟨q0, q1, q2⟩ := HS.out.ext h2.out.x
          obtain ⟨q3, q4, _⟩ := HM0.out _ h2.out.x
          have hqi : (qn : Int) < 7 := by omega
          go_upto_region 8 with (go_at_call 14; refine (HV1.out _).mono ?_; rintro e wx ⟨rfl, hwx⟩; have hwy := hwx.symm; clear hwx; subst hwy)
          obtain ⟨n, hn, hn1, hn7⟩ : ∃ n : Nat, 1 + (qn : Int) = (n : Int) ∧ 1 ≤ n ∧ n ≤ 7 := ⟨qn + 1, by omega, by omega, by omega⟩
          rw [hn]
          clear hn hqn hqi HV1 q0 q1 q2 q3 q4 s0 s1 s2 hhv h0 h0b hc1 x1
          have hw8 : IntKind.u8.wrap (n : Int) = n := by rw [IntKind.wrap_u8]; omega
          have hn7i : (n : Int) ≤ 7 := by omega
          have HD1 := s_per h2.out HSN.out HMO.out n hn1 (by omega)
          go_upto_region 9 with (go_at_call 19; refine HD1.mono ?_; rintro e w3 ⟨a3, c3, rfl, h3⟩)
          obtain ⟨s3, g3, r3⟩ := h3.out
          have x3 : Ext w3 (w3.alloc (.cells #[.int .i64 1, .slice a3 0 c3] 57)) := (Ext.refl w3).alloc _
          have HD2 := s_on (g3.ext x3) r3 HMO.out
          generalize w3.alloc (.cells #[.int .i64 1, .slice a3 0 c3] 57) = w4 at *
          clear HD1 x3 g3 h3 h2 HSN hw8
          go_upto_region 10 with (go_at_call 19; refine HD2.mono ?_; rintro e w5 ⟨a5, c5, rfl, h5⟩)
          obtain ⟨s5, g5, r5⟩ := h5.out
          have x5 : Ext w5 (w5.alloc (.cells #[.int .i64 1, .slice a5 0 c5] 57)) := (Ext.refl w5).alloc _
          have G5 : Hid (Rg w0 (w5.alloc (.cells #[.int .i64 1, .slice a5 0 c5] 57)) y s5 ∧ SG s5 m (onD m n 0)) := ⟨g5.ext x5, r5⟩
          clear x5 g5 r5 h5 HD2 r3
          generalize w5.alloc (.cells #[.int .i64 1, .slice a5 0 c5] 57) = w6 at *
          go_upto_region 13 with (go_at_call 11; refine (HNU.out _ _).mono ?_; rintro e wx ⟨rfl, hwx⟩; have hwy := hwx.symm; clear hwx; subst hwy)
          obtain ⟨i0, hi, hz0, hz1, hz2⟩ := info_parts Try.infoTb
          go_wp2_with fail
          go_loopw [11, 12, 13, 14, 15, 16, 17, 18] (fun at_ i _ _ _ _ _ _ wr => ∃ (k c : Nat) (s : Bs), k < m.list.length ∧ c ≤ 20 ∧ at_ = .int .i64 k ∧ i = .int .i64 c ∧ Hid (Rg w0 wr y s ∧ SG s m (onD m n k))) (fun _ i _ _ _ _ _ _ _ => 20 - (intOf i).toNat)
          case atStart => exact ⟨0, 0, _, hlp, Nat.zero_le _, rfl, rfl, G5⟩
          case round =>
            obtain ⟨k, c, s, hk, hc, rfl, rfl, hR⟩ := hrel
            clear G5
            by_cases hlt : c < 20
            · have hlti : (c : Int) < 20 := by omega
              have HT := s_two hR.out.1 hR.out.2 hn1 hn7 hlp
              go_upto_region 18 with (first | (go_at_call 11; refine (HNU.out _ _).mono ?_; rintro e wx ⟨rfl, hwx⟩; have hwy := hwx.symm; clear hwx; subst hwy) | (go_at_call 16; refine HT.mono ?_; rintro e w7 ⟨rfl, h7⟩))
              obtain ⟨s7, g7, r7⟩ := h7.out
              have HD1 := s_len g7 r7 HMO.out
              clear HT h7 hR
              go_upto_region 19 with (go_at_call 19; refine HD1.mono ?_; rintro e w8 ⟨a8, c8, rfl, h8⟩)
              obtain ⟨b8, s8, g8, r8⟩ := h8.out
              have x8 : Ext w8 (w8.alloc (.cells #[.int .i64 1, .slice a8 1 c8] 57)) := (Ext.refl w8).alloc _
              have k8 : (w8.alloc (.cells #[.int .i64 1, .slice a8 1 c8] 57)).cell? ⟨w8.heap.size, 1, none⟩ = some (.slice a8 1 c8) := by simp [go_sem]
              have HE := lit1 b8 x8
              have G8 : Hid (Rg w0 (w8.alloc (.cells #[.int .i64 1, .slice a8 1 c8] 57)) y s8 ∧ SG s8 m (twoD m n k)) := ⟨g8.ext x8, r8⟩
              clear b8 x8 g8 r8 h8 HD1 g7 r7
              generalize w8.alloc (.cells #[.int .i64 1, .slice a8 1 c8] 57) = w9 at *
              generalize w8.heap.size = V8 at *
              go_upto_region 21 with (first | (go_at_call 11; refine (HNU.out _ _).mono ?_; rintro e wx ⟨rfl, hwx⟩; have hwy := hwx.symm; clear hwx; subst hwy) | (go_at_call 26; refine HE.mono ?_; rintro e w10 ⟨rfl, x10⟩))
              have HD2 := s_take (G8.out.1.ext x10) G8.out.2 HMO.out
              clear k8 HE
              go_upto_region 22 with (go_at_call 19; refine HD2.mono ?_; rintro e w11 ⟨a11, c11, rfl, h11⟩)
              obtain ⟨b11, s11, g11, r11⟩ := h11.out
              have x11 : Ext w11 (w11.alloc (.cells #[.int .i64 1, .slice a11 16 c11] 57)) := (Ext.refl w11).alloc _
              have k11 : (w11.alloc (.cells #[.int .i64 1, .slice a11 16 c11] 57)).cell? ⟨w11.heap.size, 1, none⟩ = some (.slice a11 16 c11) := by simp [go_sem]
              have K11 : Hid ((w11.alloc (.cells #[.int .i64 1, .slice a11 16 c11] 57)).cell? ⟨w11.heap.size, 1, none⟩ = some (.slice a11 16 c11)) := k11
              have B11 : Hid (RdB (w11.alloc (.cells #[.int .i64 1, .slice a11 16 c11] 57)) (.slice a11 16 c11) (brst (two m k) 2)) := b11.ext x11
              have G11 : Hid (Rg w0 (w11.alloc (.cells #[.int .i64 1, .slice a11 16 c11] 57)) y s11 ∧ SG s11 m (onD m n ((k + 1 + 1) % m.list.length))) := ⟨g11.ext x11, r11⟩
              clear b11 g11 r11 x11 k11 h11 HD2 G8 x10
              generalize w11.alloc (.cells #[.int .i64 1, .slice a11 16 c11] 57) = w12 at *
              generalize w11.heap.size = V11 at *
              have HT0 : Hid (Tw w12 w12 m k 0 (.slice none 0 0)) := ⟨World.ownsRow_nil _ _ _ _, Ext.refl _⟩
              have HK0 : Hid (k = (k + 0) % m.list.length) := (Nat.mod_eq_of_lt hk).symm
              go_wp2_with fail
              go_loopw [11, 17, 18] (fun at_ v i wr => ∃ (j t : Nat) (r : Option Addr) (cc : Nat), j ≤ 2 ∧ t = (k + j) % m.list.length ∧ at_ = .int .i64 t ∧ v = .slice r ((8 * j : Nat)) cc ∧ i = .int .i64 j ∧ Hid (Tw w12 wr m k j (.slice r ((8 * j : Nat)) cc))) (fun _ _ i _ => 2 - (intOf i).toNat)
              case atStart => exact ⟨0, k, none, 0, by omega, HK0.out, rfl, rfl, rfl, HT0⟩
              case round =>
                obtain ⟨j, t, r, cc, hj, ht, rfl, rfl, rfl, hTw⟩ := hrel
                clear HT0 HK0
                have HHt : Hid (t = (k + j) % m.list.length) := ht
                clear ht
                have xw : Ext w0 wr := G11.out.1.x.trans hTw.out.2
                by_cases hj2 : j < 2
                · have hj2i : (j : Int) < 2 := by omega
                  have htl : t < m.list.length := by rw [HHt.out]; exact Nat.mod_lt _ hlp
                  have htli : (t : Int) < (m.list.length : Int) := by omega
                  obtain ⟨p0, p1, p2⟩ := HS.out.ext xw
                  obtain ⟨q3, q4, q5⟩ := HM0.out _ xw
                  obtain ⟨b2', o2', e2', hcs⟩ := q5 t htl
                  cases e2'
                  have HTB : Hid (bv (brst (two m k) (j + 1)) = bv (brst (two m k) j) ++ bv (pk (smp m.list t)).l) := by show _ = _; rw [HHt.out]; exact two_bytes m k j hk hj2
                  have HB := bytes_any wr (smp m.list t)
                  generalize smp m.list t = z at *
                  obtain ⟨i1, i2, i3, i4⟩ := hcs
                  have HNX : Hid (((t : Int) + 1) % (m.list.length : Int) = (((k + (j + 1)) % m.list.length : Nat) : Int)) := by
                    show _ = _
                    rw [HHt.out]
                    have e1 : ((((k + j) % m.list.length : Nat) : Int) + 1) = (((k + j) % m.list.length + 1 : Nat) : Int) := by omega
                    rw [e1, ← Int.natCast_emod, Nat.mod_add_mod, Nat.add_assoc]
                  have h63 : 8 * j + 8 ≤ maxLen := by unfold maxLen; omega
                  have hby : (8 * j + 8) * 1 ≤ 140737488355328 := by omega
                  clear q5
                  have hMl : (0 : Int) < (M.length : Int) := by omega
                  go_upto_region 27 with (first | (go_at_call 27; refine HB.mono ?_; rintro e w13 ⟨g13, c13, rfl, o13, x13⟩; have O4 : Hid (w13.ownsRow w12.heap.size Eb 1 (.slice r ((8 * j : Nat)) cc) (8 * j) (bv (brst (two m k) j))) := row_ext hTw.out.1 x13; have V4 : Hid (∀ j u, (bv (pk z).l)[j]? = some u → w13.cell? ((⟨g13, 0, none⟩ : Addr).add j) = some u) := row_news o13; have X4 : Hid (Ext w12 w13) := hTw.out.2.trans x13; clear o13 x13) | (at_builtin; refine wpList_append_lies _ rfl (.tmp 136) (.tmp 145) 42 rfl w12.heap.size Eb i0 (.int .u8 0) 1 1 Try.underlying42 hi hz0 hz1 hz2 rfl (by decide) _ (8 * j) (bv (brst (two m k) j)) rfl (by exact O4.out) ⟨g13, 0, none⟩ 8 c13 (bv (pk z).l) rfl (by simp [bv, B8.l]) (by exact V4.out) (bv_one _) (by decide) h63 hby (by exact X4.out.size) _ rfl ?_; intro g' cap' w14 hown' hg' hgb hgl; have R1 : Hid (Tw w12 w14 m k (j + 1) (.slice (some ⟨g', 0, none⟩) (8 * (j + 1)) cap')) := (by refine ⟨?_, row_grown hg' O4.out X4.out (Nat.le_refl _)⟩; rw [HTB.out]; exact hown'); clear hown' hg' hgb hgl))
                  clear p0 p1 p2 q3 q4 i1 i2 i3 i4
                  have xw2 : Ext w0 w14 := G11.out.1.x.trans R1.out.2
                  obtain ⟨p0, p1, p2⟩ := HS.out.ext xw2
                  obtain ⟨q3, q4, _⟩ := HM0.out _ xw2
                  go_wp2_with fail
                  go_roundw
                  case measure => simp [intOf]; omega
                  case rel => exact ⟨j + 1, (k + (j + 1)) % m.list.length, some ⟨g', 0, none⟩, cap', by omega, rfl, congrArg (Value.int IntKind.i64) HNX.out, rfl, rfl, R1⟩
                · have hj2i : ¬ (j : Int) < 2 := by omega
                  have hj3 : j = 2 := by omega
                  subst hj3
                  have k11 := hTw.out.2.keepc K11.out
                  have HQ : Hid (Calls Try.prog 26 #[.slice a11 16 c11, .slice r 16 cc] wr fun e w' => e = .returned (.bool true) ∧ Ext wr w') := by
                    have e16 : (brst (two m k) 2).length = 16 := brst_len _ 2
                    have b2 : RdB wr (.slice r 16 cc) (brst (two m k) 2) := rdb_row (by rw [e16]; exact hTw.out.1)
                    exact eq_bytes _ _ _ (B11.out.ext hTw.out.2) b2 (by rw [e16]; omega)
                  have HR2 : Hid (Rg w0 wr y s11 ∧ SG s11 m (onD m n ((k + 1 + 1) % m.list.length))) := ⟨G11.out.1.ext hTw.out.2, G11.out.2⟩
                  clear hTw G11 B11 K11 xw
                  have htl : t < m.list.length := by rw [HHt.out]; exact Nat.mod_lt _ hlp
                  rw [show k + 1 + 1 = k + 2 from rfl, ← HHt.out] at HR2
                  go_wp2_with (first | (go_at_call 11; refine (HNU.out _ _).mono ?_; rintro e wx ⟨rfl, hwx⟩; have hwy := hwx.symm; clear hwx; subst hwy) | (go_at_call 26; refine HQ.out.mono ?_; rintro e w15 ⟨rfl, x15⟩))
                  go_roundw
                  case measure => simp [intOf]; omega
                  case rel => exact ⟨t, c + 1, s11, htl, by omega, rfl, by simp, HR2.out.1.ext x15, HR2.out.2⟩
            · have hlti : ¬ (c : Int) < 20 := by omega
              have HD1 := s_off hR.out.1 hR.out.2 HMO.out
              go_upto_region 31 with (go_at_call 19; refine HD1.mono ?_; rintro e w7 ⟨a7, c7, rfl, h7⟩)
              obtain ⟨s7, g7, r7⟩ := h7.out
              have x7 : Ext w7 (w7.alloc (.cells #[.int .i64 1, .slice a7 0 c7] 57)) := (Ext.refl w7).alloc _
              have HT := s_still (g7.ext x7) r7
              generalize w7.alloc (.cells #[.int .i64 1, .slice a7 0 c7] 57) = w8 at *
              clear HD1 x7 g7 h7 hR
              go_upto_region 33 with (first | (go_at_call 11; refine (HNU.out _ _).mono ?_; rintro e wx ⟨rfl, hwx⟩; have hwy := hwx.symm; clear hwx; subst hwy) | (go_at_call 16; refine HT.mono ?_; rintro e w9 ⟨rfl, h9⟩))
              obtain ⟨s9, g9, r9⟩ := h9.out
              have HDv := s_dev g9 r9
              clear HT h9
              go_upto_region 34 with (go_at_call 17; refine HDv.mono ?_; rintro e w10 ⟨rfl, g10⟩)
              have HX9 : Hid (Ext w (w10.alloc (.cells #[.int .i64 m.addr, .bool false, .int .i64 n, .int .i64 0, .int .i64 0, .int .i64 k] 51))) := HX0.out.trans (g10.out.x.trans ((Ext.refl w10).alloc _))
              have v1 : (w10.alloc (.cells #[.int .i64 m.addr, .bool false, .int .i64 n, .int .i64 0, .int .i64 0, .int .i64 k] 51)).cell? ⟨w10.heap.size, 1, none⟩ = some (.bool false) := by simp [go_sem]
              have v3 : (w10.alloc (.cells #[.int .i64 m.addr, .bool false, .int .i64 n, .int .i64 0, .int .i64 0, .int .i64 k] 51)).cell? ⟨w10.heap.size, 3, none⟩ = some (.int .i64 0) := by simp [go_sem]
              have v4 : (w10.alloc (.cells #[.int .i64 m.addr, .bool false, .int .i64 n, .int .i64 0, .int .i64 0, .int .i64 k] 51)).cell? ⟨w10.heap.size, 4, none⟩ = some (.int .i64 0) := by simp [go_sem]
              clear HDv g10
              generalize w10.alloc (.cells #[.int .i64 m.addr, .bool false, .int .i64 n, .int .i64 0, .int .i64 0, .int .i64 k] 51) = w11 at *
              have HWK := wakes_any w11
              go_wp2_with (first | (go_at_call 11; refine (HNU.out _ _).mono ?_; rintro e wx ⟨rfl, hwx⟩; have hwy := hwx.symm; clear hwx; subst hwy) | (go_at_call 12; refine HWK.mono ?_; rintro e w12 ⟨rfl, x12⟩))
              go_ret
              exact ⟨rfl, HX9.out.trans x12⟩
  · go_wp2_with (go_at_call 7; refine HH.mono ?_; rintro e wx ⟨rfl, hwx⟩; have hwy := hwx.symm; clear hwx; subst hwy)
    go_ret
    exact ⟨rfl, HX0.out⟩
end Go.Proofs.Ytadgaolakbnhcaa
