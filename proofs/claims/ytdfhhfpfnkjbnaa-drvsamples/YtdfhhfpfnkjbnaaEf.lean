/- DrvSamples. -/
import Derived.Test.YtdfhhfpfnkjbnaaEe
import Derived.Test.YtdfhhfpfnkjbnaaDi
import Derived.Deep.RegionHeld3
namespace Go.Proofs.Ytdfhhfpfnkjbnaa
open Go.RowKit Go.Conc
/-- what a round of the loop begins with -/
def SRel (W0 wr : World) (L : List Raw) (T : Nat → Bool) (q m k : Nat) (bV wV : Value) : Prop := (∀ i, i < k → okR (sm L i) = true) ∧ SS W0 wr (dat (bts L T q m) k) (wl L T k) (8 * k) bV wV
set_option maxRecDepth 20000 in
set_option maxHeartbeats 40000000 in
theorem samples_walk (a : Option Addr) (c n : Nat) (N : Int) (L : List Raw) (w : World) (hLn : L.length = n) (hL : RdR w a L) (hn1 : 1 ≤ n) (hn2 : n ≤ 16) (hc : n ≤ c) :
    Calls Try.prog 8 #[.agg #[.slice a n c, .int .i64 N]] w fun e w' => e = .returned (.bool true) ∧ Ext w w' := by
  obtain ⟨i0, hi, hz0, hz1, hz2⟩ := info_parts Try.infoTb
  obtain ⟨j0, hj, hy0, hy1, hy2⟩ := dinfo
  obtain ⟨q, hq, HQ0⟩ := within_any N 8 (by omega) (by omega)
  obtain ⟨m0, hm0, HM0⟩ := within_any N 255 (by omega) (by omega)
  obtain ⟨Q4, HQ4⟩ : ∃ Q4 : Nat → Nat, ∀ i, Q4 i < 4 ∧ ∀ w, Calls Try.prog 24 #[.int .i64 (wrap64 (N + (i : Int))), .int .i64 4] w fun e w' => e = .returned (.int .i64 (Q4 i)) ∧ w' = w := Classical.axiomOfChoice fun (i : Nat) => within_any (wrap64 (N + (i : Int))) 4 (by omega) (by omega)
  have HQ : Hid (∀ w, Calls Try.prog 24 #[.int .i64 N, .int .i64 8] w fun e w' => e = .returned (.int .i64 q) ∧ w' = w) := HQ0
  have HM : Hid (∀ w, Calls Try.prog 24 #[.int .i64 N, .int .i64 255] w fun e w' => e = .returned (.int .i64 m0) ∧ w' = w) := HM0
  have H4 : Hid (∀ i, Q4 i < 4 ∧ ∀ w, Calls Try.prog 24 #[.int .i64 (wrap64 (N + (i : Int))), .int .i64 4] w fun e w' => e = .returned (.int .i64 (Q4 i)) ∧ w' = w) := HQ4
  clear HQ0 HM0 HQ4
  obtain ⟨T, hT⟩ : ∃ T : Nat → Bool, ∀ i, T i = (Q4 i == 0) := ⟨_, fun _ => rfl⟩
  have HT : Hid (∀ i, T i = (Q4 i == 0)) := hT
  obtain ⟨m, hm⟩ : ∃ m, m = m0 + 1 := ⟨_, rfl⟩
  have HMm : Hid (m = m0 + 1) := hm
  have HP : Hid (∀ W, Ext (w.alloc (.cells #[.slice a n c, .int .i64 N] 60)) W → W.cell? ⟨w.heap.size, 0, none⟩ = some (.slice a n c) ∧ W.cell? ⟨w.heap.size, 1, none⟩ = some (.int .i64 N)) := fun W x => ⟨x.keepc (by simp [go_sem]), x.keepc (by simp [go_sem])⟩
  have HR : Hid (∀ W, Ext (w.alloc (.cells #[.slice a n c, .int .i64 N] 60)) W → RdR W a L) := fun W x => hL.ext (((Ext.refl w).alloc _).trans x)
  have HS : Hid (SRel (w.alloc (.cells #[.slice a n c, .int .i64 N] 60)) (w.alloc (.cells #[.slice a n c, .int .i64 N] 60)) L T q m 0 (.slice none 0 0) (.slice none 0 0)) := ⟨fun i h => absurd h (Nat.not_lt_zero _), World.ownsRow_nil _ _ _ _, World.ownsRow_nil _ _ _ _, fun g h => by simp [Value.ownBlock] at h, Ext.refl _⟩
  have HX0 : Hid (Ext w (w.alloc (.cells #[.slice a n c, .int .i64 N] 60))) := (Ext.refl w).alloc _
  have hn3 : (1 : Int) ≤ n := by omega
  have hn4 : (n : Int) ≤ 16 := by omega
  have hn5 : ((n : Int) == 0) = false := by simp; omega
  have HN : Hid (L.length = n ∧ 1 ≤ n ∧ n ≤ 16 ∧ n ≤ c) := ⟨hLn, hn1, hn2, hc⟩
  clear hL hT hm hLn hn1 hn2 hc
  go_enter Try.func8, Try.ntmps8
  go_upto_region 1 with fail
  generalize (w.alloc (.cells #[.slice a n c, .int .i64 N] 60)) = W0 at *
  have p0 : W0.cell? ⟨w.heap.size, 0, none⟩ = some (.slice a n c) := (HP.out W0 (Ext.refl _)).1
  go_wp2_with fail
  clear p0
  go_loopw [3, 4, 5, 6] (fun b wv bad i wr => ∃ (k : Nat) (ba : Option Addr) (bc : Nat) (wa : Option Addr) (wc : Nat), k ≤ n ∧ b = .slice ba ((8 * k : Nat)) bc ∧ wv = .slice wa (wl L T k).length wc ∧ bad = .int .i64 ((bd T k : Nat) : Int) ∧ i = .int .i64 (k : Int) ∧ Hid (SRel W0 wr L T q m k (.slice ba ((8 * k : Nat)) bc) (.slice wa (wl L T k).length wc))) (fun _ _ _ i _ => n - (intOf i).toNat)
  case atStart => exact ⟨0, none, 0, none, 0, Nat.zero_le _, rfl, rfl, rfl, rfl, HS⟩
  case round =>
    obtain ⟨k, ba, bc, wa, wc, hk, rfl, rfl, rfl, rfl, hR⟩ := hrel
    clear HS
    obtain ⟨p0, p1⟩ := HP.out wr hR.out.2.x
    by_cases hlt : k < n
    · have hlti : (k : Int) < (n : Int) := by omega
      obtain ⟨b, off, ea, c0, c1, c2, c3⟩ := HR.out wr hR.out.2.x k (by rw [HN.out.1]; exact hlt)
      subst ea
      have HRk : Hid (∀ W, Ext W0 W → C4 W b (off + k * 4) (sm L k)) := fun W x => by
        obtain ⟨b', off', e, h⟩ := HR.out W x k (by rw [HN.out.1]; exact hlt)
        cases e
        exact h
      have HMy : Hid (∀ w, Calls Try.prog 30 #[rv (sm L k)] w fun e w' => e = .returned (.bool (okR (sm L k))) ∧ Ext w w') := mayraw_any (sm L k)
      cases hok : okR (sm L k)
      · rw [hok] at HMy
        clear hok
        have HXr : Hid (Ext w wr) := HX0.out.trans hR.out.2.x
        clear hR HRk
        generalize sm L k = r at *
        obtain ⟨r0, r1, r2, r3⟩ := r
        simp only [rv] at HMy c0 c1 c2 c3
        go_wp2_with fail
        refine (HMy.out _).mono ?_
        rintro e u1 ⟨rfl, x1⟩
        have HX1 : Hid (Ext w u1) := HXr.out.trans x1
        clear x1
        go_wp2_with fail
        go_ret
        exact ⟨rfl, HX1.out⟩
      · rw [hok] at HMy
        have HBy : Hid (∀ w, Calls Try.prog 31 #[rv (sm L k)] w fun e w' => ∃ g c, e = .returned (.slice (some ⟨g, 0, none⟩) 8 c) ∧ w'.ownsRow w.heap.size Eb 1 (.slice (some ⟨g, 0, none⟩) 8 c) 8 (bv (pk (sm L k)).l) ∧ Ext w w') := fun w => bytes_any w (sm L k)
        obtain ⟨hq4, HW4⟩ := H4.out k
        have HW : Hid (∀ w, Calls Try.prog 24 #[.int .i64 (wrap64 (N + (k : Int))), .int .i64 4] w fun e w' => e = .returned (.int .i64 (Q4 k)) ∧ w' = w) := HW4
        have HTk : Hid (T k = (Q4 k == 0)) := HT.out k
        have HD : Hid (dat (bts L T q m) (k + 1) = dat (bts L T q m) k ++ (bts L T q m k).l ∧ bts L T q m k = (if T k then turnB (pk (sm L k)) q m else pk (sm L k)) ∧ wl L T (k + 1) = (if T k then wl L T k else wl L T k ++ [sm L k]) ∧ bd T (k + 1) = (if T k then bd T k + 1 else bd T k)) := ⟨rfl, rfl, rfl, rfl⟩
        have HO : Hid (∀ i, i < k + 1 → okR (sm L i) = true) := fun i h => by
          by_cases e : i = k
          · rw [e]; exact hok
          · exact hR.out.1 i (by omega)
        have SSr : Hid (SS W0 wr (dat (bts L T q m) k) (wl L T k) (8 * k) (.slice ba ((8 * k : Nat)) bc) (.slice wa (wl L T k).length wc)) := hR.out.2
        have hwl : (wl L T k).length ≤ k := wl_len L T k
        have HWL : Hid ((wl L T k).length ≤ k) := hwl
        have hbd : bd T k ≤ k := bd_le T k
        have hbd2 : ((bd T k : Nat) : Int) ≤ 16 := by omega
        clear hok hR HW4 H4 HT HR hwl hbd
        generalize Q4 k = qk at *
        generalize sm L k = r at *
        obtain ⟨r0, r1, r2, r3⟩ := r
        simp only [rv] at HMy HBy
        have HRk4 : Hid (∀ W, Ext W0 W → W.cell? ⟨b, off + k * 4, none⟩ = some (.int .i64 r0) ∧ W.cell? ⟨b, off + k * 4 + 1, none⟩ = some (.int .i64 r1) ∧ W.cell? ⟨b, off + k * 4 + 2, none⟩ = some (.int .i64 r2) ∧ W.cell? ⟨b, off + k * 4 + 3, none⟩ = some (.int .i64 r3)) := fun W x => HRk.out W x
        simp only at c0 c1 c2 c3
        clear HRk
        go_upto_region 11 with (go_at_call 30; refine (HMy.out _).mono ?_; rintro e u1 ⟨rfl, x1⟩)
        have S1 : Hid (SS W0 u1 (dat (bts L T q m) k) (wl L T k) (8 * k) (.slice ba ((8 * k : Nat)) bc) (.slice wa (wl L T k).length wc)) := SSr.out.ext x1
        clear x1 SSr c0 c1 c2 c3 p0 p1 HMy
        obtain ⟨p0, p1⟩ := HP.out u1 S1.out.x
        obtain ⟨c0, c1, c2, c3⟩ := HRk4.out u1 S1.out.x
        go_upto_region 12 with (go_at_call 31; refine (HBy.out _).mono ?_; rintro e u2 ⟨g, cx, rfl, hX, x2⟩)
        have S2 : Hid (SS W0 u2 (dat (bts L T q m) k) (wl L T k) (8 * k) (.slice ba ((8 * k : Nat)) bc) (.slice wa (wl L T k).length wc)) := S1.out.ext x2
        have X2 : Hid (u2.ownsRow u1.heap.size Eb 1 (.slice (some ⟨g, 0, none⟩) 8 cx) 8 (bv (pk ⟨r0, r1, r2, r3⟩).l)) := hX
        clear x2 hX c0 c1 c2 c3 p0 p1 HBy
        obtain ⟨p0, p1⟩ := HP.out u2 S2.out.x
        have h63 : 8 * k + 8 ≤ maxLen := by unfold maxLen; omega
        have hby : (8 * k + 8) * 1 ≤ 140737488355328 := by omega
        by_cases hqk : qk = 0
        · have et : T k = true := by rw [HTk.out, hqk]; rfl
          have HD1 : Hid (dat (bts L T q m) (k + 1) = dat (bts L T q m) k ++ (turnB (pk ⟨r0, r1, r2, r3⟩) q m).l ∧ wl L T (k + 1) = wl L T k ∧ bd T (k + 1) = bd T k + 1) := by
            obtain ⟨d1, d2, d3, d4⟩ := HD.out
            rw [et] at d2 d3 d4
            exact ⟨by rw [d1, d2]; rfl, d3, d4⟩
          subst hqk
          clear et HD HTk
          go_upto_region 13 with (go_at_call 24; refine (HW.out _).mono ?_; rintro e wx ⟨rfl, hwx⟩; have hwy := hwx.symm; clear hwx; subst hwy)
          have e1 : IntKind.i64.wrap (1 + (m0 : Int)) = (m : Int) := by rw [IntKind.wrap_i64, HMm.out]; omega
          have e2 : IntKind.u8.wrap (m : Int) = (m : Int) := by rw [IntKind.wrap_u8, HMm.out]; omega
          have hq8 : (q : Int) < 8 := by omega
          have xq : u2.cell? ⟨g, q, none⟩ = some (.int .u8 ((pk ⟨r0, r1, r2, r3⟩).at q)) := row_byte X2.out hq
          have fq : u2.frozen? ⟨g, q, none⟩ = false := X2.out.frozenAt q
          have hgp : w.heap.size ≠ g := (by have h1 := (X2.out.lt g rfl).1; have h2 := S1.out.x.size; have h3 : w.heap.size < W0.heap.size := (World.block_lt_of_cell? W0 ⟨w.heap.size, 0, none⟩ (HP.out W0 (Ext.refl _)).1); omega)
          have hgp2 : g ≠ w.heap.size := fun h => hgp h.symm
          obtain ⟨xv, hxv⟩ : ∃ xv, xv = (pk ⟨r0, r1, r2, r3⟩).at q := ⟨_, rfl⟩
          have HXV : Hid (xv = (pk ⟨r0, r1, r2, r3⟩).at q) := hxv
          rw [← hxv] at xq
          clear hxv
          have HG : Hid (u1.heap.size ≤ g) := (X2.out.lt g rfl).1
          clear HW
          go_region_with (first | (go_at_call_of 24 (Value.int IntKind.i64 8); refine (HQ.out _).mono ?_; rintro e wx ⟨rfl, hwx⟩; have hwy := hwx.symm; clear hwx; subst hwy) | (go_at_call_of 24 (Value.int IntKind.i64 255); refine (HM.out _).mono ?_; rintro e wx ⟨rfl, hwx⟩; have hwy := hwx.symm; clear hwx; subst hwy))
          all_goals
            clear p0 p1 xq fq e1 e2 hq8 hgp hgp2
            have X3 : Hid ((u2.setCell ⟨g, q, none⟩ (.int .u8 (bits BinOp.xor IntKind.u8 xv (m : Int)))).drew.ownsRow u1.heap.size Eb 1 (.slice (some ⟨g, 0, none⟩) 8 cx) 8 (bv (turnB (pk ⟨r0, r1, r2, r3⟩) q m).l)) := by
              have h := (X2.out.stored q (.int .u8 (bits BinOp.xor IntKind.u8 xv (m : Int)))).1
              rw [HXV.out, bv_turn _ q hq] at h
              rw [HXV.out]
              exact row_ext h (Ext.refl _).drew
            have S3 : Hid (SS W0 (u2.setCell ⟨g, q, none⟩ (.int .u8 (bits BinOp.xor IntKind.u8 xv (m : Int)))).drew (dat (bts L T q m) k) (wl L T k) (8 * k) (.slice ba ((8 * k : Nat)) bc) (.slice wa (wl L T k).length wc)) := (SS.far S1.out S2.out HG.out q _).ext (Ext.refl _).drew
            clear X2 S1 S2 HXV HG
            generalize (u2.setCell ⟨g, q, none⟩ (.int .u8 (bits BinOp.xor IntKind.u8 xv (m : Int)))).drew = u3 at *
            go_wp2_with (at_builtin; refine wpList_append_lies _ rfl (.tmp 72) (.tmp 73) 25 rfl W0.heap.size Eb i0 (.int .u8 0) 1 1 Try.underlying25 hi hz0 hz1 hz2 rfl (by decide) _ (8 * k) (bv (dat (bts L T q m) k)) rfl (by exact S3.out.b) ⟨g, 0, none⟩ 8 cx (bv (turnB (pk ⟨r0, r1, r2, r3⟩) q m).l) rfl (by simp [bv, B8.l]) (by exact bv_news X3.out) (bv_one _) (by decide) h63 hby (by exact S3.out.x.size) _ rfl ?_; intro g' cap' w9 hown' hg' hgb hgl; have R1 : Hid (SS W0 w9 (dat (bts L T q m) k ++ (turnB (pk ⟨r0, r1, r2, r3⟩) q m).l) (wl L T k) (8 * k + 8) (.slice (some ⟨g', 0, none⟩) (8 * k + 8) cap') (.slice wa (wl L T k).length wc)) := (by exact S3.out.bytes hown' hg' hgb); clear hown' hg' hgb hgl)
            go_roundw
            case measure => simp [intOf]; omega
            case rel =>
              obtain ⟨d1, d2, d3⟩ := HD1.out
              exact ⟨k + 1, _, cap', wa, wc, by omega, rfl, by rw [d2], by rw [d3]; simp, by simp, HO.out, by rw [d1, d2]; exact R1.out⟩
        · have et : T k = false := by rw [HTk.out]; simp [hqk]
          have HD1 : Hid (dat (bts L T q m) (k + 1) = dat (bts L T q m) k ++ (pk ⟨r0, r1, r2, r3⟩).l ∧ wl L T (k + 1) = wl L T k ++ [⟨r0, r1, r2, r3⟩] ∧ bd T (k + 1) = bd T k) := by
            obtain ⟨d1, d2, d3, d4⟩ := HD.out
            rw [et] at d2 d3 d4
            exact ⟨by rw [d1, d2]; rfl, d3, d4⟩
          have hqk2 : ((qk : Int) == 0) = false := by simp; omega
          clear et HD HTk hqk
          go_upto_region 15 with (go_at_call 24; refine (HW.out _).mono ?_; rintro e wx ⟨rfl, hwx⟩; have hwy := hwx.symm; clear hwx; subst hwy)
          obtain ⟨c0, c1, c2, c3⟩ := HRk4.out u2 S2.out.x
          have O4 : Hid (SS W0 (u2.alloc (c4o ⟨r0, r1, r2, r3⟩)) (dat (bts L T q m) k) (wl L T k) (8 * k) (.slice ba ((8 * k : Nat)) bc) (.slice wa (wl L T k).length wc)) := S2.out.ext ((Ext.refl _).alloc _)
          have X4 : Hid ((u2.alloc (c4o ⟨r0, r1, r2, r3⟩)).ownsRow u1.heap.size Eb 1 (.slice (some ⟨g, 0, none⟩) 8 cx) 8 (bv (pk ⟨r0, r1, r2, r3⟩).l)) := row_ext X2.out ((Ext.refl _).alloc _)
          have HG : Hid (∀ k2, ((.slice wa (wl L T k).length wc) : Value).ownBlock = some k2 → k2 < u1.heap.size) := fun k2 e => (S1.out.s.lt k2 e).2
          have h63w : (wl L T k).length + 1 ≤ maxLen := by have := HWL.out; unfold maxLen; omega
          have hbyw : ((wl L T k).length + 1) * 32 ≤ 140737488355328 := by have := HWL.out; omega
          clear S1 S2 X2 HW HRk4
          go_upto_region 16 with (at_builtin; refine wpList_append_lies _ rfl (.tmp 64) (.tmp 70) 43 rfl W0.heap.size 72 j0 (.agg #[.int .i64 0, .int .i64 0, .int .i64 0, .int .i64 0]) 4 32 Try.underlying43 hj hy0 hy1 hy2 rfl (by decide) _ (wl L T k).length (rvs (wl L T k)) rfl (by exact O4.out.s) ⟨u2.heap.size, 0, none⟩ 1 1 [.int .i64 r0, .int .i64 r1, .int .i64 r2, .int .i64 r3] rfl rfl (by exact news4 u2 ⟨r0, r1, r2, r3⟩) (by exact news4_one ⟨r0, r1, r2, r3⟩) (by decide) h63w hbyw (by exact O4.out.x.size) _ rfl ?_; intro g2 cap2 w8 hown' hg' hgb hgl; have S3 : Hid (SS W0 w8 (dat (bts L T q m) k) (wl L T k ++ [⟨r0, r1, r2, r3⟩]) (8 * k) (.slice ba ((8 * k : Nat)) bc) (.slice (some ⟨g2, 0, none⟩) ((wl L T k).length + 1) cap2)) := (by exact O4.out.samples hown' hg' hgb); have X3 : Hid (w8.ownsRow u1.heap.size Eb 1 (.slice (some ⟨g, 0, none⟩) 8 cx) 8 (bv (pk ⟨r0, r1, r2, r3⟩).l)) := (by exact row_tn X4.out ((Tn.refl (fun k2 => ((.slice wa (wl L T k).length wc) : Value).ownBlock = some k2) _).grown hg' (fun k2 e => .inl e)) (fun k2 hk1 _ e => by have := HG.out k2 e; omega)); clear hown' hg' hgb hgl)
          clear c0 c1 c2 c3 p0 p1 O4 X4 HG
          go_wp2_with (at_builtin; refine wpList_append_lies _ rfl (.tmp 72) (.tmp 73) 25 rfl W0.heap.size Eb i0 (.int .u8 0) 1 1 Try.underlying25 hi hz0 hz1 hz2 rfl (by decide) _ (8 * k) (bv (dat (bts L T q m) k)) rfl (by exact S3.out.b) ⟨g, 0, none⟩ 8 cx (bv (pk ⟨r0, r1, r2, r3⟩).l) rfl (by simp [bv, B8.l]) (by exact bv_news X3.out) (bv_one _) (by decide) h63 hby (by exact S3.out.x.size) _ rfl ?_; intro g' cap' w9 hown' hg' hgb hgl; have R1 : Hid (SS W0 w9 (dat (bts L T q m) k ++ (pk ⟨r0, r1, r2, r3⟩).l) (wl L T k ++ [⟨r0, r1, r2, r3⟩]) (8 * k + 8) (.slice (some ⟨g', 0, none⟩) (8 * k + 8) cap') (.slice (some ⟨g2, 0, none⟩) ((wl L T k).length + 1) cap2)) := (by exact S3.out.bytes hown' hg' hgb); clear hown' hg' hgb hgl)
          go_roundw
          case measure => simp [intOf]; omega
          case rel =>
            obtain ⟨d1, d2, d3⟩ := HD1.out
            exact ⟨k + 1, _, cap', _, cap2, by omega, rfl, by rw [d2, List.length_append]; rfl, by rw [d3], by simp, HO.out, by rw [d1, d2]; have h := R1.out; rw [show (wl L T k ++ [(⟨r0, r1, r2, r3⟩ : Raw)]).length = (wl L T k).length + 1 by rw [List.length_append]; rfl]; exact h⟩
    · have hkn : k = n := by omega
      subst hkn
      have hlti : ¬ (k : Int) < (k : Int) := by omega
      have HTake : Hid (∀ W, Ext wr W → Calls Try.prog 19 #[.agg #[.int .i64 16, .int .i64 49, .bool true, .int .i64 7, .int .i64 5, .int .i64 0, .bool false, .int .i64 (k : Int), .int .i64 0], .agg #[.int .i64 1, .slice ba ((8 * k : Nat)) bc]] W fun e w' => ∃ ra rc, e = .returned (.tuple #[.agg #[.int .i64 16, .int .i64 49, .bool true, .int .i64 7, .int .i64 4, .int .i64 0, .bool false, .int .i64 0, .int .i64 ((bd T k : Nat) : Int)], .slice ra (wl L T k).length rc, .bool false, .int .i64 0]) ∧ RdR w' ra (wl L T k) ∧ Ext W w') := fun W x => samples_take W L T q m k hq (by have := HMm.out; omega) (by have := HMm.out; omega) HN.out.2.1 HN.out.2.2.1 hR.out.1 ba bc W0.heap.size (row_ext hR.out.2.b x)
      have HRw : Hid (RdR wr wa (wl L T k)) := rdr_row hR.out.2.s
      have HWL : Hid ((wl L T k).length ≤ 100000) := (by have := wl_len L T k; have := HN.out.2.2.1; show _ ≤ 100000; omega)
      have HXr : Hid (Ext w wr) := HX0.out.trans hR.out.2.x
      clear hR
      generalize wl L T k = Wk at *
      generalize bd T k = bk at *
      go_upto_region 18 with fail
      have x1 : Ext wr (wr.alloc (.cells #[.int .i64 16, .int .i64 49, .bool true, .int .i64 7, .int .i64 5, .int .i64 0, .bool false, .int .i64 (k : Int), .int .i64 0] 24)) := (Ext.refl wr).alloc _
      have HT1 := HTake.out _ x1
      have HX1 : Hid (Ext wr (wr.alloc (.cells #[.int .i64 16, .int .i64 49, .bool true, .int .i64 7, .int .i64 5, .int .i64 0, .bool false, .int .i64 (k : Int), .int .i64 0] 24))) := x1
      clear x1 HTake
      go_upto_region 19 with (go_at_call 19; refine HT1.mono ?_; rintro e u2 ⟨ra, rc, rfl, hr, x2⟩)
      have x3 : Ext u2 (u2.alloc (.cells #[.int .i64 16, .int .i64 49, .bool true, .int .i64 7, .int .i64 4, .int .i64 0, .bool false, .int .i64 0, .int .i64 ((bk : Nat) : Int)] 24)) := (Ext.refl u2).alloc _
      have HE := eqraws_any ra rc wa wc _ (hr.ext x3) (HRw.out.ext ((HX1.out.trans x2).trans x3)) HWL.out
      have HX3 : Hid (Ext w (u2.alloc (.cells #[.int .i64 16, .int .i64 49, .bool true, .int .i64 7, .int .i64 4, .int .i64 0, .bool false, .int .i64 0, .int .i64 ((bk : Nat) : Int)] 24))) := ((HXr.out.trans HX1.out).trans x2).trans x3
      clear x2 x3 hr HT1
      go_wp2_with (first | (go_at_call 11; refine (num9_any _ _).mono ?_; rintro e wx ⟨rfl, hwx⟩; have hwy := hwx.symm; clear hwx; subst hwy) | (go_at_call 21; refine HE.mono ?_; rintro e u4 ⟨rfl, x4⟩) | (go_at_call 13; refine (wakes9_any _).mono ?_; rintro e u5 ⟨rfl, x5⟩))
      go_ret
      exact ⟨rfl, (HX3.out.trans x4).trans x5⟩
set_option maxRecDepth 20000 in
set_option maxHeartbeats 4000000 in
theorem samples_none (a : Option Addr) (c : Nat) (N : Int) (w : World) :
    Calls Try.prog 8 #[.agg #[.slice a 0 c, .int .i64 N]] w fun e w' => e = .returned (.bool true) ∧ Ext w w' := by
  go_enter Try.func8, Try.ntmps8
  go_wp2_with fail
  go_ret
  exact ⟨rfl, (Ext.refl w).alloc _⟩
set_option maxRecDepth 20000 in
set_option maxHeartbeats 4000000 in
theorem samples_many (a : Option Addr) (n c : Nat) (N : Int) (w : World) (hn : 16 < n) :
    Calls Try.prog 8 #[.agg #[.slice a n c, .int .i64 N]] w fun e w' => e = .returned (.bool true) ∧ Ext w w' := by
  have h1 : (16 : Int) < n := by omega
  have h2 : ((n : Int) == 0) = false := by simp; omega
  clear hn
  go_enter Try.func8, Try.ntmps8
  go_wp2_with fail
  go_ret
  exact ⟨rfl, (Ext.refl w).alloc _⟩
theorem samples_any (a : Option Addr) (L : List Raw) (c : Nat) (N : Int) (w : World) (hL : RdR w a L) (hc : L.length ≤ c) :
    Calls Try.prog 8 #[.agg #[.slice a L.length c, .int .i64 N]] w fun e w' => e = .returned (.bool true) ∧ Ext w w' := by
  by_cases h0 : L.length = 0
  · rw [h0]
    exact samples_none a c N w
  · by_cases h1 : L.length ≤ 16
    · exact samples_walk a c L.length N L w rfl hL (by omega) h1 hc
    · exact samples_many a L.length c N w (by omega)
end Go.Proofs.Ytdfhhfpfnkjbnaa
