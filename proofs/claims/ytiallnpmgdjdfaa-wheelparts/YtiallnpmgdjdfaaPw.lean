/- WheelParts: its walk. -/
import Derived.Test.YtiallnpmgdjdfaaPa
import Derived.Deep.CutBlock
namespace Go.Proofs.Ytiallnpmgdjdfaa
open Go.RowKit
/-- what the first loop keeps -/
def Run (w wr : World) (pa pb : Nat) (va vb : Value) (S : List Tm) (T : Int) (k : Nat) : Prop := Pair w wr pa va S T pb vb S T ∧ T ≤ k ∧ Low S
set_option maxRecDepth 20000 in
set_option maxHeartbeats 8000000 in
theorem parts_law (a : Option Addr) (len cap : Nat) (D N A : Nat → Int) (w : World) (hl : len ≤ maxLen) (hc : Acts w a len D N A) :
    Calls Try.prog 4 #[.slice a len cap] w fun e w' => e = .returned (.bool true) ∧ Ext w w' := by
  have hl' : len ≤ 9223372036854775807 := by unfold maxLen at hl; omega
  have HW := new_any w
  have HW2 : Hid (∀ w', Calls Try.prog 6 #[] w' fun e w'' => e = .returned (.pointer (some ⟨w'.heap.size, 0, none⟩)) ∧ Wh w'' w'.heap.size (.slice none 0 0) [] 0 ∧ Ext w' w'') := new_any
  have HN : Hid (∀ v w', Calls Try.prog 9 #[.int .i64 v] w' fun e w'' => e = .returned (.int .i64 v) ∧ w'' = w') := num_any
  have HWk : Hid (∀ w', Calls Try.prog 20 #[] w' fun e w'' => e = .returned (.bool true) ∧ Ext w' w'') := wakes_any
  have HA : Hid (Acts w a len D N A) := hc
  clear hc
  go_enter Try.func4, Try.ntmps4
  go_upto_region 5 with (first | (go_at_call 6; refine HW.mono ?_; rintro e w1 ⟨rfl, r1, x1⟩; clear HW) | (go_at_call 6; refine (HW2.out _).mono ?_; rintro e w2 ⟨rfl, r2, x2⟩))
  have hlt1 : w.heap.size < w1.heap.size := r1.lt _ (.inl rfl)
  have H0 : Hid (Run w w2 w.heap.size w1.heap.size (.slice none 0 0) (.slice none 0 0) [] 0 0) := by
    refine ⟨⟨r1.ext x2, r2, x1.trans x2, fun k o => ?_, fun k o => ?_, fun k o o' => ?_⟩, by simp, fun t ht => by simp at ht⟩
    · refine ⟨?_, (r1.ext x2).lt k o⟩
      rcases o with o | o
      · omega
      · simp [Value.ownBlock] at o
    · refine ⟨?_, r2.lt k o⟩
      rcases o with o | o
      · omega
      · simp [Value.ownBlock] at o
    · rcases o with o | o
      · rcases o' with o' | o'
        · omega
        · simp [Value.ownBlock] at o'
      · simp [Value.ownBlock] at o
  clear r1 r2 x1 x2 HW2 hlt1
  generalize w1.heap.size = pb at *
  generalize hpa : w.heap.size = pa at *
  have HPA : Hid (w.heap.size = pa) := hpa
  clear hpa
  go_upto_block 0 with fail
  go_cut [5, 6] from 22 to 74 (fun s5 s6 wx => ∃ (k L : Nat) (S : List Tm) (T : Int) (va vb : Value), s6 = .int .i64 k ∧ s5 = .int .i64 L ∧ L < 1000 ∧ k ≤ 60 ∧ Hid (Run w wx pa pb va vb S T k))
  case first =>
    go_wp2_with fail
    go_loopw [5, 6] (fun s5 s6 wr => ∃ (k : Nat) (L : Nat) (S : List Tm) (T : Int) (va vb : Value), k ≤ len ∧ k ≤ 60 ∧ s6 = .int .i64 k ∧ s5 = .int .i64 L ∧ L < 1000 ∧ Hid (Run w wr pa pb va vb S T k)) (fun _ s6 _ => len - (intOf s6).toNat)
    case atStart => exact ⟨0, 0, [], 0, _, _, Nat.zero_le _, by omega, rfl, rfl, by omega, H0⟩
    case round =>
      obtain ⟨k, L, S, T, va, vb, hk, hk60, rfl, rfl, hL, hR⟩ := hrel
      clear H0
      by_cases hlt : k < len
      · by_cases h60 : k < 60
        · skip
          have hA := HA.out.ext hR.out.1.x
          obtain ⟨b, off, ea, _⟩ := hA k hlt
          subst ea
          obtain ⟨y0, y1, y2, _⟩ := hA.row hlt
          obtain ⟨id, hid, HI0⟩ := within_any (N k) 64 (by omega) (by omega)
          obtain ⟨q, hq, HQ0⟩ := within_any (A k) 1000 (by omega) (by omega)
          obtain ⟨d, hd, HD0⟩ := within_any (D k) 5 (by omega) (by omega)
          have HI : Hid (∀ w, Calls Try.prog 7 #[.int .i64 (N k), .int .i64 64] w fun e w' => e = .returned (.int .i64 id) ∧ w' = w) := HI0
          have HQ : Hid (∀ w, Calls Try.prog 7 #[.int .i64 (A k), .int .i64 1000] w fun e w' => e = .returned (.int .i64 q) ∧ w' = w) := HQ0
          have HD : Hid (∀ w, Calls Try.prog 7 #[.int .i64 (D k), .int .i64 5] w fun e w' => e = .returned (.int .i64 d) ∧ w' = w) := HD0
          clear HI0 HQ0 HD0 hA
          go_upto_region 10 with (go_at_call 7; refine (HI.out _).mono ?_; rintro e wx ⟨rfl, hwx⟩; have hwy := hwx.symm; clear hwx; subst hwy)
          go_upto_region 11 with (go_at_call 7; refine (HQ.out _).mono ?_; rintro e wx ⟨rfl, hwx⟩; have hwy := hwx.symm; clear hwx; subst hwy)
          by_cases hd0 : d = 0
          · subst hd0
            have HC1 := cancel_any (id : Int) _ hR.out.1.a (by have := hR.out.2.1; omega) (by omega)
            have HC2 : Hid (∀ va' w1, Wh w1 pa va' (S.filter (fun t => t.1 ≠ (id : Int))) T → Goes pa va va' wr w1 → Calls Try.prog 10 #[.pointer (some ⟨pb, 0, none⟩), .int .i64 id] w1 fun e w' => e = .returned (.int .i64 (if ∃ t ∈ S, t.1 = (id : Int) then 0 else 5)) ∧ ∃ vb', Run w w' pa pb va' vb' (S.filter (fun t => t.1 ≠ (id : Int))) T (k + 1)) := fun va' w1 h g => by
              have hp := hR.out.1.left g h
              refine (cancel_any (id : Int) w1 hp.b (by have := hR.out.2.1; omega) (by omega)).mono ?_
              rintro e w' ⟨rfl, vb', h2, g2⟩
              exact ⟨rfl, vb', hp.right g2 h2, by have := hR.out.2.1; omega, hR.out.2.2.filter _⟩
            generalize (if ∃ t ∈ S, t.1 = (id : Int) then (0 : Int) else 5) = cc at *
            go_wp2_with (first | (go_at_call 7; refine (HD.out _).mono ?_; rintro e wx ⟨rfl, hwx⟩; have hwy := hwx.symm; clear hwx; subst hwy) | (go_at_call 9; refine (HN.out _ _).mono ?_; rintro e wx ⟨rfl, hwx⟩; have hwy := hwx.symm; clear hwx; subst hwy) | (go_at_call 10; refine HC1.mono ?_; rintro e w3 ⟨rfl, va3, h3, g3⟩; clear HC1) | (go_at_call 10; refine (HC2.out _ _ h3 g3).mono ?_; rintro e w4 ⟨rfl, vb4, h4⟩))
            go_roundw
            case measure => simp [intOf]; omega
            case rel => exact ⟨k + 1, L, _, T, va3, vb4, by omega, by omega, by simp, rfl, hL, h4⟩
          · have hdx : ¬ (d : Int) = 0 := by omega
            have HC1 := set_any (id : Int) (q : Int) _ hR.out.1.a (by have := hR.out.2.1; omega) (by unfold okT; omega)
            have HC2 : Hid (∀ va' w1, Wh w1 pa va' (ins ((id : Int), (q : Int), T + 1) (S.filter (fun t => t.1 ≠ (id : Int)))) (T + 1) → Goes pa va va' wr w1 → Calls Try.prog 19 #[.pointer (some ⟨pb, 0, none⟩), .int .i64 id, .int .i64 q] w1 fun e w' => e = .returned (.int .i64 0) ∧ ∃ vb', Run w w' pa pb va' vb' (ins ((id : Int), (q : Int), T + 1) (S.filter (fun t => t.1 ≠ (id : Int)))) (T + 1) (k + 1)) := fun va' w1 h g => by
              have hp := hR.out.1.left g h
              refine (set_any (id : Int) (q : Int) w1 hp.b (by have := hR.out.2.1; omega) (by unfold okT; omega)).mono ?_
              rintro e w' ⟨rfl, vb', h2, g2⟩
              exact ⟨rfl, vb', hp.right g2 h2, by have := hR.out.2.1; omega, (hR.out.2.2.filter _).ins (by show (q : Int) ≤ 999; omega)⟩
            go_wp2_with (first | (go_at_call 7; refine (HD.out _).mono ?_; rintro e wx ⟨rfl, hwx⟩; have hwy := hwx.symm; clear hwx; subst hwy) | (go_at_call 9; refine (HN.out _ _).mono ?_; rintro e wx ⟨rfl, hwx⟩; have hwy := hwx.symm; clear hwx; subst hwy) | (go_at_call 19; refine HC1.mono ?_; rintro e w3 ⟨rfl, va3, h3, g3⟩; clear HC1) | (go_at_call 19; refine (HC2.out _ _ h3 g3).mono ?_; rintro e w4 ⟨rfl, vb4, h4⟩))
            go_roundw
            case measure => simp [intOf]; omega
            case rel => exact ⟨k + 1, q, _, T + 1, va3, vb4, by omega, by omega, by simp, rfl, hq, h4⟩
        · go_wp2_with fail
          go_meet
          exact ⟨k, L, S, T, va, vb, rfl, rfl, hL, hk60, hR⟩
      · go_wp2_with fail
        go_meet
        exact ⟨k, L, S, T, va, vb, rfl, rfl, hL, hk60, hR⟩
  case rest =>
    obtain ⟨k, L, S, T, va, vb, rfl, rfl, hL, hk60, hR⟩ := hcut
    obtain ⟨d1, d2⟩ := hR.out.2.2.due
    have hTk : T ≤ 60 := by have := hR.out.2.1; omega
    have HT1 := take_own 1000 wc hR.out.1.a (by omega)
    rw [d1, d2] at HT1
    have hSl : S.length ≤ 60 := by obtain ⟨xs, _, hw⟩ := hR.out.1.a; have := hw.2.2.2.2.1.2; omega
    have HSl : Hid (S.length ≤ 60) := hSl
    clear hSl HN HA d1 d2 H0
    go_upto_region 18 with (go_at_call 15; refine HT1.mono ?_; rintro e w3 ⟨a3, c3, rfl, r3, va3, h3, e3, t3⟩)
    have hP3 := hR.out.1.takeA t3 e3 h3
    have HT2 := take_own (L : Int) w3 hP3.b (by omega)
    have HP3 : Hid (Pair w w3 pa va3 [] T pb vb S T) := hP3
    have HR3 : Hid (w3.ownsRow wc.heap.size Ea 2 (.slice a3 S.length c3) S.length (flat2 S)) := r3
    clear HT1 hP3 r3 t3 e3 h3
    go_upto_region 19 with (go_at_call 15; refine HT2.mono ?_; rintro e w4 ⟨a4, c4, rfl, r4, vb4, h4, e4, t4⟩)
    have hP4 := (HP3.out.swap.takeA t4 e4 h4).swap
    have HOb : Hid (∀ k, own pb vb k → k < wc.heap.size) := fun k o => (hR.out.1.ob k o).2
    have HR4 : Hid (w4.ownsRow wc.heap.size Ea 2 (.slice a3 S.length c3) S.length (flat2 S)) := row_turn HR3.out t4 HOb.out
    have HX4 : Hid (w4.ownsRow w3.heap.size Ea 2 (.slice a4 (due L S).length c4) (due L S).length (flat2 (due L S))) := r4
    have HP4 : Hid (Pair w w4 pa va3 [] T pb vb4 (left L S) T) := hP4
    have HOb4 : Hid (∀ k, own pb vb4 k → k < wc.heap.size ∧ k < w3.heap.size) := fun k o => by
      have : own pb vb k := by rcases o with o | o; exact .inl o; exact .inr (by rw [← e4]; exact o)
      exact ⟨HOb.out k this, (HP3.out.ob k this).2⟩
    obtain ⟨d3, d4⟩ := (hR.out.2.2.left L).due
    have HT3 := take_own 1000 w4 hP4.b (by omega)
    rw [d3, d4] at HT3
    clear HT2 hP4 r4 t4 e4 h4 d3 d4 HR3
    go_upto_region 20 with (go_at_call 15; refine HT3.mono ?_; rintro e w5 ⟨a5, c5, rfl, r5, vb5, h5, e5, t5⟩)
    have HP5 : Hid (Pair w w5 pa va3 [] T pb vb5 [] T) := (HP4.out.swap.takeA t5 e5 h5).swap
    have HR5 : Hid (w5.ownsRow wc.heap.size Ea 2 (.slice a3 S.length c3) S.length (flat2 S)) := row_turn HR4.out t5 (fun k o => (HOb4.out k o).1)
    have HX5 : Hid (w5.ownsRow w3.heap.size Ea 2 (.slice a4 (due L S).length c4) (due L S).length (flat2 (due L S))) := row_turn HX4.out t5 (fun k o => (HOb4.out k o).2)
    have HY5 : Hid (w5.ownsRow w4.heap.size Ea 2 (.slice a5 (left L S).length c5) (left L S).length (flat2 (left L S))) := r5
    have hdl := due_len L S
    have HCp := copy_timers (S := due L S) (.slice a4 (due L S).length c4) w5 (rd_row HX5.out) (by have := HSl.out; omega)
    clear HT3 r5 t5 e5 h5 HR4 HX4 HP4 HP3 HOb HOb4
    have HEq : Hid (∀ v w', Ext w5 w' → Rd w' v S → Calls Try.prog 13 #[.slice a3 S.length c3, v] w' fun e w'' => e = .returned (.bool true) ∧ Ext w' w'') := fun v w' x h => eq_timers _ v w' ((rd_row HR5.out).ext x) h (by have := HSl.out; omega)
    have HAa : Hid (∀ w', Ext w5 w' → Calls Try.prog 12 #[.pointer (some ⟨pa, 0, none⟩)] w' fun e w'' => (∃ a cap, e = .returned (.slice a 0 cap)) ∧ Ext w' w'') := fun w' x => (all_sl w' (HP5.out.a.ext x) (by omega)).mono fun _ _ ⟨a, cap, he, _, hx⟩ => ⟨⟨a, cap, he⟩, hx⟩
    have HAb : Hid (∀ w', Ext w5 w' → Calls Try.prog 12 #[.pointer (some ⟨pb, 0, none⟩)] w' fun e w'' => (∃ a cap, e = .returned (.slice a 0 cap)) ∧ Ext w' w'') := fun w' x => (all_sl w' (HP5.out.b.ext x) (by omega)).mono fun _ _ ⟨a, cap, he, _, hx⟩ => ⟨⟨a, cap, he⟩, hx⟩
    have HFl : Hid (flat2 (due L S) ++ flat2 (left L S) = flat2 S) := by show _ = _; rw [← flat2_app, due_left]
    obtain ⟨n5, en5⟩ : ∃ n, n = (left L S).length := ⟨_, rfl⟩
    obtain ⟨n4, en4⟩ : ∃ n, n = (due L S).length := ⟨_, rfl⟩
    rw [← en4] at HCp HX5 hdl ⊢
    rw [← en5] at HY5 hdl ⊢
    go_cut [98] from 82 to 98 (fun s98 wx => s98 = .bool false ∧ Hid (Ext w5 wx))
    case first =>
      by_cases h0 : n5 = 0
      · have hds : due L S = S := by have := due_left L S; rw [List.length_eq_zero_iff.1 (en5.symm.trans h0), List.append_nil] at this; exact this
        have hn4 : n4 = S.length := by rw [en4, hds]
        rw [hds] at HCp
        subst hn4
        subst h0
        obtain ⟨i0, hi, _, _, _⟩ := info_parts Try.infoTa
        clear hdl hds HX5 HY5 en4 en5
        go_wp2_with (first | (at_builtin; refine wpList_append_zero rfl (.tmp 84) (.tmp 85) 26 rfl w5.heap.size Ea i0 2 Try.underlying26 hi _ S.length (flat2 S) rfl (by exact o6) _ _ rfl ?_) | (go_at_call 21; refine HCp.mono ?_; rintro e w6 ⟨r6, rfl, o6, x6⟩; obtain ⟨a6, c6, rfl⟩ : ∃ a cap, r6 = Value.slice a S.length cap := (by obtain ⟨a, cap, e, _⟩ := rd_row o6; exact ⟨a, cap, e⟩)) | (go_at_call 13; refine (HEq.out _ _ x6 (rd_row o6)).mono ?_; rintro e w7 ⟨rfl, x7⟩) | (go_at_call 12; refine (HAa.out _ (x6.trans x7)).mono ?_; rintro e w8 ⟨⟨a8, c8, rfl⟩, x8⟩; clear HAa) | (go_at_call 12; refine (HAb.out _ ((x6.trans x7).trans x8)).mono ?_; rintro e w9 ⟨⟨a9, c9, rfl⟩, x9⟩))
        go_meet
        exact ⟨rfl, ((x6.trans x7).trans x8).trans x9⟩
      · have hpos : 0 < n5 := by omega
        obtain ⟨g5, c5', e5, _, _⟩ := HY5.out.form hpos
        simp only [Value.slice.injEq, true_and] at e5
        obtain ⟨rfl, rfl⟩ := e5
        obtain ⟨i0, hi, hz0, hz1, hz2⟩ := info_parts Try.infoTa
        have HNews : Hid (∀ w', Ext w5 w' → ∀ j u, (flat2 (left L S))[j]? = some u → w'.cell? ((⟨g5, 0, none⟩ : Addr).add j) = some u) := fun w' x => rd_cells (row_ext HY5.out x)
        have hone := flat2_one (left L S)
        have hfl := flat2_len (left L S)
        rw [← en5] at hfl
        have hn60 : n4 + n5 ≤ 60 := by have := HSl.out; omega
        have h63 : n4 + n5 ≤ maxLen := by unfold maxLen; omega
        have hby : (n4 + n5) * 16 ≤ 140737488355328 := by omega
        have HSx : Hid (n4 + n5 = S.length) := hdl
        clear hdl HX5 HY5 hn60 en4 en5
        go_wp2_with (first | (go_at_call 21; refine HCp.mono ?_; rintro e w6 ⟨r6, rfl, o6, x6⟩; have hb6 := x6.size; obtain ⟨a6, c6, rfl⟩ : ∃ a cap, r6 = Value.slice a n4 cap := (by rcases o6.2 with ⟨e1, e2⟩ | ⟨g, cap, cur, e1, _⟩; exact ⟨none, 0, by rw [e1, e2]⟩; exact ⟨_, _, e1⟩)) | (at_builtin; refine wpList_append_lies _ rfl (.tmp 84) (.tmp 85) 26 rfl w5.heap.size Ea i0 (.agg #[.int .i64 0, .int .i64 0]) 2 16 Try.underlying26 hi hz0 hz1 hz2 rfl (by decide) _ n4 (flat2 (due L S)) rfl (by exact o6) ⟨g5, 0, none⟩ n5 c5 (flat2 (left L S)) rfl hfl (by exact HNews.out _ x6) hone hpos h63 hby (by exact hb6) w6.heap.size rfl ?_; intro g' cap' w7 hown' hg' hgb hgl; have R7 : Hid (Rd w7 (.slice (some ⟨g', 0, none⟩) (n4 + n5) cap') S ∧ Ext w5 w7) := (by refine ⟨?_, row_grown hg' o6 x6 (Nat.le_refl _)⟩; rw [HFl.out, HSx.out] at hown'; rw [HSx.out]; exact rd_row hown'); clear hown' hg' hgb hgl) | (go_at_call 13; refine (HEq.out _ _ R7.out.2 R7.out.1).mono ?_; rintro e w8 ⟨rfl, x8⟩; have X8 : Hid (Ext w5 w8) := R7.out.2.trans x8) | (go_at_call 12; refine (HAa.out _ X8.out).mono ?_; rintro e w9 ⟨⟨a9, c9, rfl⟩, x9⟩; clear HAa) | (go_at_call 12; refine (HAb.out _ (X8.out.trans x9)).mono ?_; rintro e w10 ⟨⟨a10, c10, rfl⟩, x10⟩))
        go_meet
        exact ⟨rfl, (X8.out.trans x9).trans x10⟩
    case rest =>
      obtain ⟨rfl, hx5'⟩ := hcut
      have hx5 := hx5'.out
      clear HCp HEq HAa HAb HFl en4 en5 hdl HX5 HY5
      have HSn : Hid (Seen (wc.alloc (.cells (Array.replicate 64 (.bool false)) 50)) wc.heap.size (was S 0)) := by show Seen _ _ _; rw [was_zero]; exact seen_new wc _
      have HHw : Hid (∃ xs, Hw xs S T) := by obtain ⟨xs, _, hw⟩ := hR.out.1.a; exact ⟨xs, hw⟩
      have HRw : Hid (wc.ownsRow 0 Ea 2 (.slice a3 S.length c3) S.length (flat2 S)) := row_mono (row_ext HR5.out hx5) (Nat.zero_le _)
      have HXw : Hid (Ext w wc) := HP5.out.x.trans hx5
      clear HP5 HR5 hR hx5 hx5'
      go_wp2_with fail
      go_loopw [13] (fun s13 wr => ∃ j : Nat, j ≤ S.length ∧ s13 = .int .i64 j ∧ Hid (Seen wr wc.heap.size (was S j) ∧ Turn (fun k => k = wc.heap.size) (wc.alloc (.cells (Array.replicate 64 (.bool false)) 50)) wr)) (fun s13 _ => S.length - (intOf s13).toNat)
      case atStart => exact ⟨0, Nat.zero_le _, rfl, HSn.out, Turn.refl _ _⟩
      case round =>
        obtain ⟨j, hj, rfl, hQ⟩ := hrel
        have HE : Hid (Ext w wr) := hQ.out.2.below (HXw.out.alloc _) (fun i o => by rw [o]; exact HXw.out.size)
        by_cases hlt : j < S.length
        · have hjx : (j : Int) < (S.length : Int) := by omega
          obtain ⟨xs, hw⟩ := HHw.out
          have hmem := hw.2.2.2.2.2 _ (gt_mem hlt)
          obtain ⟨d, hd⟩ : ∃ d : Nat, (gt S j).1 = (d : Int) := ⟨(gt S j).1.toNat, by omega⟩
          have hd64 : d < 64 := by omega
          have hd64' : (d : Int) < 64 := by omega
          have hwn := was_not hw.2.2.2.1 hlt hd
          obtain ⟨sc, sf⟩ := hQ.out.1 d hd64
          rw [hwn] at sc
          have HN2 : Hid (∀ n, Seen ((wr.drewN n).setCell ⟨wc.heap.size, d, none⟩ (.bool true)) wc.heap.size (was S (j + 1)) ∧ Turn (fun k => k = wc.heap.size) (wc.alloc (.cells (Array.replicate 64 (.bool false)) 50)) ((wr.drewN n).setCell ⟨wc.heap.size, d, none⟩ (.bool true))) := fun n => by
            refine ⟨?_, ?_⟩
            · rw [was_succ hd]; exact (hQ.out.1.drewN n).set hd64
            · exact (hQ.out.2.trans (Turn.of_ext (own := fun k => k = wc.heap.size) (drewN_ext n)) (fun _ _ o => o)).set (q := wc.heap.size) rfl _ _
          have HCl : Hid (∀ i, i < S.length → ∃ g, a3 = some ⟨g, 0, none⟩ ∧ wr.cell? ⟨g, i * 2, none⟩ = some (.int .i64 (gt S i).1) ∧ wr.cell? ⟨g, i * 2 + 1, none⟩ = some (.int .i64 (gt S i).2.1)) := fun i hi => by
            obtain ⟨g, e, q1, q2⟩ := row2 HRw.out hi
            have hg : g < wc.heap.size := World.block_lt_of_cell? wc ⟨g, i * 2, none⟩ q1
            have hx : Ext wc (wc.alloc (.cells (Array.replicate 64 (.bool false)) 50)) := (Ext.refl wc).alloc _
            exact ⟨g, e, hQ.out.2.keepc (by omega) (hx.keepc q1), hQ.out.2.keepc (by omega) (hx.keepc q2)⟩
          obtain ⟨g, rfl, c0, c1⟩ := HCl.out j hlt
          rw [hd] at c0
          have hjb : (j : Int) ≤ 60 := by have := HSl.out; omega
          by_cases hj0 : j = 0
          · have hz : decide (0 < j) = false := decide_eq_false (by omega)
            have hd0 : ¬ (d : Int) < 0 := by omega
            have hd1 : ¬ (64 : Int) ≤ (d : Int) := by omega
            clear hQ hmem hwn hw HCl HSn HHw HRw HXw hj0 hd HSl hj
            generalize (gt S j).2.1 = t2 at *
            go_upto_region 26 with fail
            go_quiet (fail)
            have HN3 : Hid (∃ n : Nat, n ≤ S.length ∧ ((j : Int) + 1) = (n : Int) ∧ Hid (Seen ((wr.drewN nq).setCell ⟨wc.heap.size, d, none⟩ (.bool true)) wc.heap.size (was S n) ∧ Turn (fun k => k = wc.heap.size) (wc.alloc (.cells (Array.replicate 64 (.bool false)) 50)) ((wr.drewN nq).setCell ⟨wc.heap.size, d, none⟩ (.bool true)))) := ⟨j + 1, by omega, by simp, HN2.out nq⟩
            clear HN2
            go_wp2_with fail
            go_roundw
            case measure => simp [intOf]; omega
            case rel =>
              obtain ⟨n, hn, en, hN⟩ := HN3.out
              exact ⟨n, hn, by simp [en], hN⟩
          · obtain ⟨i, hi⟩ : ∃ i, j = i + 1 := ⟨j - 1, by omega⟩
            have hz : decide (0 < j) = true := decide_eq_true (by omega)
            have hsub : (j : Int) - 1 = (i : Int) := by omega
            have hib : (i : Int) ≤ 60 := by omega
            have hd0 : ¬ (d : Int) < 0 := by omega
            have hd1 : ¬ (64 : Int) ≤ (d : Int) := by omega
            obtain ⟨g', e', _, c3'⟩ := HCl.out i (by omega)
            simp only [Option.some.injEq, Addr.mk.injEq, and_true] at e'
            subst e'
            have hsrt : (gt S i).2.1 ≤ (gt S j).2.1 := by rw [hi]; exact sorted_at hw.2.2.1 (by omega)
            have hix : (i : Int) < (S.length : Int) := by omega
            have hs2 : decide ((gt S j).2.1 < (gt S i).2.1) = false := decide_eq_false (by omega)
            clear hQ hmem hwn hw HCl HSn HHw HRw HXw hj0 hd HSl hj hsrt hi
            generalize (gt S j).2.1 = t2 at *
            generalize (gt S i).2.1 = t3 at *
            go_upto_region 26 with fail
            go_quiet (fail)
            have HN3 : Hid (∃ n : Nat, n ≤ S.length ∧ ((j : Int) + 1) = (n : Int) ∧ Hid (Seen ((wr.drewN nq).setCell ⟨wc.heap.size, d, none⟩ (.bool true)) wc.heap.size (was S n) ∧ Turn (fun k => k = wc.heap.size) (wc.alloc (.cells (Array.replicate 64 (.bool false)) 50)) ((wr.drewN nq).setCell ⟨wc.heap.size, d, none⟩ (.bool true)))) := ⟨j + 1, by omega, by simp, HN2.out nq⟩
            clear HN2
            go_wp2_with fail
            go_roundw
            case measure => simp [intOf]; omega
            case rel =>
              obtain ⟨n, hn, en, hN⟩ := HN3.out
              exact ⟨n, hn, by simp [en], hN⟩
        · have hjx : ¬ (j : Int) < (S.length : Int) := by omega
          go_wp2_with (go_at_call 20; refine (HWk.out _).mono ?_; rintro e wk ⟨rfl, xk⟩)
          go_ret
          exact ⟨rfl, HE.out.trans xk⟩
end Go.Proofs.Ytiallnpmgdjdfaa
