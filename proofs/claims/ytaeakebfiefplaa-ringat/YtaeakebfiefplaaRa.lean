/- RingAt. -/
import Derived.Test.YtaeakebfiefplaaRv
namespace Go.Proofs.Ytaeakebfiefplaa
open Go.RowKit Go.Conc Go.Shelf
attribute [local go_sem] Oper.semAt_some
set_option maxRecDepth 20000 in
set_option maxHeartbeats 8000000 in
theorem at_any (a : Option Addr) (len cap : Nat) (C : Int) (D N : Nat → Int) (S : Nat → ByteArray) (w : World) (hl : len ≤ maxLen) (hc : Acts w a len D N S) :
    Calls Try.prog 5 #[.agg #[.int .i64 C, .slice a len cap]] w fun e w' => e = .returned (.bool true) ∧ Ext w w' := by
  have hl' : len ≤ 9223372036854775807 := by unfold maxLen at hl; omega
  obtain ⟨n0, hn0, HW0⟩ := within_any C 30 (by omega) (by omega)
  have HC : Hid (∀ w, Calls Try.prog 9 #[.int .i64 C, .int .i64 30] w fun e w' => e = .returned (.int .i64 n0) ∧ w' = w) := HW0
  have HN : Hid (∀ v w', Calls Try.prog 7 #[.int .i64 v] w' fun e w'' => e = .returned (.int .i64 v) ∧ w'' = w') := num_any
  have HWk : Hid (∀ w', Calls Try.prog 8 #[] w' fun e w'' => e = .returned (.bool true) ∧ Ext w' w'') := wakes_any
  have HA : Hid (∀ w, Calls Try.prog 17 #[.int .i64 (1 + n0)] w fun e w' => ∃ p d c, e = .returned (.tuple #[.pointer (some ⟨p, 0, none⟩), .int .i64 0]) ∧ Ri w' p d c (1 + n0) [] ∧ w.heap.size ≤ p ∧ w.heap.size ≤ d ∧ w.heap.size ≤ c ∧ Ext w w') := fun w => by
    have := new_i w (1 + n0) (by omega) (by omega); simpa using this
  clear hl HW0
  have hcw : Hid (Acts w a len D N S) := hc
  clear hc
  refine (callsIn_wide (n := 5)).1 (callsIn_of_wp_marks Try.func5 rfl trivial (wpIn_wide.2 ?_) rfl)
  simp only [Try.ntmps5, List.size_toArray, List.length_cons, List.length_nil, Nat.reduceAdd, Nat.reduceSub, Array.replicate_succ, Array.replicate_zero, List.push_toArray, List.append_toArray, List.nil_append, List.cons_append]
  go_upto_block 0 with (first | (go_at_call 9; refine (HC.out _).mono ?_; rintro e wx ⟨rfl, hwx⟩; have hwy := hwx.symm; clear hwx; subst hwy) | (go_at_call 17; refine (HA.out _).mono ?_; rintro e w1 ⟨p, d, c, rfl, r1, bp, bd, bc, x1⟩) | (go_at_call 7; refine (HN.out _ _).mono ?_; rintro e wx ⟨rfl, hwx⟩; have hwy := hwx.symm; clear hwx; subst hwy))
  have hsz : ((w.alloc (.cells #[.int .i64 C, .slice a len cap] 24)).alloc (.cells #[.bool false] 4)).heap.size = w.heap.size + 2 := by simp
  have hV0 : Hid (Vars (w1.alloc (.cells #[.pointer (some ⟨p, 0, none⟩)] 44)) w.heap.size w1.heap.size p d c len cap a D N S) := by
    obtain ⟨l1, l2, l3⟩ := IsRing.lt r1
    have x0 : Ext w ((w.alloc (.cells #[.int .i64 C, .slice a len cap] 24)).alloc (.cells #[.bool false] 4)) := ((Ext.refl w).alloc _).alloc _
    have x2 := x1.alloc (.cells #[.pointer (some ⟨p, 0, none⟩)] 44)
    have sz2 := x1.size
    rw [hsz] at bp bd bc sz2
    refine ⟨x2.keepc (by simp [go_sem]), x2.keepc (by simp [go_sem]), ?_, by simp [go_sem], (hcw.out.ext x0).ext x2, by omega, by omega, by omega, fun b off ea hpos => ?_⟩
    · rw [Below.frozen (p := ⟨w.heap.size + 1, 0, none⟩) x2 (by rw [hsz]; show w.heap.size + 1 < _; omega)]
      simp [go_sem]
    · obtain ⟨b', off', ea', hh⟩ := hcw.out 0 hpos
      rw [ea] at ea'
      simp only [Option.some.injEq, Addr.mk.injEq, and_true] at ea'
      have hlt : b' < w.heap.size := World.block_lt_of_cell? w ⟨b', _, none⟩ hh.1
      omega
  have hR0 : Hid (Ri (w1.alloc (.cells #[.pointer (some ⟨p, 0, none⟩)] 44)) p d c (1 + n0) []) := IsRing.ext r1 ((Ext.refl w1).alloc _)
  have hB0 : Hid (w.heap.size ≤ p ∧ w.heap.size ≤ d ∧ w.heap.size ≤ c ∧ Ext w (w1.alloc (.cells #[.pointer (some ⟨p, 0, none⟩)] 44))) := by
    rw [hsz] at bp bd bc
    exact ⟨by omega, by omega, by omega, ((((Ext.refl w).alloc _).alloc _).trans x1).alloc _⟩
  generalize w1.heap.size = rb at *
  generalize hW2 : w1.alloc (.cells #[.pointer (some ⟨p, 0, none⟩)] 44) = W2 at *
  clear hW2 hsz bp bd bc x1 r1 HC HN HA hcw
  generalize hB : w.heap.size = B at *
  have HBw : Hid (w.heap.size = B) := hB
  clear hB
  have HPu : Hid (∀ wr zs x, Ri wr p d c (1 + n0) (vals zs) → Calls Try.prog 21 #[.pointer (some ⟨p, 0, none⟩), .int .i64 x] wr fun e w' => ∃ v, e = .returned v ∧ Turn p d c wr w' ∧ ∃ zs' : List Int, zs'.length = min (1 + n0) (zs.length + 1) ∧ Ri w' p d c (1 + n0) (vals zs')) := fun wr zs x h => by
    refine (push_i wr h x).mono ?_
    rintro e w' ⟨rfl, hr, ht⟩
    obtain ⟨hle, _, _⟩ := IsRing.le h
    rw [vals_len] at hle
    refine ⟨_, rfl, ht, ?_⟩
    by_cases hlt : zs.length < 1 + n0
    · refine ⟨zs ++ [x], by simp; omega, ?_⟩
      have e1 : pushed (1 + n0) (vals zs) (.int .i64 x) = vals (zs ++ [x]) := by unfold pushed; rw [if_pos (by rw [vals_len]; exact hlt)]; simp [vals]
      rw [e1] at hr; exact hr
    · refine ⟨zs.tail ++ [x], by simp; omega, ?_⟩
      have e1 : pushed (1 + n0) (vals zs) (.int .i64 x) = vals (zs.tail ++ [x]) := by unfold pushed; rw [if_neg (by rw [vals_len]; exact hlt)]; simp [vals]
      rw [e1] at hr; exact hr
  go_cut [6] from 36 to 54 (fun i wx => ∃ (k : Nat) (zs : List Int), i = .int .i64 k ∧ min len 60 = k ∧ zs.length = min (1 + n0) k ∧ Hid (Ri wx p d c (1 + n0) (vals zs) ∧ Turn p d c W2 wx))
  case first =>
    go_wp2_with fail
    go_loopw [6] (fun i wr => ∃ (k : Nat) (zs : List Int), k ≤ len ∧ k ≤ 60 ∧ i = .int .i64 k ∧ zs.length = min (1 + n0) k ∧ Hid (Ri wr p d c (1 + n0) (vals zs) ∧ Turn p d c W2 wr)) (fun i _ => len - (intOf i).toNat)
    case atStart => exact ⟨0, [], Nat.zero_le _, by omega, rfl, by simp, hR0.out, Turn.refl _ _ _ _⟩
    case round =>
      obtain ⟨k, zs, hk, hk60, rfl, hzl, hR⟩ := hrel
      have HZL : Hid (zs.length = min (1 + n0) k) := hzl
      clear hzl
      have hV := hV0.out.turn hR.out.2
      have z1 := hV.sc
      by_cases hlt : k < len
      · by_cases h60 : k < 60
        · obtain ⟨b, off, ea, _⟩ := hV.ac k hlt
          subst ea
          obtain ⟨y0, y1, y2, _⟩ := hV.ac.row hlt
          have zr := hV.rv
          go_upto_region 8 with fail
          refine wp_region_still_last 7 (by kernel_rfl) (by kernel_rfl) rfl ?_
          simp only [List.take_succ_cons, List.take_zero]
          repeat still_step
          refine wpStill_nil (tail_call rfl rfl (f := 21) (args := #[.pointer (some ⟨p, 0, none⟩), .int .i64 (N k)]) ?_ ?_)
          · simp [go_sem]
          refine (HPu.out wr.drew zs (N k) (IsRing.drewN hR.out.1 1)).mono ?_
          rintro e w3 ⟨v, rfl, t3, zs', hl3, r3⟩
          refine ⟨v, rfl, ?_⟩
          have H3 : Hid (Ri w3 p d c (1 + n0) (vals zs') ∧ Turn p d c W2 w3) := ⟨r3, (hR.out.2.trans (drewN_turn 1)).trans t3⟩
          have HL3 : Hid (zs'.length = min (1 + n0) (k + 1)) := by rw [HZL.out] at hl3; show _ = _; rw [hl3]; omega
          clear r3 t3 hl3 hV z1 zr y0 y1 y2
          go_wp2_with fail
          go_roundw
          case measure => simp [intOf]; omega
          case rel => exact ⟨k + 1, zs', by omega, by omega, by simp, HL3.out, H3⟩
        · go_wp2_with fail
          go_meet
          exact ⟨k, zs, rfl, by omega, HZL.out, hR⟩
      · go_wp2_with fail
        go_meet
        exact ⟨k, zs, rfl, by omega, HZL.out, hR⟩
  case rest =>
    obtain ⟨k, zs, rfl, hkl, hzl, hR⟩ := hcut
    have hV := hV0.out.turn hR.out.2
    have zr := hV.rv
    have hrb : rb < wc.heap.size := World.block_lt_of_cell? wc ⟨rb, 0, none⟩ zr
    have ne1 : rb ≠ wc.heap.size := by omega
    have ne2 : wc.heap.size ≠ rb := by omega
    have HKL : Hid (min len 60 = k) := hkl
    have hzn : zs.length ≤ 256 := by omega
    have HZL : Hid (zs.length = min (1 + n0) k) := hzl
    clear hkl hzl
    go_wp2_with (go_at_call 25; refine (all_i _ _).mono ?_; rintro e wl ⟨rfl, rfl⟩)
    have hx3 : Ext wc ((wc.alloc (.cells #[.int .i64 0] 3)).alloc (.cells #[.pointer (some ⟨p, 0, none⟩)] 44)) := ((Ext.refl wc).alloc _).alloc _
    have hxw : Ext w wc := by
      obtain ⟨b1, b2, b3, x2⟩ := hB0.out
      rw [← HBw.out] at b1 b2 b3
      exact hR.out.2.below x2 (Nat.le_refl _) b1 b2 b3
    obtain ⟨lp, ld, lc⟩ := IsRing.lt hR.out.1
    have hB1 : B + 1 < wc.heap.size := World.block_lt_of_cell? wc ⟨B + 1, 0, none⟩ hV.re
    have hM0 : Mid w ((wc.alloc (.cells #[.int .i64 0] 3)).alloc (.cells #[.pointer (some ⟨p, 0, none⟩)] 44)) B rb wc.heap.size p d c len cap (1 + n0) a D N S zs 0 :=
      ⟨hV.ext hx3, by simp [go_sem], by simp [go_sem], IsRing.ext hR.out.1 hx3, hxw.trans hx3⟩
    have hbox : ((wc.alloc (.cells #[.int .i64 0] 3)).alloc (.cells #[.pointer (some ⟨p, 0, none⟩)] 44)).cell? ⟨wc.heap.size + 1, 0, none⟩ = some (.pointer (some ⟨p, 0, none⟩)) := by simp [go_sem]
    have hsz3 : ((wc.alloc (.cells #[.int .i64 0] 3)).alloc (.cells #[.pointer (some ⟨p, 0, none⟩)] 44)).heap.size = wc.heap.size + 2 := by simp
    have hseq := all_stops (zs := zs) 4 (by omega) (wc.heap.size + 1) wc.heap.size (fun j => zs[j]?.getD 0) (fun _ _ => rfl) ((wc.alloc (.cells #[.int .i64 0] 3)).alloc (.cells #[.pointer (some ⟨p, 0, none⟩)] 44)) (by rw [hsz3]; omega) hbox hM0.r
    have hww : w.heap.size ≤ wc.heap.size := hxw.size
    have hab : ∀ b off, a = some ⟨b, off, none⟩ → 0 < len → wc.heap.size ≠ b := by
      intro b off ea hpos
      obtain ⟨b', off', ea', hh⟩ := hV.ac 0 hpos
      rw [ea] at ea'
      simp only [Option.some.injEq, Addr.mk.injEq, and_true] at ea'
      have hlt : b' < wc.heap.size := World.block_lt_of_cell? wc ⟨b', _, none⟩ hh.1
      omega
    have HKN : Hid (wc.heap.size ≠ B ∧ wc.heap.size ≠ B + 1 ∧ wc.heap.size ≠ rb ∧ wc.heap.size ≠ p ∧ wc.heap.size ≠ d ∧ wc.heap.size ≠ c) := by show _ ∧ _; omega
    generalize hW3 : ((wc.alloc (.cells #[.int .i64 0] 3)).alloc (.cells #[.pointer (some ⟨p, 0, none⟩)] 44)) = W3 at *
    clear hW3 hx3 hbox
    generalize hkb : wc.heap.size = kb at *
    refine (wpIn_wide (n := 5)).1 ?_
    refine wpIn_rangeFunc_ownG rfl (by omega) (gf := 37) (lb := #[.pointer (some ⟨kb + 1, 0, none⟩)]) rfl trivial (enters_of Try.func37 (by kernel_rfl) rfl)
      hseq (fun h1 h2 => h1.trans h2) (fun W l o o' _ hl ho _ => KeepsCells.put W l o o' hl ho) (Below.refl _ _) (fun _ => rfl)
      (fun pre W => pre = upto (fun j => (j, zs[j]?.getD 0)) pre.length ∧ Mid w W B rb kb p d c len cap (1 + n0) a D N S zs pre.length)
      (fun cd pre W => cd = .ret ∧ ¬ pre = upto (fun j => (j, zs[j]?.getD 0)) pre.length)
      (fun s A B' row hs hg hr => ⟨hs.1, hs.2.grown hg hr (by omega) (by omega)⟩)
      (fun _ _ _ _ _ hs _ _ => hs)
      ⟨rfl, hM0⟩
      (fun x => { tmps := #[.agg #[.int .i64 C, .slice a len cap], .pointer (some ⟨B, 0, none⟩), .pointer (some ⟨B + 1, 0, none⟩), .int .i64 (1 + (n0 : Int)), .pointer (some ⟨rb, 0, none⟩), .int .i64 0, .int .i64 k, .pointer (some ⟨kb, 0, none⟩), .int .i64 (x.1 : Int), .int .i64 x.2, undef, undef, undef, undef, undef, undef, undef, undef, undef, undef, .pointer (some ⟨B, 0, none⟩), .int .i64 C, .int .i64 n0, .int .i64 (1 + (n0 : Int)), .tuple #[.pointer (some ⟨p, 0, none⟩), .int .i64 0], .int .i64 (1 + (n0 : Int)), .tuple #[.pointer (some ⟨p, 0, none⟩), .int .i64 0], .pointer (some ⟨p, 0, none⟩), .int .i64 0, .int .i64 0, .int .i64 0, .bool false, .bool false, .pointer (some ⟨p, 0, none⟩), .bool false, .bool false, u36, u37, u38, u39, u40, u41, u42, u43, u44, u45, u46, u47, u48, u49, u50, u51, u52, u53, u54, .pointer (some ⟨p, 0, none⟩), .func (.func 37) #[] #[.pointer (some ⟨kb + 1, 0, none⟩)], .int .i64 (x.1 : Int), .int .i64 x.2, undef, undef, undef, undef, undef, undef, undef, undef, undef, undef, undef, undef, undef, undef, undef, undef, undef, undef, undef, undef, undef, undef, undef, undef, undef, undef, undef, undef, undef, undef, undef, undef, undef, undef, undef, undef, undef, undef, undef, undef, undef, undef, undef, undef, undef, undef, undef, undef, undef, undef, undef, undef, undef, undef, undef, undef, undef, undef, undef, undef, undef, undef, undef, undef, undef, undef, undef, undef, undef, undef, undef, undef, undef, undef, undef, undef, undef, undef, undef, undef, undef, undef, undef, undef, undef, undef, undef, undef, undef, undef, undef, undef], defers := [] }) ?assign ?body ?done ?stop
    case assign =>
      intro l x W K hK
      gi_wp2
      exact hK
    case body =>
      rintro l pre ⟨i, xv⟩ W ⟨hpre, hM⟩ hlen
      have HM : Hid (Mid w W B rb kb p d c len cap (1 + n0) a D N S zs pre.length) := hM
      have zrv := hM.v.rv
      have zre := hM.v.re
      have zrf := hM.v.rf
      have HAt := at_l_i W hM.r (i : Int)
      by_cases hx : i = pre.length ∧ xv = zs[pre.length]?.getD 0
      · obtain ⟨rfl, rfl⟩ := hx
        rw [if_pos (by rw [vals_len]; omega), Int.toNat_natCast, vals_at _ hlen] at HAt
        have hup : pre ++ [(pre.length, zs[pre.length]?.getD 0)] = upto (fun j => (j, zs[j]?.getD 0)) (pre ++ [(pre.length, zs[pre.length]?.getD 0)]).length := by
          rw [List.length_append, List.length_singleton, upto_succ, ← hpre]
        have HUP : Hid _ := hup
        have HCn : Hid (∀ W1, Quiet W W1 → Mid w (W1.setCell ⟨kb, 0, none⟩ (.int .i64 ((pre.length + 1 : Nat) : Int))) B rb kb p d c len cap (1 + n0) a D N S zs (pre.length + 1)) := fun W1 q1 => (HM.out.quiet q1).count (by omega) HKN.out hab (pre.length + 1)
        have hpl : pre.length ≤ 256 := by have := hzn; omega
        clear hup hpre hlen
        generalize zs[pre.length]?.getD 0 = z at *
        clear hM
        gi_wp2_with (refine ⟨trivial, ?_⟩; gi_at_call 26; refine (CallsIn.inRound l (callsIn_wide.2 HAt)).mono ?_; rintro e W1 ⟨rfl, q1⟩; have kc1 := (HM.out.quiet q1).kc; have kf1 := (HM.out.quiet q1).kf)
        obtain ⟨m1, rfl⟩ := q1
        have hM2 := HCn.out (W.drewN m1) ⟨m1, rfl⟩
        refine ⟨keeps_quiet_set W _ m1 _ _, fun b C E fz hb hx => by rw [heap_setCell_far _ _ _ _ _ (Ne.symm hb)]; exact hx, HUP.out, ?_⟩
        rw [List.length_append, List.length_singleton]
        exact hM2
      · have hbad : ¬ pre ++ [(i, xv)] = upto (fun j => (j, zs[j]?.getD 0)) (pre ++ [(i, xv)]).length := by
          intro e
          rw [List.length_append, List.length_singleton, upto_succ, ← hpre] at e
          have := (List.append_cancel_left e)
          simp at this
          exact hx this
        have HBD : Hid (¬ pre ++ [(i, xv)] = upto (fun j => (j, zs[j]?.getD 0)) (pre ++ [(i, xv)]).length) := hbad
        by_cases hi : i = pre.length
        · subst hi
          have hxv : ¬ xv = zs[pre.length]?.getD 0 := fun e => hx ⟨rfl, e⟩
          rw [if_pos (by rw [vals_len]; omega), Int.toNat_natCast, vals_at _ hlen] at HAt
          clear hx hbad hpre hlen hM
          generalize zs[pre.length]?.getD 0 = z at *
          gi_wp2_with (refine ⟨trivial, ?_⟩; gi_at_call 26; refine (CallsIn.inRound l (callsIn_wide.2 HAt)).mono ?_; rintro e W1 ⟨rfl, q1⟩; have kc1 := (HM.out.quiet q1).kc; have re1 := (HM.out.quiet q1).v.re; have rf1 := (HM.out.quiet q1).v.rf)
          obtain ⟨m1, rfl⟩ := q1
          exact ⟨keeps_quiet_set W _ m1 _ _, rfl, HBD.out⟩
        · have hii : ¬ (i : Int) = (pre.length : Int) := by omega
          have HAt' : ∃ y ok, Calls Try.prog 26 #[.pointer (some ⟨p, 0, none⟩), .int .i64 (i : Int)] W fun e w' => e = .returned (.tuple #[y, .bool ok]) ∧ Quiet W w' := by
            split at HAt
            · exact ⟨_, _, HAt⟩
            · exact ⟨_, _, HAt⟩
          obtain ⟨y, ok, HA2⟩ := HAt'
          clear hx hbad hpre hlen hM HAt
          gi_wp2_with (refine ⟨trivial, ?_⟩; gi_at_call 26; refine (CallsIn.inRound l (callsIn_wide.2 HA2)).mono ?_; rintro e W1 ⟨rfl, q1⟩; have kc1 := (HM.out.quiet q1).kc; have re1 := (HM.out.quiet q1).v.re; have rf1 := (HM.out.quiet q1).v.rf)
          obtain ⟨m1, rfl⟩ := q1
          exact ⟨keeps_quiet_set W _ m1 _ _, rfl, HBD.out⟩
    case done =>
      rintro D' ys W4 hD rfl ⟨_, hM⟩ hK
      rw [upto_length] at hM
      have hDn : Hid (D' ≠ p ∧ D' ≠ d ∧ D' ≠ c) := by show _ ∧ _; omega
      have hwp : Hid (w.heap.size ≤ p ∧ w.heap.size ≤ d ∧ w.heap.size ≤ c) := by
        obtain ⟨b1, b2, b3, _⟩ := hB0.out
        rw [← HBw.out] at b1 b2 b3
        exact ⟨b1, b2, b3⟩
      have HDw : Hid (w.heap.size ≤ D') := by show _ ≤ _; omega
      have hAf : Hid (Aft w W4 B rb p d c len cap (1 + n0) D' a D N S (vals zs)) := ⟨hM.v, hM.r, hM.x, hK⟩
      have kc4 := hM.kc
      have kf4 := hM.kf
      have rv4 := hM.v.rv
      have sc4 := hM.v.sc
      have HLn : Hid (∀ wr, Ri wr p d c (1 + n0) (vals zs) → Calls Try.prog 23 #[.pointer (some ⟨p, 0, none⟩)] wr fun e w' => e = .returned (.int .i64 zs.length) ∧ ∃ m, w' = wr.drewN m) := fun wr h => by
        have := len_l_i wr h; rw [vals_len] at this; exact this
      have hzk : zs.length = min (1 + n0) (min len 60) := by rw [HKL.out]; exact HZL.out
      have HZK : Hid (zs.length = min (1 + n0) (min len 60)) := hzk
      clear hM hK hM0 hseq hD hsz3 hV0 hR hV zr HPu hR0 hzk
      have hzm : zs.length ≤ 1 + n0 := by have := HZK.out; omega
      obtain ⟨m, hm⟩ : ∃ m, zs.length = m := ⟨_, rfl⟩
      rw [hm] at kc4 HLn HZK hzm
      go_upto_region 17 with fail
      go_cut [92] from 79 to 92 (fun v wx => v = .bool false ∧ Hid (Aft w wx B rb p d c len cap (1 + n0) D' a D N S (vals zs)))
      case first =>
        have HQ4 : Hid (∀ q, Aft w (W4.drewN q) B rb p d c len cap (1 + n0) D' a D N S (vals zs)) := fun q => hAf.out.quiet ⟨q, rfl⟩ hwp.out hDn.out
        by_cases hA : len < 1 + n0
        · have hml : m = len := by have := HZK.out; omega
          have g1 : ¬ (60 : Int) < len := by omega
          have g2 : (len : Int) < 1 + n0 := by omega
          subst hml
          go_quiet (first | (go_at_call 23; exact Calls.quiet_of (HLn.out _ (IsRing.drewN hAf.out.r _))))
          go_wp2_with fail
          go_meet
          exact ⟨by simp, HQ4.out nq⟩
        · have hml : m = 1 + n0 := by have := HZK.out; omega
          subst hml
          by_cases g1 : (60 : Int) < len
          · have g2 : ¬ (60 : Int) < 1 + n0 := by omega
            go_quiet (first | (go_at_call 23; exact Calls.quiet_of (HLn.out _ (IsRing.drewN hAf.out.r _))))
            go_wp2_with fail
            go_meet
            exact ⟨by simp, HQ4.out nq⟩
          · have g2 : ¬ (len : Int) < 1 + n0 := by omega
            go_quiet (first | (go_at_call 23; exact Calls.quiet_of (HLn.out _ (IsRing.drewN hAf.out.r _))))
            go_wp2_with fail
            go_meet
            exact ⟨by simp, HQ4.out nq⟩
      case rest =>
        obtain ⟨rfl, hA5⟩ := hcut
        have hw' := hwp.out
        have hD' := hDn.out
        have HLe : Hid (∀ wr l, Aft w wr B rb p d c len cap (1 + n0) D' a D N S l → Calls Try.prog 23 #[.pointer (some ⟨p, 0, none⟩)] wr fun e w' => e = .returned (.int .i64 l.length) ∧ Aft w w' B rb p d c len cap (1 + n0) D' a D N S l) := fun wr l h => (len_l_i wr h.r).mono fun e w' ⟨he, q⟩ => ⟨he, h.quiet q hw' hD'⟩
        have HA0 : Hid (∀ wr, Aft w wr B rb p d c len cap (1 + n0) D' a D N S [] → Calls Try.prog 26 #[.pointer (some ⟨p, 0, none⟩), .int .i64 0] wr fun e w' => e = .returned (.tuple #[.int .i64 0, .bool false]) ∧ Aft w w' B rb p d c len cap (1 + n0) D' a D N S []) := fun wr h => (at_l_i wr h.r 0).mono fun e w' ⟨he, q⟩ => ⟨he, h.quiet q hw' hD'⟩
        have HA1 : Hid (∀ wr z l, Aft w wr B rb p d c len cap (1 + n0) D' a D N S (.int .i64 z :: l) → Calls Try.prog 26 #[.pointer (some ⟨p, 0, none⟩), .int .i64 0] wr fun e w' => e = .returned (.tuple #[.int .i64 z, .bool true]) ∧ Aft w w' B rb p d c len cap (1 + n0) D' a D N S (.int .i64 z :: l)) := fun wr z l h => by
          have h1 := at_l_i wr h.r 0
          rw [if_pos (by simp)] at h1
          exact h1.mono fun e w' ⟨he, q⟩ => ⟨he, h.quiet q hw' hD'⟩
        have HP0 : Hid (∀ wr, Aft w wr B rb p d c len cap (1 + n0) D' a D N S [] → Calls Try.prog 19 #[.pointer (some ⟨p, 0, none⟩)] wr fun e w' => e = .returned (.tuple #[.int .i64 0, .bool false]) ∧ Aft w w' B rb p d c len cap (1 + n0) D' a D N S []) := fun wr h => (pop_i wr h.r).mono fun e w' ⟨he, hr, ht⟩ => ⟨he, h.turn ht hr hw' hD'⟩
        have HP1 : Hid (∀ wr z l, Aft w wr B rb p d c len cap (1 + n0) D' a D N S (.int .i64 z :: l) → Calls Try.prog 19 #[.pointer (some ⟨p, 0, none⟩)] wr fun e w' => e = .returned (.tuple #[.int .i64 z, .bool true]) ∧ Aft w w' B rb p d c len cap (1 + n0) D' a D N S l) := fun wr z l h => (pop_i wr h.r).mono fun e w' ⟨he, hr, ht⟩ => ⟨he, h.turn ht hr hw' hD'⟩
        have HPs : Hid (∀ wr, Aft w wr B rb p d c len cap (1 + n0) D' a D N S [] → Calls Try.prog 21 #[.pointer (some ⟨p, 0, none⟩), .int .i64 5] wr fun e w' => ∃ v l, e = .returned v ∧ Aft w w' B rb p d c len cap (1 + n0) D' a D N S l) := fun wr h => (push_i wr h.r 5).mono fun e w' ⟨he, hr, ht⟩ => ⟨_, _, he, h.turn ht hr hw' hD'⟩
        have HCl : Hid (∀ wr l, Aft w wr B rb p d c len cap (1 + n0) D' a D N S l → Calls Try.prog 27 #[.pointer (some ⟨p, 0, none⟩)] wr fun e w' => ∃ v, e = .returned v ∧ Aft w w' B rb p d c len cap (1 + n0) D' a D N S []) := fun wr l h => (clear_i wr h.r).mono fun e w' ⟨⟨v, he⟩, hr, ht⟩ => ⟨v, he, h.turn ht hr hw' hD'⟩
        have HCa : Hid (∀ wr l, Aft w wr B rb p d c len cap (1 + n0) D' a D N S l → Calls Try.prog 28 #[.pointer (some ⟨p, 0, none⟩)] wr fun e w' => e = .returned (.int .i64 (1 + (n0 : Int))) ∧ Aft w w' B rb p d c len cap (1 + n0) D' a D N S l) := fun wr l h => (cap_l_i wr h.r).mono fun e w' ⟨he, q⟩ => ⟨by rw [he]; simp, by rw [q]; exact h⟩
        have HWa : Hid (∀ wr l, Aft w wr B rb p d c len cap (1 + n0) D' a D N S l → Calls Try.prog 8 #[] wr fun e w' => e = .returned (.bool true) ∧ Aft w w' B rb p d c len cap (1 + n0) D' a D N S l) := fun wr l h => (HWk.out wr).mono fun e w' ⟨he, x⟩ => ⟨he, h.v.ext x, IsRing.ext h.r x, h.x.trans x, (x.block D' (Array.getElem?_eq_some_iff.1 h.k).1).trans h.k⟩
        clear hAf HLn HZK HZL HKL kc4 kf4 rv4 sc4 hw' hD' HWk
        go_wp2_with fail
        go_loopw [12] (fun _ wr => ∃ l : List Int, l.length ≤ 256 ∧ Hid (Aft w wr B rb p d c len cap (1 + n0) D' a D N S (vals l))) (fun _ wr => left wr c)
        case atStart => exact ⟨zs, hzn, hA5⟩
        case round =>
          obtain ⟨l, hl256, hR⟩ := hrel
          have rv := hR.out.v.rv
          cases l with
          | nil =>
            have HL1 := HLe.out wr [] hR.out
            have g1 : ¬ (0 : Int) < ((([] : List Value).length : Nat) : Int) := by simp
            go_wp2_with (first | (go_at_call 23; refine HL1.mono ?_; clear HL1; rintro e x1 ⟨rfl, a1⟩; have rv1 := a1.v.rv) | (go_at_call 19; refine (HP0.out _ a1).mono ?_; rintro e x2 ⟨rfl, a2⟩; have rv2 := a2.v.rv) | (go_at_call 21; refine (HPs.out _ a2).mono ?_; rintro e x3 ⟨v3, l3, rfl, a3⟩; have rv3 := a3.v.rv) | (go_at_call 27; refine (HCl.out _ _ a3).mono ?_; rintro e x4 ⟨v4, rfl, a4⟩; have rv4 := a4.v.rv) | (go_at_call 26; refine (HA0.out _ a4).mono ?_; rintro e x5 ⟨rfl, a5⟩; have rv5 := a5.v.rv) | (go_at_call 23; refine (HLe.out _ _ a5).mono ?_; rintro e x6 ⟨rfl, a6⟩; have rv6 := a6.v.rv) | (go_at_call 28; refine (HCa.out _ _ a6).mono ?_; rintro e x7 ⟨rfl, a7⟩; have rv7 := a7.v.rv) | (go_at_call 8; refine (HWa.out _ _ a7).mono ?_; rintro e x8 ⟨rfl, a8⟩; have re8 := a8.v.re; have rf8 := a8.v.rf))
            have hK8 := (KeepsOthers.setCell x8 ⟨B + 1, 0, none⟩ (.bool true)).same D' _ a8.k rfl
            refine ⟨by simp, .inl ⟨_, _, rfl, run_takeDeferred hK8, ?_⟩⟩
            have hc8 := cell_kept (World.cell?_setCell_same' x8 ⟨B + 1, 0, none⟩ (.bool true) (by rw [re8]; rfl)) (grownBy_putObj' _ D' (.deferred none)) (fun r e => by cases e; exact ⟨_, hK8, rfl⟩)
            refine ⟨.bool true, ?_, rfl, ?_⟩
            · simp [results, Try.results5, go_sem, hc8]
            · exact (Below.setCell a8.x (p := ⟨B + 1, 0, none⟩) (by rw [HBw.out]; exact Nat.le_succ B) _).trans (belowK_b (w := w) (Nat.le_refl _) _ D' _ _ HDw.out hK8 rfl rfl)
          | cons z l =>
            have HL1 := HLe.out wr (vals (z :: l)) hR.out
            have hln : (vals (z :: l)).length = l.length + 1 := by simp [vals]
            rw [hln] at HL1
            have hmes : Hid (left wr c = l.length + 1) := (left_ring hR.out.r).trans hln
            have hl' : l.length ≤ 256 := by simp at hl256; omega
            have hR1 : Hid (Aft w wr B rb p d c len cap (1 + n0) D' a D N S (.int .i64 z :: vals l)) := hR.out
            go_wp2_with (first | (go_at_call 23; refine HL1.mono ?_; clear HL1; rintro e x1 ⟨rfl, a1⟩; have rv1 := a1.v.rv) | (go_at_call 26; refine (HA1.out _ z (vals l) a1).mono ?_; rintro e x2 ⟨rfl, a2⟩; have rv2 := a2.v.rv) | (go_at_call 19; refine (HP1.out _ z (vals l) a2).mono ?_; rintro e x3 ⟨rfl, a3⟩))
            have HA3 : Hid (Aft w x3 B rb p d c len cap (1 + n0) D' a D N S (vals l)) := a3
            clear a1 a2 a3
            go_roundw
            case measure => rw [left_ring HA3.out.r, hmes.out, vals_len]; omega
            case rel => exact ⟨l, hl', HA3⟩
    case stop =>
      rintro D' cd pre W hD ⟨k', hk', rfl⟩ ⟨_, hne⟩ hK
      exact absurd (by rw [upto_length]) hne
end Go.Proofs.Ytaeakebfiefplaa
