/- drv: Set. -/
import Derived.Test.YtdfhhfpfnkjbnaaDb
namespace Go.Proofs.Ytdfhhfpfnkjbnaa
open Go.RowKit Go.Conc
abbrev zro : Obj := .cells #[.int .i64 0, .int .i64 0, .bool false, .int .i64 0, .int .i64 0, .int .i64 0, .bool false, .int .i64 0, .int .i64 0] 24
/-- the state that comes of what is wanted -/
def stepTo (st : Int) (want another : Bool) : Int := toV (mvS st.toNat) (mvO st.toNat) (mvI st.toNat) want another
/-- what is wanted -/
def setD (d : Dr) (want : Bool) (per : Int) : Dr :=
  if stepTo d.st want (per != d.per) = d.st then { d with want := want, per := per } else enterD { d with want := want, per := per } (stepTo d.st want (per != d.per))
theorem mvr_in {st : Int} (h : inn st 0 8 = true) : mvr st = .agg #[.int .i64 (mvS st.toNat), .int .i64 (mvO st.toNat), .int .i64 (mvI st.toNat)] := by unfold mvr; rw [if_pos h]
theorem okD_st {d : Dr} (h : okD d = true) : inn d.st 0 8 = true := by
  unfold okD at h
  simp only [Bool.and_eq_true] at h
  exact h.1.1.1.2
theorem DV.far9 {w : World} {b : Nat} {d : Dr} (h : DV w b d) {c : Nat} (hc : c ≠ b) (e : Dr) : DV (Go.Proofs.Ytdfhhfpfnkjbnaa.put9 w c e) b d := ((((((((h.far hc _ _).far hc _ _).far hc _ _).far hc _ _).far hc _ _).far hc _ _).far hc _ _).far hc _ _).far hc _ _
set_option maxRecDepth 20000 in
set_option maxHeartbeats 8000000 in
theorem setdr_any (d : Dr) (want : Bool) (per : Int) (w : World) : Calls Try.prog 14 #[drv d, .bool want, .int .i64 per] w fun e w' => e = .returned (if okD d && inn per 1 250 = true then .tuple #[drv (setD d want per), .int .i64 0] else .tuple #[drv zeroD, .int .i64 1]) ∧ Ext w w' := by
  have hx : Ext w ((w.alloc (dro d)).alloc zro) := ((Ext.refl w).alloc _).alloc _
  have hs : ((w.alloc (dro d)).alloc zro).heap.size = w.heap.size + 1 + 1 := by simp
  have H := isdriver_any d ((w.alloc (dro d)).alloc zro)
  have HP : Hid (∀ W, Calls Try.prog 35 #[.int .i64 per] W fun e w' => e = .returned (.bool (inn per 1 250)) ∧ w' = W) := isperiod_any per
  have h0 : DV ((w.alloc (dro d)).alloc zro) w.heap.size d := (dv_at rfl d).ext ((Ext.refl _).alloc _)
  have h1 : DV ((w.alloc (dro d)).alloc zro) (w.heap.size + 1) zeroD := dv_at (by simp) zeroD
  have HH : Hid (DV ((w.alloc (dro d)).alloc zro) w.heap.size d ∧ DV ((w.alloc (dro d)).alloc zro) (w.heap.size + 1) zeroD ∧ Ext w ((w.alloc (dro d)).alloc zro) ∧ ((w.alloc (dro d)).alloc zro).heap.size = w.heap.size + 1 + 1) := ⟨h0, h1, hx, hs⟩
  clear h0 h1 hx hs
  have HSt : Hid (okD d = true → inn d.st 0 8 = true) := okD_st
  have eS : Hid (setD d want per = if stepTo d.st want (per != d.per) = d.st then { d with want := want, per := per } else enterD { d with want := want, per := per } (stepTo d.st want (per != d.per))) := rfl
  obtain ⟨addr, id, wa, p0, st, fails, tried, left, bad⟩ := d
  simp only at HSt eS
  cases h : okD ⟨addr, id, wa, p0, st, fails, tried, left, bad⟩ <;> rw [h] at H
  · rw [if_neg (by simp)]
    clear h HSt eS
    go_enter Try.func14, Try.ntmps14
    go_upto_region 1 with fail
    generalize ((w.alloc (dro ⟨addr, id, wa, p0, st, fails, tried, left, bad⟩)).alloc zro) = w1 at *
    have c9 := HH.out.1
    obtain ⟨⟨c0, c1, c2, c3, c4, c5, c6, c7, c8⟩, _⟩ := c9
    simp only [Nat.zero_add] at c0 c1 c2 c3 c4 c5 c6 c7 c8
    go_wp2_with (go_at_call 32; refine H.mono ?_; rintro e w2 ⟨rfl, x2⟩; have y0 := HH.out.2.1.ext x2; obtain ⟨⟨d0, d1, d2, d3, d4, d5, d6, d7, d8⟩, f0, f1, f2, f3, f4, f5, f6, f7, f8⟩ := y0; simp only [Nat.zero_add, zeroD] at d0 d1 d2 d3 d4 d5 d6 d7 d8)
    have hx9 : Ext w (put9 w2 (w.heap.size + 1) zeroD) := (HH.out.2.2.1.trans x2).put9 (Nat.le_succ _) _
    exact bodyPost_ret (v := .tuple #[drv zeroD, .int .i64 1]) (by simp [results, Try.results14, go_sem, zeroD, d0, d1, d2, d3, d4, d5, d6, d7, d8]) rfl ⟨rfl, hx9⟩
  · cases hp : inn per 1 250 <;> rw [hp] at HP
    · rw [if_neg (by simp)]
      clear h HSt eS
      go_enter Try.func14, Try.ntmps14
      go_upto_region 1 with fail
      generalize ((w.alloc (dro ⟨addr, id, wa, p0, st, fails, tried, left, bad⟩)).alloc zro) = w1 at *
      have c9 := HH.out.1
      obtain ⟨⟨c0, c1, c2, c3, c4, c5, c6, c7, c8⟩, _⟩ := c9
      simp only [Nat.zero_add] at c0 c1 c2 c3 c4 c5 c6 c7 c8
      go_wp2_with (first | (go_at_call 32; refine H.mono ?_; rintro e w2 ⟨rfl, x2⟩; have y0 := HH.out.2.1.ext x2; obtain ⟨⟨d0, d1, d2, d3, d4, d5, d6, d7, d8⟩, f0, f1, f2, f3, f4, f5, f6, f7, f8⟩ := y0; simp only [Nat.zero_add, zeroD] at d0 d1 d2 d3 d4 d5 d6 d7 d8) | (go_at_call 35; refine (HP.out _).mono ?_; rintro e wx ⟨rfl, hwx⟩; have hwy := hwx.symm; clear hwx; subst hwy))
      have hx9 : Ext w (put9 w2 (w.heap.size + 1) zeroD) := (HH.out.2.2.1.trans x2).put9 (Nat.le_succ _) _
      exact bodyPost_ret (v := .tuple #[drv zeroD, .int .i64 1]) (by simp [results, Try.results14, go_sem, zeroD, d0, d1, d2, d3, d4, d5, d6, d7, d8]) rfl ⟨rfl, hx9⟩
    · rw [if_pos (by simp)]
      have hst := HSt.out h
      clear h HSt
      go_enter Try.func14, Try.ntmps14
      go_upto_region 1 with fail
      generalize ((w.alloc (dro ⟨addr, id, wa, p0, st, fails, tried, left, bad⟩)).alloc zro) = w1 at *
      have c9 := HH.out.1
      obtain ⟨⟨c0, c1, c2, c3, c4, c5, c6, c7, c8⟩, _⟩ := c9
      simp only [Nat.zero_add] at c0 c1 c2 c3 c4 c5 c6 c7 c8
      go_upto_region 3 with (first | (go_at_call 32; refine H.mono ?_; rintro e wk ⟨rfl, xk⟩) | (go_at_call 35; refine (HP.out _).mono ?_; rintro e wx ⟨rfl, hwx⟩; have hwy := hwx.symm; clear hwx; subst hwy))
      have HK : Hid (DV wk w.heap.size ⟨addr, id, wa, p0, st, fails, tried, left, bad⟩ ∧ DV wk (w.heap.size + 1) zeroD ∧ Ext w wk ∧ w.heap.size + 1 < wk.heap.size) := ⟨HH.out.1.ext xk, HH.out.2.1.ext xk, HH.out.2.2.1.trans xk, by have := xk.size; rw [HH.out.2.2.2] at this; omega⟩
      have c9 := HK.out.1
      clear c0 c1 c2 c3 c4 c5 c6 c7 c8 H HH HP xk
      obtain ⟨⟨c0, c1, c2, c3, c4, c5, c6, c7, c8⟩, _⟩ := c9
      simp only [Nat.zero_add] at c0 c1 c2 c3 c4 c5 c6 c7 c8
      have hm := mvr_in hst
      have hat := atm_any st
      rw [hm, hst] at hat
      have eS2 : Hid (stepTo st want (per != p0) = toV (mvS st.toNat) (mvO st.toNat) (mvI st.toNat) want (per != p0)) := rfl
      clear hm hst
      generalize mvS st.toNat = m0 at *
      generalize mvO st.toNat = m1 at *
      generalize mvI st.toNat = m2 at *
      have hs : w.heap.size < wk.heap.size := by have := HK.out.2.2.2; omega
      go_cut [8, 9] (fun v8 v9 wx => ∃ g, v8 = .pointer (some ⟨g, 0, none⟩) ∧ v9 = .bool true ∧ Hid (TV wx g (.int .i64 m0) (.int .i64 m1) (.int .i64 m2) ∧ Ext wk wx))
      case first =>
        clear eS eS2 c0 c1 c2 c3 c5 c6 c7 c8 HK
        have ne0 : w.heap.size ≠ wk.heap.size := by omega
        have HM : Hid (∀ W, Ext wk W → Calls Try.prog 36 #[] W fun e w' => ∃ b, e = .returned (.slice (some ⟨b, 0, none⟩) 9 9) ∧ Hid (MT w' b) ∧ Hid (Ext wk w') ∧ Hid (Ext W w') ∧ w'.cell? ⟨w.heap.size, 4, none⟩ = some (.int .i64 st)) := fun W x => (moves_any W).mono fun e w' ⟨b, h1, h2, h3⟩ => ⟨b, h1, h2, x.trans h3, h3, (x.trans h3).keepc c4⟩
        have HA : Hid (∀ b W, MT W b → Ext wk W → Calls Try.prog 37 #[.slice (some ⟨b, 0, none⟩) 9 9, .int .i64 st] W fun e w' => e = .returned (.tuple #[.agg #[.int .i64 m0, .int .i64 m1, .int .i64 m2], .bool true]) ∧ Hid (Ext wk w') ∧ Hid (Ext W w') ∧ w'.cell? ⟨w.heap.size, 4, none⟩ = some (.int .i64 st)) := fun b W h x => (hat b W h).mono fun e w' ⟨h1, h3⟩ => ⟨h1, x.trans h3, h3, (x.trans h3).keepc c4⟩
        have X1 : Hid (Ext wk wk) := Ext.refl wk
        have V0 : Hid (∀ W : World, TV (W.alloc (.cells #[.int .i64 0, .int .i64 0, .int .i64 0] 90)) W.heap.size (.int .i64 0) (.int .i64 0) (.int .i64 0)) := fun W => tv_at rfl
        have LE : Hid (∀ W, Ext wk W → w.heap.size ≠ W.heap.size ∧ W.heap.size ≠ w.heap.size) := fun W x => by have := x.size; have := ne0; have h4 := World.block_lt_of_cell? wk ⟨w.heap.size, 4, none⟩ c4; simp only at h4; omega
        have L1 := LE.out wk (Ext.refl _)
        obtain ⟨l1, l2⟩ := L1
        clear hat ne0
        go_region_held3 (fun w' => w'.cell? ⟨w.heap.size, 4, none⟩ = some (.int .i64 st)) (first | (go_keep; done) | skip) (first | (go_at_call 36; (with_reducible refine (HM.out _ X1.out.drew).mono ?_); rintro e w2 ⟨b2, rfl, T2, X2, Y2, c42⟩; obtain ⟨k1, k2⟩ := LE.out _ X2.out) | (go_at_call 36; refine (HM.out _ (X1.out.alloc (.cells #[.int .i64 0, .int .i64 0, .int .i64 0] 90)).drew).mono ?_; rintro e w2 ⟨b2, rfl, T2, X2, Y2, c42⟩; have Z2 : Hid (TV w2 wk.heap.size (.int .i64 0) (.int .i64 0) (.int .i64 0)) := (V0.out wk).ext (Ext.trans (Ext.refl (wk.alloc (.cells #[.int .i64 0, .int .i64 0, .int .i64 0] 90))).drew Y2.out); obtain ⟨⟨z0, z1, z2⟩, z3, z4, z5⟩ := Z2.out) | (go_at_call 37; (with_reducible refine (HA.out _ _ T2.out X2.out).mono ?_); rintro e w3 ⟨rfl, X3, Y3, c43⟩; have Z3 : Hid (TV w3 wk.heap.size (.int .i64 0) (.int .i64 0) (.int .i64 0)) := Z2.out.ext Y3.out; obtain ⟨⟨y0, y1, y2⟩, y3, y4, y5⟩ := Z3.out) | (go_at_call 37; (with_reducible refine (HA.out _ _ T2.out X2.out).mono ?_); rintro e w3 ⟨rfl, X3, Y3, c43⟩) | (go_at_call 37; refine (HA.out _ _ (T2.out.ext ((Ext.refl _).alloc (.cells #[.int .i64 0, .int .i64 0, .int .i64 0] 90))) (X2.out.alloc (.cells #[.int .i64 0, .int .i64 0, .int .i64 0] 90))).mono ?_; rintro e w3 ⟨rfl, X3, Y3, c43⟩; have Z3 : Hid (TV w3 w2.heap.size (.int .i64 0) (.int .i64 0) (.int .i64 0)) := (V0.out w2).ext Y3.out; obtain ⟨⟨z0, z1, z2⟩, z3, z4, z5⟩ := Z3.out))
        all_goals
          go_wp2_with fail
          go_meet
          first | exact ⟨_, rfl, rfl, tv_at rfl, X3.out.alloc _⟩ | exact ⟨_, rfl, rfl, Z3.out.put _ _ _, X3.out.putT X2.out.size _ _ _⟩ | exact ⟨_, rfl, rfl, Z3.out.put _ _ _, X3.out.putT (Nat.le_refl _) _ _ _⟩
      case rest =>
        obtain ⟨g, rfl, rfl, hcut⟩ := hcut
        have HC : Hid (DV wc w.heap.size ⟨addr, id, wa, p0, st, fails, tried, left, bad⟩ ∧ DV wc (w.heap.size + 1) zeroD ∧ Ext w wc ∧ w.heap.size + 1 < wc.heap.size) := ⟨HK.out.1.ext hcut.out.2, HK.out.2.1.ext hcut.out.2, HK.out.2.2.1.trans hcut.out.2, by have := hcut.out.2.size; have := HK.out.2.2.2; omega⟩
        have c9 := HC.out.1
        have HT : Hid (∀ W an, Calls Try.prog 38 #[.agg #[.int .i64 m0, .int .i64 m1, .int .i64 m2], .bool want, .bool an] W fun e w' => e = .returned (.int .i64 (toV m0 m1 m2 want an)) ∧ Ext W w') := fun W an => to_any m0 m1 m2 want an W
        clear c0 c1 c2 c3 c4 c5 c6 c7 c8 HK hat hs
        obtain ⟨⟨c0, c1, c2, c3, c4, c5, c6, c7, c8⟩, _⟩ := c9
        simp only [Nat.zero_add] at c0 c1 c2 c3 c4 c5 c6 c7 c8
        obtain ⟨⟨t0, t1, t2⟩, _⟩ := hcut.out.1
        go_upto_region 5 with (go_at_call 38; refine (HT.out _ _).mono ?_; rintro e w4 ⟨rfl, x4⟩)
        have H4 : Hid (DV w4 w.heap.size ⟨addr, id, wa, p0, st, fails, tried, left, bad⟩ ∧ DV w4 (w.heap.size + 1) zeroD ∧ Ext w w4) := ⟨HC.out.1.ext x4, HC.out.2.1.ext x4, HC.out.2.2.1.trans x4⟩
        clear c0 c1 c2 c3 c4 c5 c6 c7 c8 HC t0 t1 t2 hcut x4 HT
        have c9 := H4.out.1
        obtain ⟨⟨c0, c1, c2, c3, c4, c5, c6, c7, c8⟩, f0, f1, f2, f3, f4, f5, f6, f7, f8⟩ := c9
        simp only [Nat.zero_add] at c0 c1 c2 c3 c4 c5 c6 c7 c8
        go_upto_region 6 with fail
        have H6 : Hid (DV ((w4.setCell ⟨w.heap.size, 2, none⟩ (.bool want)).setCell ⟨w.heap.size, 3, none⟩ (.int .i64 per)) w.heap.size ⟨addr, id, want, per, st, fails, tried, left, bad⟩ ∧ DV ((w4.setCell ⟨w.heap.size, 2, none⟩ (.bool want)).setCell ⟨w.heap.size, 3, none⟩ (.int .i64 per)) (w.heap.size + 1) zeroD ∧ Ext w ((w4.setCell ⟨w.heap.size, 2, none⟩ (.bool want)).setCell ⟨w.heap.size, 3, none⟩ (.int .i64 per))) := ⟨H4.out.1.wants want per, (H4.out.2.1.far (by omega) _ _).far (by omega) _ _, (H4.out.2.2.new (Nat.le_refl _) _ _).new (Nat.le_refl _) _ _⟩
        clear c0 c1 c2 c3 c4 c5 c6 c7 c8 f0 f1 f2 f3 f4 f5 f6 f7 f8 H4
        generalize ((w4.setCell ⟨w.heap.size, 2, none⟩ (.bool want)).setCell ⟨w.heap.size, 3, none⟩ (.int .i64 per)) = w6 at *
        obtain ⟨⟨c0, c1, c2, c3, c4, c5, c6, c7, c8⟩, f0, f1, f2, f3, f4, f5, f6, f7, f8⟩ := H6.out.1
        simp only [Nat.zero_add] at c0 c1 c2 c3 c4 c5 c6 c7 c8
        rw [eS2.out] at eS
        clear eS2
        generalize toV m0 m1 m2 want (per != p0) = s9 at *
        have n1 : w.heap.size ≠ w.heap.size + 1 := by omega
        have n2 : w.heap.size + 1 ≠ w.heap.size := by omega
        by_cases hs9 : s9 = st
        · have e9 : Hid (setD ⟨addr, id, wa, p0, st, fails, tried, left, bad⟩ want per = ⟨addr, id, want, per, st, fails, tried, left, bad⟩) := by show _ = _; rw [eS.out, if_pos hs9]
          clear eS
          subst hs9
          obtain ⟨⟨d0, d1, d2, d3, d4, d5, d6, d7, d8⟩, g0, g1, g2, g3, g4, g5, g6, g7, g8⟩ := H6.out.2.1
          simp only [Nat.zero_add, zeroD] at d0 d1 d2 d3 d4 d5 d6 d7 d8
          go_wp2_with fail
          have hx9 : Ext w (put9 w6 (w.heap.size + 1) ⟨addr, id, want, per, s9, fails, tried, left, bad⟩) := H6.out.2.2.put9 (Nat.le_succ _) _
          exact bodyPost_ret (v := .tuple #[drv ⟨addr, id, want, per, s9, fails, tried, left, bad⟩, .int .i64 0]) (by simp [results, Try.results14, go_sem, d0, d1, d2, d3, d4, d5, d6, d7, d8]) rfl ⟨by rw [e9.out], hx9⟩
        · have e9 : Hid (setD ⟨addr, id, wa, p0, st, fails, tried, left, bad⟩ want per = ⟨addr, id, want, per, s9, 0, tried, 0, bad⟩) := by show _ = _; rw [eS.out, if_neg hs9]; rfl
          have hb9 : (s9 != st) = true := by simp [hs9]
          have HE : Hid (∀ W, Calls Try.prog 39 #[drv ⟨addr, id, want, per, st, fails, tried, left, bad⟩, .int .i64 s9] W fun e w' => e = .returned (drv ⟨addr, id, want, per, s9, 0, tried, 0, bad⟩) ∧ Ext W w') := enter_any _ _
          clear eS hs9
          go_upto_region 8 with (go_at_call 39; refine (HE.out _).mono ?_; rintro e w7 ⟨rfl, x7⟩; clear c0 c1 c2 c3 c4 c5 c6 c7 c8 f0 f1 f2 f3 f4 f5 f6 f7 f8; obtain ⟨⟨c0, c1, c2, c3, c4, c5, c6, c7, c8⟩, f0, f1, f2, f3, f4, f5, f6, f7, f8⟩ := H6.out.1.ext x7; simp only [Nat.zero_add] at c0 c1 c2 c3 c4 c5 c6 c7 c8)
          have H8 : Hid (DV (put9 w7 w.heap.size ⟨addr, id, want, per, s9, 0, tried, 0, bad⟩) w.heap.size ⟨addr, id, want, per, s9, 0, tried, 0, bad⟩ ∧ DV (put9 w7 w.heap.size ⟨addr, id, want, per, s9, 0, tried, 0, bad⟩) (w.heap.size + 1) zeroD ∧ Ext w (put9 w7 w.heap.size ⟨addr, id, want, per, s9, 0, tried, 0, bad⟩)) := ⟨(H6.out.1.ext x7).put9 _, (H6.out.2.1.ext x7).far9 n1 _, (H6.out.2.2.trans x7).put9 (Nat.le_refl _) _⟩
          have ep : Hid (put9 w7 w.heap.size ⟨addr, id, want, per, s9, 0, tried, 0, bad⟩ = ((((((((w7.setCell ⟨w.heap.size, 0, none⟩ (.int .i64 addr)).setCell ⟨w.heap.size, 1, none⟩ (.int .i64 id)).setCell ⟨w.heap.size, 2, none⟩ (.bool want)).setCell ⟨w.heap.size, 3, none⟩ (.int .i64 per)).setCell ⟨w.heap.size, 4, none⟩ (.int .i64 s9)).setCell ⟨w.heap.size, 5, none⟩ (.int .i64 0)).setCell ⟨w.heap.size, 6, none⟩ (.bool tried)).setCell ⟨w.heap.size, 7, none⟩ (.int .i64 0)).setCell ⟨w.heap.size, 8, none⟩ (.int .i64 bad)) := rfl
          rw [← ep.out]
          clear c0 c1 c2 c3 c4 c5 c6 c7 c8 f0 f1 f2 f3 f4 f5 f6 f7 f8 H6 ep x7
          generalize put9 w7 w.heap.size ⟨addr, id, want, per, s9, 0, tried, 0, bad⟩ = w8 at *
          obtain ⟨⟨c0, c1, c2, c3, c4, c5, c6, c7, c8⟩, f0, f1, f2, f3, f4, f5, f6, f7, f8⟩ := H8.out.1
          simp only [Nat.zero_add] at c0 c1 c2 c3 c4 c5 c6 c7 c8
          obtain ⟨⟨d0, d1, d2, d3, d4, d5, d6, d7, d8⟩, g0, g1, g2, g3, g4, g5, g6, g7, g8⟩ := H8.out.2.1
          simp only [Nat.zero_add, zeroD] at d0 d1 d2 d3 d4 d5 d6 d7 d8
          go_wp2_with fail
          have hx9 : Ext w (put9 w8 (w.heap.size + 1) ⟨addr, id, want, per, s9, 0, tried, 0, bad⟩) := H8.out.2.2.put9 (Nat.le_succ _) _
          exact bodyPost_ret (v := .tuple #[drv ⟨addr, id, want, per, s9, 0, tried, 0, bad⟩, .int .i64 0]) (by simp [results, Try.results14, go_sem, d0, d1, d2, d3, d4, d5, d6, d7, d8]) rfl ⟨by rw [e9.out], hx9⟩
end Go.Proofs.Ytdfhhfpfnkjbnaa
