/- drv: what may be a driver; Check, New, Set. -/
import Derived.Test.YtdfhhfpfnkjbnaaDa
namespace Go.Proofs.Ytdfhhfpfnkjbnaa
open Go.RowKit Go.Conc
set_option maxRecDepth 20000 in
set_option maxHeartbeats 8000000 in
theorem isdriver_any (d : Dr) (w : World) : Calls Try.prog 32 #[drv d] w fun e w' => e = .returned (.bool (okD d)) ∧ Ext w w' := by
  have hx : Ext w (w.alloc (dro d)) := (Ext.refl w).alloc _
  have hd : DV (w.alloc (dro d)) w.heap.size d := dv_at rfl d
  have hs : w.heap.size < (w.alloc (dro d)).heap.size := by simp
  obtain ⟨addr, id, want, per, st, fails, tried, left, bad⟩ := d
  have HD : Hid (DV (w.alloc (dro ⟨addr, id, want, per, st, fails, tried, left, bad⟩)) w.heap.size ⟨addr, id, want, per, st, fails, tried, left, bad⟩) := hd
  clear hd
  go_enter Try.func32, Try.ntmps32
  go_upto_region 1 with fail
  generalize w.alloc (dro ⟨addr, id, want, per, st, fails, tried, left, bad⟩) = w1 at *
  obtain ⟨⟨c0, c1, c2, c3, c4, c5, c6, c7, c8⟩, _⟩ := HD.out
  simp only [Nat.zero_add] at c0 c1 c2 c3 c4 c5 c6 c7 c8
  go_cut [3, 4] (fun v3 v4 wx => (∃ p, v3 = .pointer p) ∧ v4 = .bool (inn st 0 8) ∧ Hid (Ext w1 wx))
  case first =>
    obtain ⟨m0, m1, m2, hm⟩ := mvr_form st
    have hat := atm_any st
    rw [hm] at hat
    have ne0 : w.heap.size ≠ w1.heap.size := by omega
    have HM : Hid (∀ W, Ext w1 W → Calls Try.prog 36 #[] W fun e w' => ∃ b, e = .returned (.slice (some ⟨b, 0, none⟩) 9 9) ∧ Hid (MT w' b) ∧ Hid (Ext w1 w') ∧ Hid (Ext W w') ∧ w'.cell? ⟨w.heap.size, 4, none⟩ = some (.int .i64 st)) := fun W x => (moves_any W).mono fun e w' ⟨b, h1, h2, h3⟩ => ⟨b, h1, h2, x.trans h3, h3, (x.trans h3).keepc c4⟩
    have HA : Hid (∀ b W, MT W b → Ext w1 W → Calls Try.prog 37 #[.slice (some ⟨b, 0, none⟩) 9 9, .int .i64 st] W fun e w' => e = .returned (.tuple #[.agg #[.int .i64 m0, .int .i64 m1, .int .i64 m2], .bool (inn st 0 8)]) ∧ Hid (Ext w1 w') ∧ Hid (Ext W w') ∧ w'.cell? ⟨w.heap.size, 4, none⟩ = some (.int .i64 st)) := fun b W h x => (hat b W h).mono fun e w' ⟨h1, h3⟩ => ⟨h1, x.trans h3, h3, (x.trans h3).keepc c4⟩
    have X1 : Hid (Ext w1 w1) := Ext.refl w1
    have V0 : Hid (∀ W : World, TV (W.alloc (.cells #[.int .i64 0, .int .i64 0, .int .i64 0] 90)) W.heap.size (.int .i64 0) (.int .i64 0) (.int .i64 0)) := fun W => tv_at rfl
    have LE : Hid (∀ W, Ext w1 W → w.heap.size ≠ W.heap.size ∧ W.heap.size ≠ w.heap.size) := fun W x => by have := x.size; have := ne0; have h4 := World.block_lt_of_cell? w1 ⟨w.heap.size, 4, none⟩ c4; simp only at h4; omega
    have L1 := LE.out w1 (Ext.refl _)
    obtain ⟨l1, l2⟩ := L1
    clear hm hat c0 c1 c2 c3 c5 c6 c7 c8 ne0
    go_region_held3 (fun w' => w'.cell? ⟨w.heap.size, 4, none⟩ = some (.int .i64 st)) (first | (go_keep; done) | skip) (first | (go_at_call 36; (with_reducible refine (HM.out _ X1.out.drew).mono ?_); rintro e w2 ⟨b2, rfl, T2, X2, Y2, c42⟩; obtain ⟨k1, k2⟩ := LE.out _ X2.out) | (go_at_call 36; refine (HM.out _ (X1.out.alloc (.cells #[.int .i64 0, .int .i64 0, .int .i64 0] 90)).drew).mono ?_; rintro e w2 ⟨b2, rfl, T2, X2, Y2, c42⟩; have Z2 : Hid (TV w2 w1.heap.size (.int .i64 0) (.int .i64 0) (.int .i64 0)) := (V0.out w1).ext (Ext.trans (Ext.refl (w1.alloc (.cells #[.int .i64 0, .int .i64 0, .int .i64 0] 90))).drew Y2.out); obtain ⟨⟨z0, z1, z2⟩, z3, z4, z5⟩ := Z2.out) | (go_at_call 37; (with_reducible refine (HA.out _ _ T2.out X2.out).mono ?_); rintro e w3 ⟨rfl, X3, Y3, c43⟩; have Z3 : Hid (TV w3 w1.heap.size (.int .i64 0) (.int .i64 0) (.int .i64 0)) := Z2.out.ext Y3.out; obtain ⟨⟨y0, y1, y2⟩, y3, y4, y5⟩ := Z3.out) | (go_at_call 37; (with_reducible refine (HA.out _ _ T2.out X2.out).mono ?_); rintro e w3 ⟨rfl, X3, Y3, c43⟩) | (go_at_call 37; refine (HA.out _ _ (T2.out.ext ((Ext.refl _).alloc (.cells #[.int .i64 0, .int .i64 0, .int .i64 0] 90))) (X2.out.alloc (.cells #[.int .i64 0, .int .i64 0, .int .i64 0] 90))).mono ?_; rintro e w3 ⟨rfl, X3, Y3, c43⟩; have Z3 : Hid (TV w3 w2.heap.size (.int .i64 0) (.int .i64 0) (.int .i64 0)) := (V0.out w2).ext Y3.out; obtain ⟨⟨z0, z1, z2⟩, z3, z4, z5⟩ := Z3.out))
    all_goals
      go_wp2_with fail
      go_meet
      first | exact ⟨⟨_, rfl⟩, rfl, X3.out.alloc _⟩ | exact ⟨⟨_, rfl⟩, rfl, X3.out.putT X2.out.size _ _ _⟩ | exact ⟨⟨_, rfl⟩, rfl, X3.out.putT (Nat.le_refl _) _ _ _⟩
  case rest =>
    obtain ⟨⟨p3, rfl⟩, rfl, hcut⟩ := hcut
    have HX : Hid (Ext w wc) := hx.trans hcut.out
    have HD1 := HD.out.ext hcut.out
    have DL : Hid (∀ W, Ext w1 W → D9 W w.heap.size 0 ⟨addr, id, want, per, st, fails, tried, left, bad⟩) := fun W x => (HD.out.ext x).1
    clear c0 c1 c2 c3 c4 c5 c6 c7 c8
    obtain ⟨⟨c0, c1, c2, c3, c4, c5, c6, c7, c8⟩, _⟩ := HD1
    simp only [Nat.zero_add] at c0 c1 c2 c3 c4 c5 c6 c7 c8
    have HA0 : Hid (∀ W, Calls Try.prog 56 #[.int .i64 addr] W fun e w' => e = .returned (.bool (inn addr 0 127)) ∧ w' = W) := isaddr_any addr
    have HA1 : Hid (∀ W, Calls Try.prog 57 #[.int .i64 id] W fun e w' => e = .returned (.bool (inn id 0 255)) ∧ w' = W) := isid_any id
    have HA2 : Hid (∀ W, Calls Try.prog 35 #[.int .i64 per] W fun e w' => e = .returned (.bool (inn per 1 250)) ∧ w' = W) := isperiod_any per
    have HA3 : Hid (∀ W, Calls Try.prog 58 #[drv ⟨addr, id, want, per, st, fails, tried, left, bad⟩] W fun e w' => e = .returned (.bool (okL ⟨addr, id, want, per, st, fails, tried, left, bad⟩)) ∧ Ext W w') := isleft_any _
    have ex : Hid (okD ⟨addr, id, want, per, st, fails, tried, left, bad⟩ = (inn addr 0 127 && inn id 0 255 && inn per 1 250 && inn st 0 8 && inn fails 0 2 && okL ⟨addr, id, want, per, st, fails, tried, left, bad⟩ && inn bad 0 1099511627776)) := rfl
    generalize okL ⟨addr, id, want, per, st, fails, tried, left, bad⟩ = bl at *
    generalize inn addr 0 127 = b0 at *
    generalize inn id 0 255 = b1 at *
    generalize inn per 1 250 = b2 at *
    generalize inn st 0 8 = b3 at *
    clear hx HD
    go_upto_region 2 with fail
    go_cut [5] (fun v5 wx => v5 = .bool (inn fails 0 2) ∧ wc = wx)
    case first =>
      by_cases f0 : 0 ≤ fails
      · by_cases f1 : fails < 3
        · have e : Hid (inn fails 0 2 = true) := inn_iff.2 ⟨f0, by omega⟩
          go_wp2_with fail
          go_meet
          rw [e.out]; exact ⟨rfl, rfl⟩
        · have e : Hid (inn fails 0 2 = false) := inn_not.2 (by omega)
          go_wp2_with fail
          go_meet
          rw [e.out]; exact ⟨rfl, rfl⟩
      · have e : Hid (inn fails 0 2 = false) := inn_not.2 (by omega)
        go_wp2_with fail
        go_meet
        rw [e.out]; exact ⟨rfl, rfl⟩
    case rest =>
      obtain ⟨rfl, rfl⟩ := hcut
      generalize inn fails 0 2 = b4 at *
      go_upto_region 3 with fail
      go_cut [6] (fun v6 wx => v6 = .bool (inn bad 0 1099511627776) ∧ wc = wx)
      case first =>
        by_cases f0 : 0 ≤ bad
        · by_cases f1 : bad ≤ 1099511627776
          · have e : Hid (inn bad 0 1099511627776 = true) := inn_iff.2 ⟨f0, f1⟩
            go_wp2_with fail
            go_meet
            rw [e.out]; exact ⟨rfl, rfl⟩
          · have e : Hid (inn bad 0 1099511627776 = false) := inn_not.2 (fun h => f1 h.2)
            go_wp2_with fail
            go_meet
            rw [e.out]; exact ⟨rfl, rfl⟩
        · have e : Hid (inn bad 0 1099511627776 = false) := inn_not.2 (fun h => f0 h.1)
          go_wp2_with fail
          go_meet
          rw [e.out]; exact ⟨rfl, rfl⟩
      case rest =>
        obtain ⟨rfl, rfl⟩ := hcut
        generalize inn bad 0 1099511627776 = b5 at *
        cases b0 <;> cases b1 <;> cases b2 <;> cases b3 <;> cases b4
        all_goals
          go_wp2_with (first | (go_at_call 56; refine (HA0.out _).mono ?_; rintro e wx ⟨rfl, hwx⟩; have hwy := hwx.symm; clear hwx; subst hwy) | (go_at_call 57; refine (HA1.out _).mono ?_; rintro e wx ⟨rfl, hwx⟩; have hwy := hwx.symm; clear hwx; subst hwy) | (go_at_call 35; refine (HA2.out _).mono ?_; rintro e wx ⟨rfl, hwx⟩; have hwy := hwx.symm; clear hwx; subst hwy) | (go_at_call 58; refine (HA3.out _).mono ?_; rintro e wx ⟨rfl, hwx⟩; cases bl))
        all_goals
          go_wp2_with fail
          go_ret
          rw [ex.out]
          first | exact ⟨rfl, HX.out⟩ | exact ⟨rfl, HX.out.trans hwx⟩
set_option maxHeartbeats 1000000 in
theorem checkd_any (d : Dr) (w : World) : Calls Try.prog 20 #[drv d] w fun e w' => e = .returned (.int .i64 (if okD d = true then 0 else 1)) ∧ Ext w w' := by
  have hx : Ext w (w.alloc (dro d)) := (Ext.refl w).alloc _
  have H := isdriver_any d (w.alloc (dro d))
  cases h : okD d <;> rw [h] at H
  · go_enter Try.func20, Try.ntmps20
    go_wp2_with (go_at_call 32; refine H.mono ?_; rintro e w2 ⟨rfl, x2⟩)
    go_ret
    exact ⟨rfl, hx.trans x2⟩
  · go_enter Try.func20, Try.ntmps20
    go_wp2_with (go_at_call 32; refine H.mono ?_; rintro e w2 ⟨rfl, x2⟩)
    go_ret
    exact ⟨rfl, hx.trans x2⟩
/-- in another state -/
def enterD (d : Dr) (s : Int) : Dr := { d with st := s, fails := 0, left := 0 }
theorem DV.blk {w w' : World} {b : Nat} {d : Dr} (h : DV w b d) (e : w'.heap[b]? = w.heap[b]?) : DV w' b d := by
  have hc : ∀ o, w'.cell? ⟨b, o, none⟩ = w.cell? ⟨b, o, none⟩ := fun o => World.cell?_of_block (w := w) (w' := w') (a := ⟨b, o, none⟩) e
  have hf : ∀ o, w'.frozen? ⟨b, o, none⟩ = w.frozen? ⟨b, o, none⟩ := fun o => World.frozen?_of_block (w := w) (w' := w') (a := ⟨b, o, none⟩) e
  unfold DV D9 F9 at h ⊢
  simp only [hc, hf]
  exact h
theorem DV.far {w : World} {b : Nat} {d : Dr} (h : DV w b d) {c : Nat} (hc : c ≠ b) (o : Nat) (v : Value) : DV (w.setCell ⟨c, o, none⟩ v) b d := h.blk (heap_setCell_far _ _ _ _ _ hc)
theorem DV.put9 {w : World} {b : Nat} {d : Dr} (h : DV w b d) (e : Dr) : DV (put9 w b e) b e := by
  obtain ⟨⟨h0, h1, h2, h3, h4, h5, h6, h7, h8⟩, f0, f1, f2, f3, f4, f5, f6, f7, f8⟩ := h
  simp only [Nat.zero_add] at h0 h1 h2 h3 h4 h5 h6 h7 h8
  refine ⟨⟨?_, ?_, ?_, ?_, ?_, ?_, ?_, ?_, ?_⟩, ?_, ?_, ?_, ?_, ?_, ?_, ?_, ?_, ?_⟩ <;> simp [Go.Proofs.Ytdfhhfpfnkjbnaa.put9, go_sem, h0, h1, h2, h3, h4, h5, h6, h7, h8, f0, f1, f2, f3, f4, f5, f6, f7, f8]
theorem DV.enter {w : World} {b : Nat} {d : Dr} (h : DV w b d) (s : Int) : DV (((w.setCell ⟨b, 4, none⟩ (.int .i64 s)).setCell ⟨b, 5, none⟩ (.int .i64 0)).setCell ⟨b, 7, none⟩ (.int .i64 0)) b (enterD d s) := by
  obtain ⟨⟨h0, h1, h2, h3, h4, h5, h6, h7, h8⟩, f0, f1, f2, f3, f4, f5, f6, f7, f8⟩ := h
  simp only [Nat.zero_add] at h0 h1 h2 h3 h4 h5 h6 h7 h8
  refine ⟨⟨?_, ?_, ?_, ?_, ?_, ?_, ?_, ?_, ?_⟩, ?_, ?_, ?_, ?_, ?_, ?_, ?_, ?_, ?_⟩ <;> simp [enterD, go_sem, h0, h1, h2, h3, h4, h5, h6, h7, h8, f0, f1, f2, f3, f4, f5, f6, f7, f8]
theorem DV.wants {w : World} {b : Nat} {d : Dr} (h : DV w b d) (want : Bool) (per : Int) : DV ((w.setCell ⟨b, 2, none⟩ (.bool want)).setCell ⟨b, 3, none⟩ (.int .i64 per)) b { d with want := want, per := per } := by
  obtain ⟨⟨h0, h1, h2, h3, h4, h5, h6, h7, h8⟩, f0, f1, f2, f3, f4, f5, f6, f7, f8⟩ := h
  simp only [Nat.zero_add] at h0 h1 h2 h3 h4 h5 h6 h7 h8
  refine ⟨⟨?_, ?_, ?_, ?_, ?_, ?_, ?_, ?_, ?_⟩, ?_, ?_, ?_, ?_, ?_, ?_, ?_, ?_, ?_⟩ <;> simp [go_sem, h0, h1, h2, h3, h4, h5, h6, h7, h8, f0, f1, f2, f3, f4, f5, f6, f7, f8]
set_option maxRecDepth 20000 in
set_option maxHeartbeats 1000000 in
theorem enter_any (d : Dr) (s : Int) (w : World) : Calls Try.prog 39 #[drv d, .int .i64 s] w fun e w' => e = .returned (drv (enterD d s)) ∧ Ext w w' := by
  obtain ⟨addr, id, want, per, st, fails, tried, left, bad⟩ := d
  have hx : Ext w (((w.alloc (dro (enterD ⟨addr, id, want, per, st, fails, tried, left, bad⟩ s)))).alloc (dro (enterD ⟨addr, id, want, per, st, fails, tried, left, bad⟩ s))) := ((Ext.refl w).alloc _).alloc _
  go_enter Try.func39, Try.ntmps39
  go_wp2
  exact bodyPost_ret (v := drv (enterD ⟨addr, id, want, per, st, fails, tried, left, bad⟩ s)) (by simp [results, Try.results39, go_sem, enterD]) rfl ⟨rfl, hx⟩
/-- the state that comes -/
def toV (a b c : Int) (want another : Bool) : Int := if want = true then (if another = true then b else a) else c
set_option maxRecDepth 20000 in
set_option maxHeartbeats 1000000 in
theorem to_any (a b c : Int) (want another : Bool) (w : World) : Calls Try.prog 38 #[.agg #[.int .i64 a, .int .i64 b, .int .i64 c], .bool want, .bool another] w fun e w' => e = .returned (.int .i64 (toV a b c want another)) ∧ Ext w w' := by
  have hx : Ext w (w.alloc (.cells #[.int .i64 a, .int .i64 b, .int .i64 c] 90)) := (Ext.refl w).alloc _
  cases want <;> cases another
  all_goals
    go_enter Try.func38, Try.ntmps38
    go_wp2
    go_ret
    exact ⟨rfl, hx⟩
/-- a new one -/
def newD (addr id : Int) : Dr := ⟨addr, id, false, 1, 0, 0, false, 0, 0⟩
set_option maxRecDepth 20000 in
set_option maxHeartbeats 1000000 in
theorem newdr_any (addr id : Int) (w : World) : Calls Try.prog 23 #[.int .i64 addr, .int .i64 id] w fun e w' => e = .returned (if okD (newD addr id) = true then .tuple #[drv (newD addr id), .int .i64 0] else .tuple #[drv zeroD, .int .i64 1]) ∧ Ext w w' := by
  have hx : Ext w ((w.alloc (dro zeroD)).alloc (dro (newD addr id))) := ((Ext.refl w).alloc _).alloc _
  have H := isdriver_any (newD addr id) ((w.alloc (dro zeroD)).alloc (dro (newD addr id)))
  have h1 : DV ((w.alloc (dro zeroD)).alloc (dro (newD addr id))) (w.heap.size + 1) (newD addr id) := dv_at (by simp) _
  have h0 : DV ((w.alloc (dro zeroD)).alloc (dro (newD addr id))) w.heap.size zeroD := (dv_at rfl zeroD).ext ((Ext.refl _).alloc _)
  have HH : Hid (DV ((w.alloc (dro zeroD)).alloc (dro (newD addr id))) (w.heap.size + 1) (newD addr id) ∧ DV ((w.alloc (dro zeroD)).alloc (dro (newD addr id))) w.heap.size zeroD) := ⟨h1, h0⟩
  clear h0 h1
  cases h : okD (newD addr id) <;> rw [h] at H
  · rw [if_neg (by simp)]
    go_enter Try.func23, Try.ntmps23
    go_upto_region 2 with fail
    have c9 := HH.out.1
    obtain ⟨⟨c0, c1, c2, c3, c4, c5, c6, c7, c8⟩, _⟩ := c9
    simp only [Nat.zero_add, newD] at c0 c1 c2 c3 c4 c5 c6 c7 c8
    go_wp2_with (go_at_call 32; refine H.mono ?_; rintro e w2 ⟨rfl, x2⟩; have y0 := HH.out.2.ext x2; obtain ⟨⟨d0, d1, d2, d3, d4, d5, d6, d7, d8⟩, f0, f1, f2, f3, f4, f5, f6, f7, f8⟩ := y0; simp only [Nat.zero_add, zeroD] at d0 d1 d2 d3 d4 d5 d6 d7 d8)
    have hx9 : Ext w (put9 w2 w.heap.size zeroD) := (hx.trans x2).put9 (Nat.le_refl _) _
    exact bodyPost_ret (v := .tuple #[drv zeroD, .int .i64 1]) (by simp [results, Try.results23, go_sem, zeroD, d0, d1, d2, d3, d4, d5, d6, d7, d8]) rfl ⟨rfl, hx9⟩
  · rw [if_pos rfl]
    go_enter Try.func23, Try.ntmps23
    go_upto_region 2 with fail
    have c9 := HH.out.1
    obtain ⟨⟨c0, c1, c2, c3, c4, c5, c6, c7, c8⟩, _⟩ := c9
    simp only [Nat.zero_add, newD] at c0 c1 c2 c3 c4 c5 c6 c7 c8
    go_wp2_with (go_at_call 32; refine H.mono ?_; rintro e w2 ⟨rfl, x2⟩; have y1 := HH.out.1.ext x2; have y0 := HH.out.2.ext x2; obtain ⟨⟨d0, d1, d2, d3, d4, d5, d6, d7, d8⟩, f0, f1, f2, f3, f4, f5, f6, f7, f8⟩ := y0; simp only [Nat.zero_add, zeroD] at d0 d1 d2 d3 d4 d5 d6 d7 d8; obtain ⟨⟨e0, e1, e2, e3, e4, e5, e6, e7, e8⟩, _⟩ := y1; simp only [Nat.zero_add, newD] at e0 e1 e2 e3 e4 e5 e6 e7 e8)
    have hx9 : Ext w (put9 w2 w.heap.size (newD addr id)) := (hx.trans x2).put9 (Nat.le_refl _) _
    exact bodyPost_ret (v := .tuple #[drv (newD addr id), .int .i64 0]) (by simp [results, Try.results23, go_sem, newD, d0, d1, d2, d3, d4, d5, d6, d7, d8]) rfl ⟨rfl, hx9⟩
end Go.Proofs.Ytdfhhfpfnkjbnaa
