/- drv: Take. -/
import Derived.Test.YtdfhhfpfnkjbnaaDp
import Derived.Test.YtdfhhfpfnkjbnaaDe
namespace Go.Proofs.Ytdfhhfpfnkjbnaa
open Go.RowKit Go.Conc
theorem TV.blk {w w' : World} {g : Nat} {a b c : Value} (h : TV w g a b c) (e : w'.heap[g]? = w.heap[g]?) : TV w' g a b c := by
  have hc : ∀ o, w'.cell? ⟨g, o, none⟩ = w.cell? ⟨g, o, none⟩ := fun o => World.cell?_of_block (w := w) (w' := w') (a := ⟨g, o, none⟩) e
  have hf : ∀ o, w'.frozen? ⟨g, o, none⟩ = w.frozen? ⟨g, o, none⟩ := fun o => World.frozen?_of_block (w := w) (w' := w') (a := ⟨g, o, none⟩) e
  unfold TV at h ⊢
  simp only [hc, hf]
  exact h
theorem okD_f {d : Dr} (h : okD d = true) : 0 ≤ d.fails ∧ d.fails ≤ 2 := by
  unfold okD at h
  simp only [Bool.and_eq_true, inn_iff] at h
  exact h.1.1.2
abbrev noneV : Value := .tuple #[.agg #[.int .i64 0, .int .i64 0, .bool false, .int .i64 0, .int .i64 0, .int .i64 0, .bool false, .int .i64 0, .int .i64 0], .slice none 0 0, .bool false, .int .i64 1]
set_option maxRecDepth 20000 in
set_option maxHeartbeats 4000000 in
theorem take_bad (d : Dr) (hd : okD d = false ∨ inn d.st 1 7 = false) (ast : Int) (da : Option Addr) (n c : Nat) (w : World) : Calls Try.prog 19 #[drv d, .agg #[.int .i64 ast, .slice da n c]] w fun e w' => e = .returned noneV ∧ Ext w w' := by
  have HA : Hid (∀ W, Calls Try.prog 33 #[drv d] W fun e w' => e = .returned (.tuple #[.agg #[sA d.st, sF d.st, sT d.st], .bool (inn d.st 1 7)]) ∧ Ext W w') := asking_any d
  have HD : Hid (∀ W, Calls Try.prog 32 #[drv d] W fun e w' => e = .returned (.bool (okD d)) ∧ Ext W w') := isdriver_any d
  have o0 : ∀ a m w, (store a (sA d.st) m).run Try.prog w = stored Try.prog w a (sA d.st) m := fun a m w => run_store Try.prog w a _ m (sA_one d.st)
  have o1 : ∀ a m w, (store a (sF d.st) m).run Try.prog w = stored Try.prog w a (sF d.st) m := fun a m w => run_store Try.prog w a _ m (sF_one d.st)
  have o2 : ∀ a m w, (store a (sT d.st) m).run Try.prog w = stored Try.prog w a (sT d.st) m := fun a m w => run_store Try.prog w a _ m (sT_one d.st)
  have HB : Hid (okD d = false ∨ inn d.st 1 7 = false) := hd
  clear hd
  generalize hb0 : okD d = b0 at *
  generalize hb1 : inn d.st 1 7 = b1 at *
  clear hb0 hb1
  obtain ⟨addr, id, want, per, st, fails, tried, left, bad⟩ := d
  simp only at HA o0 o1 o2
  generalize sA st = a0 at *
  generalize sF st = a1 at *
  generalize sT st = a2 at *
  have V0 : Hid (DV ((((w.alloc (dro ⟨addr, id, want, per, st, fails, tried, left, bad⟩)).alloc (.cells #[.int .i64 ast, .slice da n c] 27)).alloc zro')) w.heap.size ⟨addr, id, want, per, st, fails, tried, left, bad⟩ ∧ DV ((((w.alloc (dro ⟨addr, id, want, per, st, fails, tried, left, bad⟩)).alloc (.cells #[.int .i64 ast, .slice da n c] 27)).alloc zro')) (w.heap.size + 1 + 1) zeroD ∧ Ext w ((((w.alloc (dro ⟨addr, id, want, per, st, fails, tried, left, bad⟩)).alloc (.cells #[.int .i64 ast, .slice da n c] 27)).alloc zro'))) := ⟨(dv_at rfl _).ext (((Ext.refl _).alloc _).alloc _), dv_at (by simp) zeroD, (((Ext.refl w).alloc _).alloc _).alloc _⟩
  go_enter Try.func19, Try.ntmps19
  go_upto_region 1 with fail
  generalize ((((w.alloc (dro ⟨addr, id, want, per, st, fails, tried, left, bad⟩)).alloc (.cells #[.int .i64 ast, .slice da n c] 27)).alloc zro')) = w1 at *
  obtain ⟨⟨c0, c1, c2, c3, c4, c5, c6, c7, c8⟩, _⟩ := V0.out.1
  simp only [Nat.zero_add] at c0 c1 c2 c3 c4 c5 c6 c7 c8
  go_upto_region 2 with (go_at_call 33; refine (HA.out _).mono ?_; rintro e w2 ⟨rfl, x2⟩)
  have V2 : Hid (DV (w2.alloc (.cells #[a0, a1, a2] 84)) w.heap.size ⟨addr, id, want, per, st, fails, tried, left, bad⟩ ∧ DV (w2.alloc (.cells #[a0, a1, a2] 84)) (w.heap.size + 1 + 1) zeroD ∧ Ext w (w2.alloc (.cells #[a0, a1, a2] 84))) := ⟨V0.out.1.ext (x2.alloc _), V0.out.2.1.ext (x2.alloc _), V0.out.2.2.trans (x2.alloc _)⟩
  clear c0 c1 c2 c3 c4 c5 c6 c7 c8 V0 x2 o0 o1 o2 HA
  generalize w2.heap.size = V at *
  generalize w2.alloc (.cells #[a0, a1, a2] 84) = w3 at *
  obtain ⟨⟨c0, c1, c2, c3, c4, c5, c6, c7, c8⟩, _⟩ := V2.out.1
  simp only [Nat.zero_add] at c0 c1 c2 c3 c4 c5 c6 c7 c8
  have hcase : b0 = false ∨ (b0 = true ∧ b1 = false) := by
    rcases HB.out with h | h
    · exact .inl h
    · cases b0
      · exact .inl rfl
      · exact .inr ⟨rfl, h⟩
  rcases hcase with rfl | ⟨rfl, rfl⟩
  all_goals
    go_wp2_with (go_at_call 32; refine (HD.out _).mono ?_; rintro e w4 ⟨rfl, x4⟩; obtain ⟨⟨d0, d1, d2, d3, d4, d5, d6, d7, d8⟩, f0, f1, f2, f3, f4, f5, f6, f7, f8⟩ := V2.out.2.1.ext x4; simp only [Nat.zero_add, zeroD] at d0 d1 d2 d3 d4 d5 d6 d7 d8)
    have hx9 : Ext w (put9 w4 (w.heap.size + 1 + 1) zeroD) := (V2.out.2.2.trans x4).put9 (by omega) _
    exact bodyPost_ret (v := noneV) (by simp [results, Try.results19, go_sem, d0, d1, d2, d3, d4, d5, d6, d7, d8]) rfl ⟨rfl, hx9⟩
set_option maxRecDepth 20000 in
set_option maxHeartbeats 8000000 in
theorem take_good (d : Dr) (hok : okD d = true) (hin : inn d.st 1 7 = true) (fa ff ft : FuncId) (sa : sA d.st = .func (.func fa) #[] #[]) (sf : sF d.st = .func (.func ff) #[] #[]) (st_ : sT d.st = .func (.func ft) #[] #[])
    (ea : ∀ args w, (callFunc fa args).run Try.prog w = .ok (.enter fa args) w) (ef : ∀ args w, (callFunc ff args).run Try.prog w = .ok (.enter ff args) w) (et : ∀ args w, (callFunc ft args).run Try.prog w = .ok (.enter ft args) w)
    (ast : Int) (da : Option Addr) (n c : Nat) (hn : n ≤ maxLen) (w : World) (rd : Int) (fb : Bool) (nx : Dr) (RW : World → Value → Prop) (hRW : ∀ W W' v, RW W v → Tn (fun k => k = w.heap.size + 1 + 1) W W' → RW W' v) (hRn : ∀ W, Ext w W → (decide (ast = 1) && (decide ((n : Int) = rd) && fb)) = false → RW W (.slice none 0 0))
    (HA : ∀ W, Calls Try.prog fa #[drv d] W fun e w' => ∃ reg a k c, e = .returned (txw d.addr reg a k c rd) ∧ Ext W w')
    (HF : (n : Int) = rd → ∀ W, Ext w W → Calls Try.prog ff #[drv d, .slice da n c] W fun e w' => e = .returned (.bool fb) ∧ Ext W w')
    (HT : (decide (ast = 1) && (decide ((n : Int) = rd) && fb)) = true → ∀ W, Ext w W → w.heap.size + 3 ≤ W.heap.size → Calls Try.prog ft #[drv d, .slice da n c] W fun e w' => ∃ v, e = .returned (.tuple #[drv nx, v]) ∧ RW w' v ∧ Ext W w') :
    Calls Try.prog 19 #[drv d, .agg #[.int .i64 ast, .slice da n c]] w fun e w' => ∃ v, e = .returned (.tuple #[drv (if (decide (ast = 1) && (decide ((n : Int) = rd) && fb)) = true then nx else missD d), v, .bool ((if (decide (ast = 1) && (decide ((n : Int) = rd) && fb)) = true then nx else missD d).st == 8), .int .i64 0]) ∧ RW w' v ∧ Ext w w' := by
  have HAs : Hid (∀ W, Calls Try.prog 33 #[drv d] W fun e w' => e = .returned (.tuple #[.agg #[.func (.func fa) #[] #[], .func (.func ff) #[] #[], .func (.func ft) #[] #[]], .bool true]) ∧ Ext W w') := fun W => by
    have h := asking_any d W
    rw [sa, sf, st_, hin] at h
    exact h
  have HD : Hid (∀ W, Calls Try.prog 32 #[drv d] W fun e w' => e = .returned (.bool true) ∧ Ext W w') := fun W => by
    have h := isdriver_any d W
    rw [hok] at h
    exact h
  have HI : Hid (∀ W, Ext w W → Calls Try.prog 45 #[drv d, .agg #[.func (.func fa) #[] #[], .func (.func ff) #[] #[], .func (.func ft) #[] #[]], .agg #[.int .i64 ast, .slice da n c]] W fun e w' => ∃ ch, e = .returned (.chan (some ch)) ∧ BoxIs w' ch (decide (ast = 1) && (decide ((n : Int) = rd) && fb)) (.slice da n c) ∧ W.heap.size ≤ ch ∧ Ext W w') := fun W x => inbox_any d fa ff ft ea ef ast da n c hn W rd fb HA (fun h W' x' => HF h W' (x.trans x'))
  have hf := (okD_f hok)
  have HM : Hid (∀ W, Calls Try.prog 46 #[drv d] W fun e w' => e = .returned (drv (missD d)) ∧ Ext W w') := missed_any d hf
  have HT2 : Hid ((decide (ast = 1) && (decide ((n : Int) = rd) && fb)) = true → ∀ W, Ext w W → w.heap.size + 3 ≤ W.heap.size → Calls Try.prog ft #[drv d, .slice da n c] W fun e w' => ∃ v, e = .returned (.tuple #[drv nx, v]) ∧ RW w' v ∧ Ext W w') := HT
  have ET : Hid (∀ args w, (callFunc ft args).run Try.prog w = .ok (.enter ft args) w) := et
  have HRW : Hid ((∀ W W' v, RW W v → Tn (fun k => k = w.heap.size + 1 + 1) W W' → RW W' v) ∧ (∀ W, Ext w W → (decide (ast = 1) && (decide ((n : Int) = rd) && fb)) = false → RW W (.slice none 0 0))) := ⟨hRW, hRn⟩
  clear HA HF HT ea ef et sa sf st_ hok hin hf hn hRW hRn
  have HYT0 : Hid ((decide (ast = 1) && (decide ((n : Int) = rd) && fb)) = true → (if (decide (ast = 1) && (decide ((n : Int) = rd) && fb)) = true then nx else missD d) = nx) := fun h => if_pos h
  have HYF0 : Hid ((decide (ast = 1) && (decide ((n : Int) = rd) && fb)) = false → (if (decide (ast = 1) && (decide ((n : Int) = rd) && fb)) = true then nx else missD d) = missD d) := fun h => if_neg (by rw [h]; exact Bool.false_ne_true)
  generalize (if (decide (ast = 1) && (decide ((n : Int) = rd) && fb)) = true then nx else missD d) = Y at *
  obtain ⟨addr, id, want, per, st, fails, tried, left, bad⟩ := d
  have V0 : Hid (DV ((((w.alloc (dro ⟨addr, id, want, per, st, fails, tried, left, bad⟩)).alloc (.cells #[.int .i64 ast, .slice da n c] 27)).alloc zro')) w.heap.size ⟨addr, id, want, per, st, fails, tried, left, bad⟩ ∧ DV ((((w.alloc (dro ⟨addr, id, want, per, st, fails, tried, left, bad⟩)).alloc (.cells #[.int .i64 ast, .slice da n c] 27)).alloc zro')) (w.heap.size + 1 + 1) zeroD ∧ Ext w ((((w.alloc (dro ⟨addr, id, want, per, st, fails, tried, left, bad⟩)).alloc (.cells #[.int .i64 ast, .slice da n c] 27)).alloc zro')) ∧ ((((w.alloc (dro ⟨addr, id, want, per, st, fails, tried, left, bad⟩)).alloc (.cells #[.int .i64 ast, .slice da n c] 27)).alloc zro')).cell? ⟨w.heap.size + 1, 0, none⟩ = some (.int .i64 ast) ∧ ((((w.alloc (dro ⟨addr, id, want, per, st, fails, tried, left, bad⟩)).alloc (.cells #[.int .i64 ast, .slice da n c] 27)).alloc zro')).cell? ⟨w.heap.size + 1, 1, none⟩ = some (.slice da n c) ∧ ((((w.alloc (dro ⟨addr, id, want, per, st, fails, tried, left, bad⟩)).alloc (.cells #[.int .i64 ast, .slice da n c] 27)).alloc zro')).heap.size = w.heap.size + 3) := ⟨(dv_at rfl _).ext (((Ext.refl _).alloc _).alloc _), dv_at (by simp) zeroD, (((Ext.refl w).alloc _).alloc _).alloc _, by simp [go_sem], by simp [go_sem], by simp⟩
  go_enter Try.func19, Try.ntmps19
  go_upto_region 1 with fail
  generalize ((((w.alloc (dro ⟨addr, id, want, per, st, fails, tried, left, bad⟩)).alloc (.cells #[.int .i64 ast, .slice da n c] 27)).alloc zro')) = w1 at *
  obtain ⟨⟨c0, c1, c2, c3, c4, c5, c6, c7, c8⟩, _⟩ := V0.out.1
  simp only [Nat.zero_add] at c0 c1 c2 c3 c4 c5 c6 c7 c8
  go_upto_region 2 with (go_at_call 33; refine (HAs.out _).mono ?_; rintro e w2 ⟨rfl, x2⟩)
  have T2 : Hid (TV (w2.alloc (.cells #[.func (.func fa) #[] #[], .func (.func ff) #[] #[], .func (.func ft) #[] #[]] 84)) w2.heap.size (.func (.func fa) #[] #[]) (.func (.func ff) #[] #[]) (.func (.func ft) #[] #[]) ∧ Ext w1 (w2.alloc (.cells #[.func (.func fa) #[] #[], .func (.func ff) #[] #[], .func (.func ft) #[] #[]] 84))) := ⟨tv_at rfl, x2.alloc _⟩
  clear c0 c1 c2 c3 c4 c5 c6 c7 c8 x2 HAs
  generalize w2.heap.size = V at *
  generalize w2.alloc (.cells #[.func (.func fa) #[] #[], .func (.func ff) #[] #[], .func (.func ft) #[] #[]] 84) = w3 at *
  have x3 := T2.out.2
  obtain ⟨⟨c0, c1, c2, c3, c4, c5, c6, c7, c8⟩, _⟩ := V0.out.1.ext x3
  simp only [Nat.zero_add] at c0 c1 c2 c3 c4 c5 c6 c7 c8
  go_upto_region 4 with (go_at_call 32; refine (HD.out _).mono ?_; rintro e w4 ⟨rfl, x4⟩)
  have X4 : Hid (Ext w1 w4) := x3.trans x4
  have T4 : Hid (TV w4 V (.func (.func fa) #[] #[]) (.func (.func ff) #[] #[]) (.func (.func ft) #[] #[])) := T2.out.1.ext x4
  clear c0 c1 c2 c3 c4 c5 c6 c7 c8 x3 x4 T2 HD
  obtain ⟨⟨c0, c1, c2, c3, c4, c5, c6, c7, c8⟩, _⟩ := V0.out.1.ext X4.out
  simp only [Nat.zero_add] at c0 c1 c2 c3 c4 c5 c6 c7 c8
  obtain ⟨⟨t0, t1, t2⟩, _⟩ := T4.out
  have k0 := X4.out.keepc V0.out.2.2.2.1
  have k1 := X4.out.keepc V0.out.2.2.2.2.1
  go_upto_region 5 with (go_at_call 45; refine (HI.out _ (V0.out.2.2.1.trans X4.out)).mono ?_; rintro e w5 ⟨ch, rfl, b5, l5, x5⟩)
  have X5 : Hid (Ext w1 w5) := X4.out.trans x5
  have T5 : Hid (TV w5 V (.func (.func fa) #[] #[]) (.func (.func ff) #[] #[]) (.func (.func ft) #[] #[])) := T4.out.ext x5
  have LV : Hid (V < w4.heap.size ∧ w1.heap.size ≤ w4.heap.size ∧ w4.heap.size ≤ ch) := ⟨T4.out.lt, X4.out.size, l5⟩
  clear c0 c1 c2 c3 c4 c5 c6 c7 c8 t0 t1 t2 k0 k1 x5 T4 X4 HI l5
  obtain ⟨G, hG⟩ : ∃ G, (decide (ast = 1) && (decide ((n : Int) = rd) && fb)) = G := ⟨_, rfl⟩
  have HG : Hid ((decide (ast = 1) && (decide ((n : Int) = rd) && fb)) = G) := hG
  rw [hG] at b5
  clear hG
  obtain ⟨s5, r5, hb5⟩ := b5
  cases G
  · refine wp_region_comm 0 _ rfl ?_
    simp only [List.take_zero, List.drop_succ_cons, List.drop_zero]
    refine wpStill_nil ⟨rfl, _, _, hands_default (c := ch) (z := .slice none 0 0) ?_ hb5, ?_⟩
    · simp [go_sem, execOp, rcase, Act.eval]
    still_step
    still_step
    refine wpStill_nil ?_
    have EM : Hid (∃ q, missD ⟨addr, id, want, per, st, fails, tried, left, bad⟩ = q) := ⟨_, rfl⟩
    obtain ⟨⟨qa, qi, qw, qp, qs, qf, qt, ql, qb⟩, hq⟩ := EM.out
    have HQ : Hid (missD ⟨addr, id, want, per, st, fails, tried, left, bad⟩ = ⟨qa, qi, qw, qp, qs, qf, qt, ql, qb⟩) := hq
    rw [hq] at HM
    clear hq EM hb5
    obtain ⟨⟨c0, c1, c2, c3, c4, c5, c6, c7, c8⟩, _⟩ := V0.out.1.ext X5.out
    simp only [Nat.zero_add] at c0 c1 c2 c3 c4 c5 c6 c7 c8
    go_upto_region 9 with (go_at_call 46; refine (HM.out _).mono ?_; rintro e w6 ⟨rfl, x6⟩; obtain ⟨⟨d0, d1, d2, d3, d4, d5, d6, d7, d8⟩, f0, f1, f2, f3, f4, f5, f6, f7, f8⟩ := V0.out.2.1.ext (X5.out.trans x6); simp only [Nat.zero_add, zeroD] at d0 d1 d2 d3 d4 d5 d6 d7 d8)
    have X6 : Hid (Ext w1 w6) := X5.out.trans x6
    have ep : Hid (put9 w6 (w.heap.size + 1 + 1) ⟨qa, qi, qw, qp, qs, qf, qt, ql, qb⟩ = ((((((((w6.setCell ⟨w.heap.size + 1 + 1, 0, none⟩ (.int .i64 qa)).setCell ⟨w.heap.size + 1 + 1, 1, none⟩ (.int .i64 qi)).setCell ⟨w.heap.size + 1 + 1, 2, none⟩ (.bool qw)).setCell ⟨w.heap.size + 1 + 1, 3, none⟩ (.int .i64 qp)).setCell ⟨w.heap.size + 1 + 1, 4, none⟩ (.int .i64 qs)).setCell ⟨w.heap.size + 1 + 1, 5, none⟩ (.int .i64 qf)).setCell ⟨w.heap.size + 1 + 1, 6, none⟩ (.bool qt)).setCell ⟨w.heap.size + 1 + 1, 7, none⟩ (.int .i64 ql)).setCell ⟨w.heap.size + 1 + 1, 8, none⟩ (.int .i64 qb)) := rfl
    rw [← ep.out]
    have V6 : Hid (DV (put9 w6 (w.heap.size + 1 + 1) ⟨qa, qi, qw, qp, qs, qf, qt, ql, qb⟩) (w.heap.size + 1 + 1) ⟨qa, qi, qw, qp, qs, qf, qt, ql, qb⟩ ∧ Ext w (put9 w6 (w.heap.size + 1 + 1) ⟨qa, qi, qw, qp, qs, qf, qt, ql, qb⟩)) := ⟨(V0.out.2.1.ext X6.out).put9 _, (V0.out.2.2.1.trans X6.out).put9 (by omega) _⟩
    have RV6 : Hid (∀ W, Ext w W → RW W (.slice none 0 0)) := fun W x => HRW.out.2 W x HG.out
    clear ep d0 d1 d2 d3 d4 d5 d6 d7 d8 f0 f1 f2 f3 f4 f5 f6 f7 f8
    generalize put9 w6 (w.heap.size + 1 + 1) ⟨qa, qi, qw, qp, qs, qf, qt, ql, qb⟩ = w7 at *
    obtain ⟨⟨d0, d1, d2, d3, d4, d5, d6, d7, d8⟩, f0, f1, f2, f3, f4, f5, f6, f7, f8⟩ := V6.out.1
    simp only [Nat.zero_add] at d0 d1 d2 d3 d4 d5 d6 d7 d8
    go_wp2_with fail
    have hx9 : Ext w (put9 w7 (w.heap.size + 1 + 1) ⟨qa, qi, qw, qp, qs, qf, qt, ql, qb⟩) := V6.out.2.put9 (by omega) _
    refine bodyPost_ret (v := .tuple #[drv ⟨qa, qi, qw, qp, qs, qf, qt, ql, qb⟩, .slice none 0 0, .bool (qs == 8), .int .i64 0]) (by simp [results, Try.results19, go_sem, d0, d1, d2, d3, d4, d5, d6, d7, d8]) rfl ⟨_, ?_, RV6.out _ hx9, hx9⟩
    have eF : Y = ⟨qa, qi, qw, qp, qs, qf, qt, ql, qb⟩ := (HYF0.out HG.out).trans HQ.out
    rw [eF]
  · have hb6 : w5.heap[ch]? = some (.chan 1 #[.slice da n c] false s5 r5 false) := hb5
    have HB6 : Hid (w5.heap[ch]? = some (.chan 1 #[.slice da n c] false s5 r5 false)) := hb6
    clear hb5
    have hE : Hid (Ext w (w5.setChan ch 1 #[] false s5 (r5 + 1) false)) := below_setChan (V0.out.2.2.1.trans X5.out) (by have := LV.out; have := V0.out.2.2.1.size; omega) _ _ _ _ _ _
    have hF : Hid (∀ k, k < w5.heap.size → k ≠ ch → (w5.setChan ch 1 #[] false s5 (r5 + 1) false).heap[k]? = w5.heap[k]?) := fun k _ hk => heap_setChan_far _ _ _ _ _ _ _ _ _ (Ne.symm hk)
    have NC : Hid (w.heap.size ≠ ch ∧ w.heap.size + 1 + 1 ≠ ch ∧ V ≠ ch) := by have := LV.out; have := V0.out.2.2.2.2.2; show _ ∧ _; omega
    refine wp_region_comm 0 _ rfl ?_
    simp only [List.take_zero, List.drop_succ_cons, List.drop_zero]
    refine wpStill_nil ⟨rfl, _, _, hands_recv (c := ch) (z := .slice none 0 0) ?_ hb6 (by simp), ?_⟩
    · simp [go_sem, execOp, rcase, Act.eval]
    have ebuf : (#[(.slice da n c : Value)].extract 1 #[(.slice da n c : Value)].size) = #[] := by simp
    rw [ebuf]
    have D6 : Hid (DV (w5.setChan ch 1 #[] false s5 (r5 + 1) false) (w.heap.size + 1 + 1) zeroD ∧ DV (w5.setChan ch 1 #[] false s5 (r5 + 1) false) w.heap.size ⟨addr, id, want, per, st, fails, tried, left, bad⟩ ∧ TV (w5.setChan ch 1 #[] false s5 (r5 + 1) false) V (.func (.func fa) #[] #[]) (.func (.func ff) #[] #[]) (.func (.func ft) #[] #[])) := by
      have z1 := V0.out.2.1.ext X5.out
      have z2 := V0.out.1.ext X5.out
      have z3 := T5.out
      exact ⟨z1.blk (hF.out _ z1.lt NC.out.2.1), z2.blk (hF.out _ z2.lt NC.out.1), z3.blk (hF.out _ z3.lt NC.out.2.2)⟩
    have LZ : Hid (w.heap.size + 3 ≤ (w5.setChan ch 1 #[] false s5 (r5 + 1) false).heap.size) := by show _ ≤ _; have h1 := X5.out.size; rw [V0.out.2.2.2.2.2] at h1; simp [World.setChan]; omega
    clear hb6 HB6 ebuf hF T5 NC LV
    generalize w5.setChan ch 1 #[] false s5 (r5 + 1) false = wz at *
    obtain ⟨⟨c0, c1, c2, c3, c4, c5, c6, c7, c8⟩, _⟩ := D6.out.2.1
    simp only [Nat.zero_add] at c0 c1 c2 c3 c4 c5 c6 c7 c8
    obtain ⟨⟨t0, t1, t2⟩, _⟩ := D6.out.2.2
    still_step
    still_step
    refine wpStill_nil ?_
    obtain ⟨⟨qa, qi, qw, qp, qs, qf, qt, ql, qb⟩, hq⟩ : ∃ q, nx = q := ⟨_, rfl⟩
    subst hq
    go_upto_region 8 with fail
    go_wp2_with fail
    rw [ET.out]
    refine (HT2.out HG.out _ hE.out LZ.out).mono ?_
    rintro e w6 ⟨v, rfl, rv6, x6⟩
    have RV0 : Hid (RW w6 v) := rv6
    have W6 : Hid (Ext w w6) := hE.out.trans x6
    have D6' : Hid (DV w6 (w.heap.size + 1 + 1) zeroD) := D6.out.1.ext x6
    obtain ⟨⟨d0, d1, d2, d3, d4, d5, d6, d7, d8⟩, f0, f1, f2, f3, f4, f5, f6, f7, f8⟩ := D6'.out
    simp only [Nat.zero_add, zeroD] at d0 d1 d2 d3 d4 d5 d6 d7 d8
    clear c0 c1 c2 c3 c4 c5 c6 c7 c8 t0 t1 t2 D6 rv6 x6 hE
    go_upto_region 9 with fail
    have ep : Hid (put9 w6 (w.heap.size + 1 + 1) ⟨qa, qi, qw, qp, qs, qf, qt, ql, qb⟩ = ((((((((w6.setCell ⟨w.heap.size + 1 + 1, 0, none⟩ (.int .i64 qa)).setCell ⟨w.heap.size + 1 + 1, 1, none⟩ (.int .i64 qi)).setCell ⟨w.heap.size + 1 + 1, 2, none⟩ (.bool qw)).setCell ⟨w.heap.size + 1 + 1, 3, none⟩ (.int .i64 qp)).setCell ⟨w.heap.size + 1 + 1, 4, none⟩ (.int .i64 qs)).setCell ⟨w.heap.size + 1 + 1, 5, none⟩ (.int .i64 qf)).setCell ⟨w.heap.size + 1 + 1, 6, none⟩ (.bool qt)).setCell ⟨w.heap.size + 1 + 1, 7, none⟩ (.int .i64 ql)).setCell ⟨w.heap.size + 1 + 1, 8, none⟩ (.int .i64 qb)) := rfl
    rw [← ep.out]
    have V6 : Hid (DV (put9 w6 (w.heap.size + 1 + 1) ⟨qa, qi, qw, qp, qs, qf, qt, ql, qb⟩) (w.heap.size + 1 + 1) ⟨qa, qi, qw, qp, qs, qf, qt, ql, qb⟩ ∧ Ext w (put9 w6 (w.heap.size + 1 + 1) ⟨qa, qi, qw, qp, qs, qf, qt, ql, qb⟩)) := ⟨D6'.out.put9 _, W6.out.put9 (by omega) _⟩
    have RV6 : Hid (RW (put9 w6 (w.heap.size + 1 + 1) ⟨qa, qi, qw, qp, qs, qf, qt, ql, qb⟩) v) := HRW.out.1 _ _ _ RV0.out (tn_put9 _ _ _)
    clear ep d0 d1 d2 d3 d4 d5 d6 d7 d8 f0 f1 f2 f3 f4 f5 f6 f7 f8
    generalize put9 w6 (w.heap.size + 1 + 1) ⟨qa, qi, qw, qp, qs, qf, qt, ql, qb⟩ = w7 at *
    obtain ⟨⟨d0, d1, d2, d3, d4, d5, d6, d7, d8⟩, f0, f1, f2, f3, f4, f5, f6, f7, f8⟩ := V6.out.1
    simp only [Nat.zero_add] at d0 d1 d2 d3 d4 d5 d6 d7 d8
    go_wp2_with fail
    have hx9 : Ext w (put9 w7 (w.heap.size + 1 + 1) ⟨qa, qi, qw, qp, qs, qf, qt, ql, qb⟩) := V6.out.2.put9 (by omega) _
    have rv9 : RW (put9 w7 (w.heap.size + 1 + 1) ⟨qa, qi, qw, qp, qs, qf, qt, ql, qb⟩) v := HRW.out.1 w7 (put9 w7 (w.heap.size + 1 + 1) ⟨qa, qi, qw, qp, qs, qf, qt, ql, qb⟩) v RV6.out (tn_put9 w7 (w.heap.size + 1 + 1) ⟨qa, qi, qw, qp, qs, qf, qt, ql, qb⟩)
    refine bodyPost_ret (v := .tuple #[drv ⟨qa, qi, qw, qp, qs, qf, qt, ql, qb⟩, v, .bool (qs == 8), .int .i64 0]) (by simp [results, Try.results19, go_sem, d0, d1, d2, d3, d4, d5, d6, d7, d8]) rfl ⟨_, ?_, rv9, hx9⟩
    have eF : Y = ⟨qa, qi, qw, qp, qs, qf, qt, ql, qb⟩ := HYT0.out HG.out
    rw [eF]
end Go.Proofs.Ytdfhhfpfnkjbnaa
