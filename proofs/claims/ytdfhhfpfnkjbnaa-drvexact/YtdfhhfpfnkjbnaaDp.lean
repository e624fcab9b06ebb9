/- drv: missed, inbox. -/
import Derived.Test.YtdfhhfpfnkjbnaaDo
import Derived.Laws.EntriesVeiled
namespace Go.Proofs.Ytdfhhfpfnkjbnaa
open Go.RowKit Go.Conc
set_option maxRecDepth 20000 in
set_option maxHeartbeats 4000000 in
theorem missed_any (d : Dr) (hf : 0 ≤ d.fails ∧ d.fails ≤ 2) (w : World) : Calls Try.prog 46 #[drv d] w fun e w' => e = .returned (drv (missD d)) ∧ Ext w w' := by
  obtain ⟨addr, id, want, per, st, fails, tried, left, bad⟩ := d
  obtain ⟨f1, f2⟩ := hf
  simp only at f1 f2
  have hx : Ext w ((w.alloc (dro ⟨addr, id, want, per, st, fails, tried, left, bad⟩)).alloc zro') := ((Ext.refl w).alloc _).alloc _
  have hz : Hid (DV ((w.alloc (dro ⟨addr, id, want, per, st, fails, tried, left, bad⟩)).alloc zro') (w.heap.size + 1) zeroD) := dv_at (by simp) zeroD
  have hx2 : Ext w ((w.alloc (dro ⟨addr, id, want, per, st, fails + 1, tried, left, bad⟩)).alloc zro') := ((Ext.refl w).alloc _).alloc _
  have hz2 : Hid (DV ((w.alloc (dro ⟨addr, id, want, per, st, fails + 1, tried, left, bad⟩)).alloc zro') (w.heap.size + 1) zeroD) := dv_at (by simp) zeroD
  by_cases h7 : st = 7
  · subst h7
    have H : Hid (∀ W, Calls Try.prog 39 #[drv ⟨addr, id, want, per, 7, fails, tried, left, bad⟩, .int .i64 8] W fun e w' => e = .returned (drv ⟨addr, id, want, per, 8, 0, tried, 0, bad⟩) ∧ Ext W w') := enter_any _ _
    go_enter Try.func46, Try.ntmps46
    go_wp2_with (go_at_call 39; refine (H.out _).mono ?_; rintro e w2 ⟨rfl, x2⟩; obtain ⟨⟨d0, d1, d2, d3, d4, d5, d6, d7, d8⟩, g0, g1, g2, g3, g4, g5, g6, g7, g8⟩ := hz.out.ext x2; simp only [Nat.zero_add, zeroD] at d0 d1 d2 d3 d4 d5 d6 d7 d8)
    have hx9 : Ext w (put9 w2 (w.heap.size + 1) ⟨addr, id, want, per, 8, 0, tried, 0, bad⟩) := (hx.trans x2).put9 (Nat.le_succ _) _
    exact bodyPost_ret (v := drv ⟨addr, id, want, per, 8, 0, tried, 0, bad⟩) (by simp [results, Try.results46, go_sem, d0, d1, d2, d3, d4, d5, d6, d7, d8]) rfl ⟨rfl, hx9⟩
  · have h7b : (st == 7) = false := beq_eq_false_iff_ne.2 h7
    by_cases h3 : fails + 1 < 3
    · have e : Hid (missD ⟨addr, id, want, per, st, fails, tried, left, bad⟩ = ⟨addr, id, want, per, st, fails + 1, tried, left, bad⟩) := by show _ = _; unfold missD; rw [if_neg h7, if_pos h3]
      have hx9 : Ext w ((w.alloc (dro ⟨addr, id, want, per, st, fails + 1, tried, left, bad⟩)).alloc (dro ⟨addr, id, want, per, st, fails + 1, tried, left, bad⟩)) := ((Ext.refl w).alloc _).alloc _
      go_enter Try.func46, Try.ntmps46
      go_wp2_with fail
      exact bodyPost_ret (v := drv ⟨addr, id, want, per, st, fails + 1, tried, left, bad⟩) (by simp [results, Try.results46, go_sem]) rfl ⟨by rw [e.out], hx9⟩
    · cases tried with
      | true =>
        have e : Hid (missD ⟨addr, id, want, per, st, fails, true, left, bad⟩ = ⟨addr, id, want, per, 8, 0, true, 0, bad⟩) := by show _ = _; unfold missD; rw [if_neg h7, if_neg h3]; rfl
        have H : Hid (∀ W, Calls Try.prog 39 #[drv ⟨addr, id, want, per, st, fails + 1, true, left, bad⟩, .int .i64 8] W fun e w' => e = .returned (drv ⟨addr, id, want, per, 8, 0, true, 0, bad⟩) ∧ Ext W w') := enter_any _ _
        have h3i : ¬ fails + 1 < 3 := h3
        go_enter Try.func46, Try.ntmps46
        go_wp2_with (go_at_call 39; refine (H.out _).mono ?_; rintro e w2 ⟨rfl, x2⟩; obtain ⟨⟨d0, d1, d2, d3, d4, d5, d6, d7, d8⟩, g0, g1, g2, g3, g4, g5, g6, g7, g8⟩ := hz2.out.ext x2; simp only [Nat.zero_add, zeroD] at d0 d1 d2 d3 d4 d5 d6 d7 d8)
        have hx9 : Ext w (put9 w2 (w.heap.size + 1) ⟨addr, id, want, per, 8, 0, true, 0, bad⟩) := (hx2.trans x2).put9 (Nat.le_succ _) _
        exact bodyPost_ret (v := drv ⟨addr, id, want, per, 8, 0, true, 0, bad⟩) (by simp [results, Try.results46, go_sem, d0, d1, d2, d3, d4, d5, d6, d7, d8]) rfl ⟨by rw [e.out], hx9⟩
      | false =>
        have e : Hid (missD ⟨addr, id, want, per, st, fails, false, left, bad⟩ = ⟨addr, id, want, per, 7, 0, false, 0, bad⟩) := by show _ = _; unfold missD; rw [if_neg h7, if_neg h3]; rfl
        have H : Hid (∀ W, Calls Try.prog 39 #[drv ⟨addr, id, want, per, st, fails + 1, false, left, bad⟩, .int .i64 7] W fun e w' => e = .returned (drv ⟨addr, id, want, per, 7, 0, false, 0, bad⟩) ∧ Ext W w') := enter_any _ _
        have h3i : ¬ fails + 1 < 3 := h3
        go_enter Try.func46, Try.ntmps46
        go_wp2_with (go_at_call 39; refine (H.out _).mono ?_; rintro e w2 ⟨rfl, x2⟩; obtain ⟨⟨d0, d1, d2, d3, d4, d5, d6, d7, d8⟩, g0, g1, g2, g3, g4, g5, g6, g7, g8⟩ := hz2.out.ext x2; simp only [Nat.zero_add, zeroD] at d0 d1 d2 d3 d4 d5 d6 d7 d8)
        have hx9 : Ext w (put9 w2 (w.heap.size + 1) ⟨addr, id, want, per, 7, 0, false, 0, bad⟩) := (hx2.trans x2).put9 (Nat.le_succ _) _
        exact bodyPost_ret (v := drv ⟨addr, id, want, per, 7, 0, false, 0, bad⟩) (by simp [results, Try.results46, go_sem, d0, d1, d2, d3, d4, d5, d6, d7, d8]) rfl ⟨by rw [e.out], hx9⟩
theorem mkbox (w : World) : (Instr.makeChan 128 (.int .i64 1)).run Try.prog w = .ok (.chan (some w.heap.size)) (w.alloc (.chan 1 #[] false 0 0 false)) := by
  have h : (Try.prog.info? 25).map (fun i => i.bytes) = some 24 := by kernel_rfl
  obtain ⟨i, hi, hb⟩ := Option.map_eq_some_iff.1 h
  exact run_makeChan (P := Try.prog) (w := w) Try.underlying128 hi .i64 1 (by omega) (by rw [hb]; omega)
/-- the box: full or empty -/
def BoxIs (w : World) (ch : Nat) (b : Bool) (v : Value) : Prop := ∃ s r, w.heap[ch]? = some (.chan 1 (if b = true then #[v] else #[]) false s r false)
set_option maxRecDepth 20000 in
set_option maxHeartbeats 4000000 in
theorem inbox_any (d : Dr) (fa ff ft : FuncId) (ea : ∀ args w, (callFunc fa args).run Try.prog w = .ok (.enter fa args) w) (ef : ∀ args w, (callFunc ff args).run Try.prog w = .ok (.enter ff args) w) (ast : Int) (da : Option Addr) (n c : Nat) (_hn : n ≤ maxLen) (w : World) (rd : Int) (fb : Bool)
    (HA : ∀ W, Calls Try.prog fa #[drv d] W fun e w' => ∃ reg a k c, e = .returned (txw d.addr reg a k c rd) ∧ Ext W w')
    (HF : (n : Int) = rd → ∀ W, Ext w W → Calls Try.prog ff #[drv d, .slice da n c] W fun e w' => e = .returned (.bool fb) ∧ Ext W w') :
    Calls Try.prog 45 #[drv d, .agg #[.func (.func fa) #[] #[], .func (.func ff) #[] #[], .func (.func ft) #[] #[]], .agg #[.int .i64 ast, .slice da n c]] w fun e w' => ∃ ch, e = .returned (.chan (some ch)) ∧ BoxIs w' ch (decide (ast = 1) && (decide ((n : Int) = rd) && fb)) (.slice da n c) ∧ w.heap.size ≤ ch ∧ Ext w w' := by
  obtain ⟨addr, id, want, per, st, fails, tried, left, bad⟩ := d
  have hmk := mkbox
  have hfd : ∀ (x y : Int) (a : Option Addr) (k c : Nat) (r : Int) (w : World), (Instr.field 31 (txw x y a k c r) 3).run Try.prog w = .ok (.int .i64 r) w := fun _ _ _ _ _ _ _ => rfl
  unfold maxLen at _hn
  have hx : Ext w ((((w.alloc (dro ⟨addr, id, want, per, st, fails, tried, left, bad⟩)).alloc (.cells #[.func (.func fa) #[] #[], .func (.func ff) #[] #[], .func (.func ft) #[] #[]] 84)).alloc (.cells #[.int .i64 ast, .slice da n c] 27)).alloc (.chan 1 #[] false 0 0 false)) := (((((Ext.refl w).alloc _).alloc _).alloc _).alloc _)
  have hcell : Hid (∀ W, Ext ((((w.alloc (dro ⟨addr, id, want, per, st, fails, tried, left, bad⟩)).alloc (.cells #[.func (.func fa) #[] #[], .func (.func ff) #[] #[], .func (.func ft) #[] #[]] 84)).alloc (.cells #[.int .i64 ast, .slice da n c] 27)).alloc (.chan 1 #[] false 0 0 false)) W → (W.cell? ⟨w.heap.size, 0, none⟩ = some (.int .i64 addr) ∧ W.cell? ⟨w.heap.size, 1, none⟩ = some (.int .i64 id) ∧ W.cell? ⟨w.heap.size, 2, none⟩ = some (.bool want) ∧ W.cell? ⟨w.heap.size, 3, none⟩ = some (.int .i64 per) ∧ W.cell? ⟨w.heap.size, 4, none⟩ = some (.int .i64 st) ∧ W.cell? ⟨w.heap.size, 5, none⟩ = some (.int .i64 fails) ∧ W.cell? ⟨w.heap.size, 6, none⟩ = some (.bool tried) ∧ W.cell? ⟨w.heap.size, 7, none⟩ = some (.int .i64 left) ∧ W.cell? ⟨w.heap.size, 8, none⟩ = some (.int .i64 bad)) ∧ (W.cell? ⟨w.heap.size + 1, 0, none⟩ = some (.func (.func fa) #[] #[]) ∧ W.cell? ⟨w.heap.size + 1, 1, none⟩ = some (.func (.func ff) #[] #[])) ∧ W.cell? ⟨w.heap.size + 1 + 1, 0, none⟩ = some (.int .i64 ast) ∧ W.cell? ⟨w.heap.size + 1 + 1, 1, none⟩ = some (.slice da n c)) := fun W x => by
    refine ⟨⟨x.keepc ?_, x.keepc ?_, x.keepc ?_, x.keepc ?_, x.keepc ?_, x.keepc ?_, x.keepc ?_, x.keepc ?_, x.keepc ?_⟩, ⟨x.keepc ?_, x.keepc ?_⟩, x.keepc ?_, x.keepc ?_⟩ <;> simp [go_sem]
  have hch : Hid (((((w.alloc (dro ⟨addr, id, want, per, st, fails, tried, left, bad⟩)).alloc (.cells #[.func (.func fa) #[] #[], .func (.func ff) #[] #[], .func (.func ft) #[] #[]] 84)).alloc (.cells #[.int .i64 ast, .slice da n c] 27)).alloc (.chan 1 #[] false 0 0 false)).heap[w.heap.size + 1 + 1 + 1]? = some (.chan 1 #[] false 0 0 false)) := by show _ = _; rw [show w.heap.size + 1 + 1 + 1 = (((w.alloc (dro ⟨addr, id, want, per, st, fails, tried, left, bad⟩)).alloc (.cells #[.func (.func fa) #[] #[], .func (.func ff) #[] #[], .func (.func ft) #[] #[]] 84)).alloc (.cells #[.int .i64 ast, .slice da n c] 27)).heap.size by simp]; exact heap_alloc_new _ _
  have EA : Hid (∀ args w, (callFunc fa args).run Try.prog w = .ok (.enter fa args) w) := ea
  have EF : Hid (∀ args w, (callFunc ff args).run Try.prog w = .ok (.enter ff args) w) := ef
  clear ea ef
  go_enter Try.func45, Try.ntmps45
  go_upto_region 2 with fail
  generalize ((((w.alloc (dro ⟨addr, id, want, per, st, fails, tried, left, bad⟩)).alloc (.cells #[.func (.func fa) #[] #[], .func (.func ff) #[] #[], .func (.func ft) #[] #[]] 84)).alloc (.cells #[.int .i64 ast, .slice da n c] 27)).alloc (.chan 1 #[] false 0 0 false)) = w1 at *
  go_cut [30] (fun v wx => v = .bool (decide (ast = 1) && (decide ((n : Int) = rd) && fb)) ∧ Hid (Ext w1 wx))
  case first =>
    obtain ⟨⟨c0, c1, c2, c3, c4, c5, c6, c7, c8⟩, ⟨s0, s1⟩, a0, a1⟩ := hcell.out w1 (Ext.refl _)
    by_cases hs : ast = 1
    · subst hs
      clear c0 c1 c2 c3 c4 c5 c6 c7 c8 s0 s1 a0 a1
      refine wp_region_held_drew (S := fun w' => (w'.cell? ⟨w.heap.size, 0, none⟩ = some (.int .i64 addr) ∧ w'.cell? ⟨w.heap.size, 1, none⟩ = some (.int .i64 id) ∧ w'.cell? ⟨w.heap.size, 2, none⟩ = some (.bool want) ∧ w'.cell? ⟨w.heap.size, 3, none⟩ = some (.int .i64 per) ∧ w'.cell? ⟨w.heap.size, 4, none⟩ = some (.int .i64 st) ∧ w'.cell? ⟨w.heap.size, 5, none⟩ = some (.int .i64 fails) ∧ w'.cell? ⟨w.heap.size, 6, none⟩ = some (.bool tried) ∧ w'.cell? ⟨w.heap.size, 7, none⟩ = some (.int .i64 left) ∧ w'.cell? ⟨w.heap.size, 8, none⟩ = some (.int .i64 bad)) ∧ (w'.cell? ⟨w.heap.size + 1, 0, none⟩ = some (.func (.func fa) #[] #[]) ∧ w'.cell? ⟨w.heap.size + 1, 1, none⟩ = some (.func (.func ff) #[] #[])) ∧ w'.cell? ⟨w.heap.size + 1 + 1, 0, none⟩ = some (.int .i64 1) ∧ w'.cell? ⟨w.heap.size + 1 + 1, 1, none⟩ = some (.slice da n c)) (by kernel_rfl) ?_ (fun hHeld => ?_)
      · exact hcell.out _ (Ext.refl _).drew
      refine wpAnyH_take (i := 0) (v := .pointer (some ⟨w.heap.size + 1 + 1, 0, none⟩)) rfl (by kernel_rfl) (by kernel_rfl) (by kernel_rfl) (fun _ _ _ h => h) (Or.inl ⟨by rfl, ?_⟩) (by assumption) ?_
      · (intro w hSw; (try dsimp only at hSw); go_simp)
      go_simp
      refine wpAnyH_take (i := 1) (v := .int .i64 1) rfl (by kernel_rfl) (by kernel_rfl) (by kernel_rfl) (fun _ _ _ h => h) (Or.inl ⟨by rfl, ?_⟩) (by assumption) ?_
      · (intro w hSw; (try dsimp only at hSw); go_simp)
      go_simp
      refine wpAnyH_take (i := 2) (v := .bool true) rfl (by kernel_rfl) (by kernel_rfl) (by kernel_rfl) (fun _ _ _ h => h) (Or.inl ⟨by rfl, ?_⟩) (by assumption) ?_
      · (intro w hSw; (try dsimp only at hSw); go_simp)
      go_simp
      refine wpAnyH_take (i := 3) (v := .bool true) rfl (by kernel_rfl) (by kernel_rfl) (by kernel_rfl) (fun _ _ _ h => h) (Or.inl ⟨by rfl, ?_⟩) (by assumption) ?_
      · (intro w hSw; (try dsimp only at hSw); go_simp)
      go_simp
      refine wpAnyH_take (i := 4) (v := .pointer (some ⟨w.heap.size + 1 + 1, 1, none⟩)) rfl (by kernel_rfl) (by kernel_rfl) (by kernel_rfl) (fun _ _ _ h => h) (Or.inl ⟨by rfl, ?_⟩) (by assumption) ?_
      · (intro w hSw; (try dsimp only at hSw); go_simp)
      go_simp
      refine wpAnyH_take (i := 5) (v := .slice da n c) rfl (by kernel_rfl) (by kernel_rfl) (by kernel_rfl) (fun _ _ _ h => h) (Or.inl ⟨by rfl, ?_⟩) (by assumption) ?_
      · (intro w hSw; (try dsimp only at hSw); go_simp)
      go_simp
      refine wpAnyH_take (i := 6) (v := .int .i64 n) rfl (by kernel_rfl) (by kernel_rfl) (by kernel_rfl) (fun _ _ _ h => h) (Or.inl ⟨by rfl, ?_⟩) (by assumption) ?_
      · (intro w hSw; (try dsimp only at hSw); go_simp)
      go_simp
      refine wpAnyH_take (i := 7) (v := .pointer (some ⟨w.heap.size + 1, 0, none⟩)) rfl (by kernel_rfl) (by kernel_rfl) (by kernel_rfl) (fun _ _ _ h => h) (Or.inl ⟨by rfl, ?_⟩) (by assumption) ?_
      · (intro w hSw; (try dsimp only at hSw); go_simp)
      go_simp
      refine wpAnyH_take (i := 8) (v := .func (.func fa) #[] #[]) rfl (by kernel_rfl) (by kernel_rfl) (by kernel_rfl) (fun _ _ _ h => h) (Or.inl ⟨by rfl, ?_⟩) (by assumption) ?_
      · (intro w hSw; (try dsimp only at hSw); go_simp)
      go_simp
      refine wpAnyH_take (i := 9) (v := drv ⟨addr, id, want, per, st, fails, tried, left, bad⟩) rfl (by kernel_rfl) (by kernel_rfl) (by kernel_rfl) (fun _ _ _ h => h) (Or.inl ⟨by rfl, ?_⟩) (by assumption) ?_
      · (intro w hSw; (try dsimp only at hSw); go_simp)
      go_simp
      refine wpAnyH_ready (rs := [10]) (by kernel_rfl) (by simp) ?_
      refine AllReadyH.cons rfl (fun K hK => ?_) AllReadyH.nil
      go_simp
      rw [EA.out]
      refine (HA _).mono ?_
      rintro e w2 ⟨reg, ta, tk, tc, rfl, x2⟩
      have X2 : Ext w1 w2 := (Ext.refl w1).drew.trans x2
      go_wp2_with fail
      refine hK.out _ _ ?_ (fun hHeld => ?_)
      · exact hcell.out _ X2
      clear hK K x2
      by_cases hr : (n : Int) = rd
      · subst hr
        have e9 : Hid (decide ((n : Int) = (n : Int)) = true) := decide_eq_true rfl
        have HFF := HF rfl
        clear HF
        refine wpAnyH_take (i := 11) (v := .int .i64 n) rfl (by kernel_rfl) (by kernel_rfl) (by kernel_rfl) (fun _ _ _ h => h) (Or.inl ⟨by rfl, ?_⟩) (by assumption) ?_
        · (intro w hSw; (try dsimp only at hSw); go_simp)
        go_simp
        refine wpAnyH_take (i := 12) (v := .bool true) rfl (by kernel_rfl) (by kernel_rfl) (by kernel_rfl) (fun _ _ _ h => h) (Or.inl ⟨by rfl, ?_⟩) (by assumption) ?_
        · (intro w hSw; (try dsimp only at hSw); go_simp)
        go_simp
        refine wpAnyH_take (i := 13) (v := .bool true) rfl (by kernel_rfl) (by kernel_rfl) (by kernel_rfl) (fun _ _ _ h => h) (Or.inl ⟨by rfl, ?_⟩) (by assumption) ?_
        · (intro w hSw; (try dsimp only at hSw); go_simp)
        go_simp
        refine wpAnyH_take (i := 14) (v := .bool true) rfl (by kernel_rfl) (by kernel_rfl) (by kernel_rfl) (fun _ _ _ h => h) (Or.inl ⟨by rfl, ?_⟩) (by assumption) ?_
        · (intro w hSw; (try dsimp only at hSw); go_simp)
        go_simp
        refine wpAnyH_take (i := 15) (v := .pointer (some ⟨w.heap.size + 1, 1, none⟩)) rfl (by kernel_rfl) (by kernel_rfl) (by kernel_rfl) (fun _ _ _ h => h) (Or.inl ⟨by rfl, ?_⟩) (by assumption) ?_
        · (intro w hSw; (try dsimp only at hSw); go_simp)
        go_simp
        refine wpAnyH_take (i := 16) (v := .func (.func ff) #[] #[]) rfl (by kernel_rfl) (by kernel_rfl) (by kernel_rfl) (fun _ _ _ h => h) (Or.inl ⟨by rfl, ?_⟩) (by assumption) ?_
        · (intro w hSw; (try dsimp only at hSw); go_simp)
        go_simp
        refine wpAnyH_take (i := 17) (v := drv ⟨addr, id, want, per, st, fails, tried, left, bad⟩) rfl (by kernel_rfl) (by kernel_rfl) (by kernel_rfl) (fun _ _ _ h => h) (Or.inl ⟨by rfl, ?_⟩) (by assumption) ?_
        · (intro w hSw; (try dsimp only at hSw); go_simp)
        go_simp
        refine wpAnyH_take (i := 18) (v := .pointer (some ⟨w.heap.size + 1 + 1, 1, none⟩)) rfl (by kernel_rfl) (by kernel_rfl) (by kernel_rfl) (fun _ _ _ h => h) (Or.inl ⟨by rfl, ?_⟩) (by assumption) ?_
        · (intro w hSw; (try dsimp only at hSw); go_simp)
        go_simp
        refine wpAnyH_take (i := 19) (v := .slice da n c) rfl (by kernel_rfl) (by kernel_rfl) (by kernel_rfl) (fun _ _ _ h => h) (Or.inl ⟨by rfl, ?_⟩) (by assumption) ?_
        · (intro w hSw; (try dsimp only at hSw); go_simp)
        go_simp
        refine wpAnyH_ready (rs := [20]) (by kernel_rfl) (by simp) ?_
        refine AllReadyH.cons rfl (fun K hK => ?_) AllReadyH.nil
        go_simp
        rw [EF.out]
        refine (HFF _ (hx.trans X2)).mono ?_
        rintro e w3 ⟨rfl, x3⟩
        have X3 : Ext w1 w3 := X2.trans x3
        go_wp2_with fail
        refine hK.out _ _ ?_ (fun hHeld => ?_)
        · exact hcell.out _ X3
        clear hK K x3
        refine wpAnyH_take (i := 21) (v := .bool fb) rfl (by kernel_rfl) (by kernel_rfl) (by kernel_rfl) (fun _ _ _ h => h) (Or.inl ⟨by rfl, ?_⟩) (by assumption) ?_
        · (intro w hSw; (try dsimp only at hSw); go_simp)
        go_simp
        refine wpAnyH_done (by kernel_rfl) ?_ _
        go_wp2_with fail
        go_meet
        exact ⟨by rw [e9.out]; simp, X3⟩
      · have hrb : ((n : Int) == rd) = false := beq_eq_false_iff_ne.2 hr
        have e9 : Hid (decide ((n : Int) = rd) = false) := decide_eq_false hr
        clear HF hr
        refine wpAnyH_take (i := 11) (v := .int .i64 rd) rfl (by kernel_rfl) (by kernel_rfl) (by kernel_rfl) (fun _ _ _ h => h) (Or.inl ⟨by rfl, ?_⟩) (by assumption) ?_
        · (intro w hSw; (try dsimp only at hSw); go_simp)
        go_simp
        refine wpAnyH_take (i := 12) (v := .bool false) rfl (by kernel_rfl) (by kernel_rfl) (by kernel_rfl) (fun _ _ _ h => h) (Or.inl ⟨by rfl, ?_⟩) (by assumption) ?_
        · (intro w hSw; (try dsimp only at hSw); go_simp)
        go_simp
        refine wpAnyH_take (i := 13) (v := .bool false) rfl (by kernel_rfl) (by kernel_rfl) (by kernel_rfl) (fun _ _ _ h => h) (Or.inl ⟨by rfl, ?_⟩) (by assumption) ?_
        · (intro w hSw; (try dsimp only at hSw); go_simp)
        go_simp
        refine wpAnyH_take (i := 14) (v := .bool false) rfl (by kernel_rfl) (by kernel_rfl) (by kernel_rfl) (fun _ _ _ h => h) (Or.inl ⟨by rfl, ?_⟩) (by assumption) ?_
        · (intro w hSw; (try dsimp only at hSw); go_simp)
        go_simp
        refine wpAnyH_take (i := 15) (v := undef) rfl (by kernel_rfl) (by kernel_rfl) (by kernel_rfl) (fun _ _ _ h => h) (Or.inr ⟨by rfl, rfl⟩) (by assumption) ?_
        go_simp
        refine wpAnyH_take (i := 16) (v := undef) rfl (by kernel_rfl) (by kernel_rfl) (by kernel_rfl) (fun _ _ _ h => h) (Or.inr ⟨by rfl, rfl⟩) (by assumption) ?_
        go_simp
        refine wpAnyH_take (i := 17) (v := undef) rfl (by kernel_rfl) (by kernel_rfl) (by kernel_rfl) (fun _ _ _ h => h) (Or.inr ⟨by rfl, rfl⟩) (by assumption) ?_
        go_simp
        refine wpAnyH_take (i := 18) (v := undef) rfl (by kernel_rfl) (by kernel_rfl) (by kernel_rfl) (fun _ _ _ h => h) (Or.inr ⟨by rfl, rfl⟩) (by assumption) ?_
        go_simp
        refine wpAnyH_take (i := 19) (v := undef) rfl (by kernel_rfl) (by kernel_rfl) (by kernel_rfl) (fun _ _ _ h => h) (Or.inr ⟨by rfl, rfl⟩) (by assumption) ?_
        go_simp
        refine wpAnyH_take (i := 20) (v := undef) rfl (by kernel_rfl) (by kernel_rfl) (by kernel_rfl) (fun _ _ _ h => h) (Or.inr ⟨by rfl, rfl⟩) (by assumption) ?_
        go_simp
        refine wpAnyH_take (i := 21) (v := .bool false) rfl (by kernel_rfl) (by kernel_rfl) (by kernel_rfl) (fun _ _ _ h => h) (Or.inl ⟨by rfl, ?_⟩) (by assumption) ?_
        · (intro w hSw; (try dsimp only at hSw); go_simp)
        go_simp
        refine wpAnyH_done (by kernel_rfl) ?_ _
        go_wp2_with fail
        go_meet
        exact ⟨by rw [e9.out]; simp, X2⟩
    · have hsb : (ast == 1) = false := beq_eq_false_iff_ne.2 hs
      have hd : decide (ast = 1) = false := decide_eq_false hs
      go_quiet (fail)
      go_wp2_with fail
      go_meet
      exact ⟨by rw [hd]; rfl, drewN_ext _⟩
  case rest =>
    obtain ⟨hv, hcut⟩ := hcut
    obtain ⟨G, hG⟩ : ∃ G, (decide (ast = 1) && (decide ((n : Int) = rd) && fb)) = G := ⟨_, rfl⟩
    rw [hG] at hv
    have HG : Hid ((decide (ast = 1) && (decide ((n : Int) = rd) && fb)) = G) := hG
    clear hG
    subst hv
    have hB : Hid (wc.heap[w.heap.size + 1 + 1 + 1]? = some (.chan 1 #[] false 0 0 false)) := (hcut.out.blk (Array.getElem?_eq_some_iff.1 hch.out).1).trans hch.out
    have hX : Hid (Ext w wc) := hx.trans hcut.out
    obtain ⟨_, _, a0, a1⟩ := hcell.out wc hcut.out
    clear hcell hch HF HA EA EF hmk hfd hcut hx
    cases G
    · go_wp2_with fail
      go_ret
      exact ⟨_, rfl, ⟨0, 0, by rw [HG.out]; exact hB.out⟩, by omega, hX.out⟩
    · go_upto_region 3 with fail
      refine wp_region_comm 3 _ rfl ?_
      simp only [List.take_succ_cons, List.take_zero, List.drop_succ_cons, List.drop_zero]
      repeat still_step
      refine wpStill_nil ⟨rfl, _, _, hands_send (c := w.heap.size + 1 + 1 + 1) (v := .slice da n c) (z := .tuple #[]) ?_ hB.out (by simp), ?_⟩
      · simp [go_sem, execOp, scase, Act.eval]
      refine wpStill_nil ?_
      go_wp2_with fail
      go_ret
      refine ⟨_, rfl, ⟨1, 0, ?_⟩, by omega, ?_⟩
      · rw [HG.out]
        rw [if_pos rfl]
        exact heap_setChan _ _ _ _ _ _ _ _ (Array.getElem?_eq_some_iff.1 hB.out).1
      · exact below_setChan hX.out (by omega) _ _ _ _ _ _
end Go.Proofs.Ytdfhhfpfnkjbnaa
