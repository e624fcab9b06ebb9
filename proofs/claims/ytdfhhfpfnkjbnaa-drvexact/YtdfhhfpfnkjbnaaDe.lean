/- drv: what is done in a state; Next. -/
import Derived.Test.YtdfhhfpfnkjbnaaDb
import Derived.Laws.EntriesVeiled
namespace Go.Proofs.Ytdfhhfpfnkjbnaa
open Go.RowKit Go.Conc
def stA (k : Nat) : Value := match k with | 0 => .nilFunc | 1 => .func (.func 69) #[] #[] | 2 => .func (.func 72) #[] #[] | 3 => .func (.func 75) #[] #[] | 4 => .func (.func 77) #[] #[] | 5 => .func (.func 80) #[] #[] | 6 => .func (.func 82) #[] #[] | 7 => .func (.func 84) #[] #[] | 8 => .nilFunc | _ => .nilFunc
def stF (k : Nat) : Value := match k with | 0 => .nilFunc | 1 => .func (.func 70) #[] #[] | 2 => .func (.func 73) #[] #[] | 3 => .func (.func 73) #[] #[] | 4 => .func (.func 78) #[] #[] | 5 => .func (.func 73) #[] #[] | 6 => .func (.func 73) #[] #[] | 7 => .func (.func 73) #[] #[] | 8 => .nilFunc | _ => .nilFunc
def stT (k : Nat) : Value := match k with | 0 => .nilFunc | 1 => .func (.func 71) #[] #[] | 2 => .func (.func 74) #[] #[] | 3 => .func (.func 76) #[] #[] | 4 => .func (.func 79) #[] #[] | 5 => .func (.func 81) #[] #[] | 6 => .func (.func 83) #[] #[] | 7 => .func (.func 85) #[] #[] | 8 => .nilFunc | _ => .nilFunc
abbrev stv (k : Nat) : Value := .agg #[stA k, stF k, stT k]
theorem stA_one (k : Nat) : (stA k).oneCell' = true := by unfold stA; split <;> rfl
theorem stF_one (k : Nat) : (stF k).oneCell' = true := by unfold stF; split <;> rfl
theorem stT_one (k : Nat) : (stT k).oneCell' = true := by unfold stT; split <;> rfl
/-- the table of steps -/
def ST (w : World) (b : Nat) : Prop := ∀ k, k < 9 → w.cell? ⟨b, k * 3, none⟩ = some (stA k) ∧ w.cell? ⟨b, k * 3 + 1, none⟩ = some (stF k) ∧ w.cell? ⟨b, k * 3 + 2, none⟩ = some (stT k)
theorem ST.ext {w w' : World} {b : Nat} (h : ST w b) (x : Ext w w') : ST w' b := fun k hk => ⟨x.keepc (h k hk).1, x.keepc (h k hk).2.1, x.keepc (h k hk).2.2⟩
set_option maxRecDepth 20000 in
set_option maxHeartbeats 1000000 in
theorem steps_any (w : World) : Calls Try.prog 59 #[] w fun e w' => ∃ b, e = .returned (.slice (some ⟨b, 0, none⟩) 9 9) ∧ ST w' b ∧ Ext w w' := by
  go_enter Try.func59, Try.ntmps59
  go_wp2
  go_ret
  refine ⟨w.heap.size, rfl, fun k hk => ?_, (Ext.refl w).alloc _⟩
  match k, hk with
  | 0, _ | 1, _ | 2, _ | 3, _ | 4, _ | 5, _ | 6, _ | 7, _ | 8, _ => refine ⟨?_, ?_, ?_⟩ <;> simp [go_sem, stA, stF, stT]
  | k + 9, h => omega
set_option maxRecDepth 20000 in
set_option maxHeartbeats 1000000 in
theorem ats_in (k : Nat) (hk : k < 9) (b : Nat) (w : World) (h : ST w b) : Calls Try.prog 60 #[.slice (some ⟨b, 0, none⟩) 9 9, .int .i64 k] w fun e w' => e = .returned (.tuple #[stv k, .bool true]) ∧ Ext w w' := by
  have hx : Ext w (w.alloc (.cells #[.nilFunc, .nilFunc, .nilFunc] 84)) := (Ext.refl w).alloc _
  have hx2 : Ext w (w.alloc (.cells #[stA k, stF k, stT k] 84)) := (Ext.refl w).alloc _
  obtain ⟨c0, c1, c2⟩ := (h.ext hx) k hk
  have hki : (k : Int) < 9 := by omega
  have o0 : ∀ a m w, (store a (stA k) m).run Try.prog w = stored Try.prog w a (stA k) m := fun a m w => run_store Try.prog w a _ m (stA_one k)
  have o1 : ∀ a m w, (store a (stF k) m).run Try.prog w = stored Try.prog w a (stF k) m := fun a m w => run_store Try.prog w a _ m (stF_one k)
  have o2 : ∀ a m w, (store a (stT k) m).run Try.prog w = stored Try.prog w a (stT k) m := fun a m w => run_store Try.prog w a _ m (stT_one k)
  go_enter Try.func60, Try.ntmps60
  go_wp2
  exact bodyPost_ret (v := .tuple #[stv k, .bool true]) (by simp [results, Try.results60, go_sem]) rfl ⟨rfl, hx2⟩
set_option maxRecDepth 20000 in
set_option maxHeartbeats 1000000 in
theorem ats_out (k : Int) (hk : inn k 0 8 = false) (b : Nat) (w : World) : Calls Try.prog 60 #[.slice (some ⟨b, 0, none⟩) 9 9, .int .i64 k] w fun e w' => e = .returned (.tuple #[.agg #[.nilFunc, .nilFunc, .nilFunc], .bool false]) ∧ Ext w w' := by
  have hx : Ext w (w.alloc (.cells #[.nilFunc, .nilFunc, .nilFunc] 84)) := (Ext.refl w).alloc _
  have hn := inn_not.1 hk
  clear hk
  by_cases h0 : k < 0
  · clear hn
    go_enter Try.func60, Try.ntmps60
    go_wp2
    exact bodyPost_ret (v := .tuple #[.agg #[.nilFunc, .nilFunc, .nilFunc], .bool false]) (by simp [results, Try.results60, go_sem]) rfl ⟨rfl, hx⟩
  · have h9 : 9 ≤ k := by omega
    clear hn
    go_enter Try.func60, Try.ntmps60
    go_wp2
    exact bodyPost_ret (v := .tuple #[.agg #[.nilFunc, .nilFunc, .nilFunc], .bool false]) (by simp [results, Try.results60, go_sem]) rfl ⟨rfl, hx⟩
/-- what is done in a state -/
def sA (k : Int) : Value := if inn k 0 8 = true then stA k.toNat else .nilFunc
def sF (k : Int) : Value := if inn k 0 8 = true then stF k.toNat else .nilFunc
def sT (k : Int) : Value := if inn k 0 8 = true then stT k.toNat else .nilFunc
theorem ats_any (k : Int) (b : Nat) (w : World) (h : ST w b) : Calls Try.prog 60 #[.slice (some ⟨b, 0, none⟩) 9 9, .int .i64 k] w fun e w' => e = .returned (.tuple #[.agg #[sA k, sF k, sT k], .bool (inn k 0 8)]) ∧ Ext w w' := by
  unfold sA sF sT
  cases hk : inn k 0 8 with
  | false => exact ats_out k hk b w
  | true =>
    obtain ⟨h1, h2⟩ := inn_iff.1 hk
    have := ats_in k.toNat (by omega) b w h
    rw [show ((k.toNat : Nat) : Int) = k by omega] at this
    exact this
theorem sA_one (k : Int) : (sA k).oneCell' = true := by unfold sA; split; exact stA_one _; rfl
theorem sF_one (k : Int) : (sF k).oneCell' = true := by unfold sF; split; exact stF_one _; rfl
theorem sT_one (k : Int) : (sT k).oneCell' = true := by unfold sT; split; exact stT_one _; rfl
/-- with a transaction, or without -/
theorem sA_form (k : Int) : (inn k 1 7 = true ∧ inn k 0 8 = true ∧ ∃ f, sA k = .func (.func f) #[] #[]) ∨ (inn k 1 7 = false ∧ sA k = .nilFunc) := by
  cases hk : inn k 0 8 with
  | false =>
    refine .inr ⟨?_, by unfold sA; rw [hk]; rfl⟩
    have := inn_not.1 hk
    exact inn_not.2 (by omega)
  | true =>
    obtain ⟨h1, h2⟩ := inn_iff.1 hk
    have : k = 0 ∨ k = 1 ∨ k = 2 ∨ k = 3 ∨ k = 4 ∨ k = 5 ∨ k = 6 ∨ k = 7 ∨ k = 8 := by omega
    rcases this with rfl | rfl | rfl | rfl | rfl | rfl | rfl | rfl | rfl
    · exact .inr ⟨rfl, rfl⟩
    all_goals first | exact .inl ⟨rfl, rfl, _, rfl⟩ | exact .inr ⟨rfl, rfl⟩
set_option maxRecDepth 20000 in
set_option maxHeartbeats 8000000 in
theorem asking_any (d : Dr) (w : World) : Calls Try.prog 33 #[drv d] w fun e w' => e = .returned (.tuple #[.agg #[sA d.st, sF d.st, sT d.st], .bool (inn d.st 1 7)]) ∧ Ext w w' := by
  have hx : Ext w ((w.alloc (dro d)).alloc (.cells #[.nilFunc, .nilFunc, .nilFunc] 84)) := ((Ext.refl w).alloc _).alloc _
  have hs : ((w.alloc (dro d)).alloc (.cells #[.nilFunc, .nilFunc, .nilFunc] 84)).heap.size = w.heap.size + 1 + 1 := by simp
  have hd : DV ((w.alloc (dro d)).alloc (.cells #[.nilFunc, .nilFunc, .nilFunc] 84)) w.heap.size d := (dv_at rfl d).ext ((Ext.refl _).alloc _)
  have ht : TV ((w.alloc (dro d)).alloc (.cells #[.nilFunc, .nilFunc, .nilFunc] 84)) (w.heap.size + 1) .nilFunc .nilFunc .nilFunc := tv_at (by simp)
  obtain ⟨addr, id, want, per, st, fails, tried, left, bad⟩ := d
  have HH : Hid (DV ((w.alloc (dro ⟨addr, id, want, per, st, fails, tried, left, bad⟩)).alloc (.cells #[.nilFunc, .nilFunc, .nilFunc] 84)) w.heap.size ⟨addr, id, want, per, st, fails, tried, left, bad⟩ ∧ TV ((w.alloc (dro ⟨addr, id, want, per, st, fails, tried, left, bad⟩)).alloc (.cells #[.nilFunc, .nilFunc, .nilFunc] 84)) (w.heap.size + 1) .nilFunc .nilFunc .nilFunc ∧ Ext w ((w.alloc (dro ⟨addr, id, want, per, st, fails, tried, left, bad⟩)).alloc (.cells #[.nilFunc, .nilFunc, .nilFunc] 84)) ∧ ((w.alloc (dro ⟨addr, id, want, per, st, fails, tried, left, bad⟩)).alloc (.cells #[.nilFunc, .nilFunc, .nilFunc] 84)).heap.size = w.heap.size + 1 + 1) := ⟨hd, ht, hx, hs⟩
  clear hx hs hd ht
  simp only
  have hat := ats_any st
  go_enter Try.func33, Try.ntmps33
  go_upto_region 1 with fail
  generalize ((w.alloc (dro ⟨addr, id, want, per, st, fails, tried, left, bad⟩)).alloc (.cells #[.nilFunc, .nilFunc, .nilFunc] 84)) = wk at *
  obtain ⟨⟨c0, c1, c2, c3, c4, c5, c6, c7, c8⟩, _⟩ := HH.out.1
  simp only [Nat.zero_add] at c0 c1 c2 c3 c4 c5 c6 c7 c8
  have hs : w.heap.size < wk.heap.size := by have := HH.out.2.2.2; omega
  have HF := sA_form st
  have o0 : ∀ a m w, (store a (sA st) m).run Try.prog w = stored Try.prog w a (sA st) m := fun a m w => run_store Try.prog w a _ m (sA_one st)
  have o1 : ∀ a m w, (store a (sF st) m).run Try.prog w = stored Try.prog w a (sF st) m := fun a m w => run_store Try.prog w a _ m (sF_one st)
  have o2 : ∀ a m w, (store a (sT st) m).run Try.prog w = stored Try.prog w a (sT st) m := fun a m w => run_store Try.prog w a _ m (sT_one st)
  obtain ⟨a0, ha0⟩ : ∃ a, sA st = a := ⟨_, rfl⟩
  obtain ⟨a1, ha1⟩ : ∃ a, sF st = a := ⟨_, rfl⟩
  obtain ⟨a2, ha2⟩ : ∃ a, sT st = a := ⟨_, rfl⟩
  have E9 : Hid (sA st = a0 ∧ sF st = a1 ∧ sT st = a2) := ⟨ha0, ha1, ha2⟩
  rw [ha0] at HF o0 hat
  rw [ha1] at o1 hat
  rw [ha2] at o2 hat
  clear ha0 ha1 ha2
  go_cut [4, 5] (fun v4 v5 wx => ∃ g, v4 = .pointer (some ⟨g, 0, none⟩) ∧ v5 = .bool (inn st 0 8) ∧ Hid (TV wx g a0 a1 a2 ∧ Ext wk wx ∧ wk.heap.size ≤ g))
  case first =>
    clear HH HF E9
    have ne0 : w.heap.size ≠ wk.heap.size := by omega
    have HM : Hid (∀ W, Ext wk W → Calls Try.prog 59 #[] W fun e w' => ∃ b, e = .returned (.slice (some ⟨b, 0, none⟩) 9 9) ∧ Hid (ST w' b) ∧ Hid (Ext wk w') ∧ Hid (Ext W w') ∧ w'.cell? ⟨w.heap.size, 4, none⟩ = some (.int .i64 st)) := fun W x => (steps_any W).mono fun e w' ⟨b, h1, h2, h3⟩ => ⟨b, h1, h2, x.trans h3, h3, (x.trans h3).keepc c4⟩
    have HA : Hid (∀ b W, ST W b → Ext wk W → Calls Try.prog 60 #[.slice (some ⟨b, 0, none⟩) 9 9, .int .i64 st] W fun e w' => e = .returned (.tuple #[.agg #[a0, a1, a2], .bool (inn st 0 8)]) ∧ Hid (Ext wk w') ∧ Hid (Ext W w') ∧ w'.cell? ⟨w.heap.size, 4, none⟩ = some (.int .i64 st)) := fun b W h x => (hat b W h).mono fun e w' ⟨h1, h3⟩ => ⟨h1, x.trans h3, h3, (x.trans h3).keepc c4⟩
    have X1 : Hid (Ext wk wk) := Ext.refl wk
    have V0 : Hid (∀ W : World, TV (W.alloc (.cells #[.nilFunc, .nilFunc, .nilFunc] 84)) W.heap.size (.nilFunc) (.nilFunc) (.nilFunc)) := fun W => tv_at rfl
    have LE : Hid (∀ W, Ext wk W → w.heap.size ≠ W.heap.size ∧ W.heap.size ≠ w.heap.size) := fun W x => by have := x.size; have := ne0; have h4 := World.block_lt_of_cell? wk ⟨w.heap.size, 4, none⟩ c4; simp only at h4; omega
    have L1 := LE.out wk (Ext.refl _)
    obtain ⟨l1, l2⟩ := L1
    clear hat c0 c1 c2 c3 c5 c6 c7 c8 ne0
    go_region_held3 (fun w' => w'.cell? ⟨w.heap.size, 4, none⟩ = some (.int .i64 st)) (first | (go_keep; done) | skip) (first | (go_at_call 59; (with_reducible refine (HM.out _ X1.out.drew).mono ?_); rintro e w2 ⟨b2, rfl, T2, X2, Y2, c42⟩; obtain ⟨k1, k2⟩ := LE.out _ X2.out) | (go_at_call 59; refine (HM.out _ (X1.out.alloc (.cells #[.nilFunc, .nilFunc, .nilFunc] 84)).drew).mono ?_; rintro e w2 ⟨b2, rfl, T2, X2, Y2, c42⟩; have Z2 : Hid (TV w2 wk.heap.size (.nilFunc) (.nilFunc) (.nilFunc)) := (V0.out wk).ext (Ext.trans (Ext.refl (wk.alloc (.cells #[.nilFunc, .nilFunc, .nilFunc] 84))).drew Y2.out); obtain ⟨⟨z0, z1, z2⟩, z3, z4, z5⟩ := Z2.out) | (go_at_call 60; (with_reducible refine (HA.out _ _ T2.out X2.out).mono ?_); rintro e w3 ⟨rfl, X3, Y3, c43⟩; have Z3 : Hid (TV w3 wk.heap.size (.nilFunc) (.nilFunc) (.nilFunc)) := Z2.out.ext Y3.out; obtain ⟨⟨y0, y1, y2⟩, y3, y4, y5⟩ := Z3.out) | (go_at_call 60; (with_reducible refine (HA.out _ _ T2.out X2.out).mono ?_); rintro e w3 ⟨rfl, X3, Y3, c43⟩) | (go_at_call 60; refine (HA.out _ _ (T2.out.ext ((Ext.refl _).alloc (.cells #[.nilFunc, .nilFunc, .nilFunc] 84))) (X2.out.alloc (.cells #[.nilFunc, .nilFunc, .nilFunc] 84))).mono ?_; rintro e w3 ⟨rfl, X3, Y3, c43⟩; have Z3 : Hid (TV w3 w2.heap.size (.nilFunc) (.nilFunc) (.nilFunc)) := (V0.out w2).ext Y3.out; obtain ⟨⟨z0, z1, z2⟩, z3, z4, z5⟩ := Z3.out))
    all_goals
      go_wp2_with fail
      go_meet
      first | exact ⟨_, rfl, rfl, tv_at rfl, X3.out.alloc _, X3.out.size⟩ | exact ⟨_, rfl, rfl, Z3.out.put _ _ _, X3.out.putT X2.out.size _ _ _, X2.out.size⟩ | exact ⟨_, rfl, rfl, Z3.out.put _ _ _, X3.out.putT (Nat.le_refl _) _ _ _, Nat.le_refl _⟩
  case rest =>
    obtain ⟨g, rfl, rfl, hcut⟩ := hcut
    have HC : Hid (TV wc (w.heap.size + 1) .nilFunc .nilFunc .nilFunc ∧ Ext w wc) := ⟨HH.out.2.1.ext hcut.out.2.1, HH.out.2.2.1.trans hcut.out.2.1⟩
    have hg : w.heap.size + 1 < g := by have := HH.out.2.2.2; have := hcut.out.2.2; omega
    have n1 := Nat.ne_of_lt hg
    have n2 := Nat.ne_of_gt hg
    clear c0 c1 c2 c3 c4 c5 c6 c7 c8 HH hat hs hg
    obtain ⟨⟨t0, t1, t2⟩, f0, f1, f2⟩ := hcut.out.1
    obtain ⟨⟨r0, r1, r2⟩, g0, g1, g2⟩ := HC.out.1
    have hx9 : Ext w (putT wc.drew (w.heap.size + 1) a0 a1 a2) := HC.out.2.drew.putT (Nat.le_succ _) _ _ _
    have q1 : ∀ f w, (binOp BinOp.neq 80 (Value.func (Fn.func f) #[] #[]) Value.nilFunc).run Try.prog w = .ok (.bool true) w := fun f w => rfl
    have q2 : ∀ w, (binOp BinOp.neq 80 Value.nilFunc Value.nilFunc).run Try.prog w = .ok (.bool false) w := fun w => rfl
    rcases HF with ⟨h1, h2, f, rfl⟩ | ⟨h1, rfl⟩
    · rw [h2]
      go_upto_region 2 with fail
      go_region
      all_goals
        go_wp2_with fail
        refine bodyPost_ret (v := .tuple #[.agg #[.func (.func f) #[] #[], a1, a2], .bool true]) (by simp [results, Try.results33, go_sem, r0, r1, r2]) rfl ⟨by rw [h1, E9.out.1, E9.out.2.1, E9.out.2.2], hx9⟩
    · cases h2 : inn st 0 8
      all_goals
        go_upto_region 2 with fail
        go_region
      all_goals
        go_wp2_with fail
        refine bodyPost_ret (v := .tuple #[.agg #[.nilFunc, a1, a2], .bool false]) (by simp [results, Try.results33, go_sem, r0, r1, r2]) rfl ⟨by rw [h1, E9.out.1, E9.out.2.1, E9.out.2.2], hx9⟩
end Go.Proofs.Ytdfhhfpfnkjbnaa
