/- drv: Next. -/
import Derived.Test.YtdfhhfpfnkjbnaaDe
import Derived.Test.YtdfhhfpfnkjbnaaDf
namespace Go.Proofs.Ytdfhhfpfnkjbnaa
open Go.RowKit Go.Conc
theorem RdY.putQ {w : World} {B g : Nat} {a : Option Addr} {l : List Int} (h : RdY w B a l) (hg : g < B) (x y z u : Value) : RdY (putQ w g x y z u) B a l := fun j hj => by
  obtain ⟨b, off, e, h1, h2⟩ := h j hj
  refine ⟨b, off, e, h1, ?_⟩
  rw [← h2]
  have ng : g ≠ b := by omega
  refine World.cell?_of_block (a := ⟨b, off + j, none⟩) ?_
  unfold Go.Proofs.Ytdfhhfpfnkjbnaa.putQ
  rw [heap_setCell_far _ _ _ _ _ ng, heap_setCell_far _ _ _ _ _ ng, heap_setCell_far _ _ _ _ _ ng, heap_setCell_far _ _ _ _ _ ng]
abbrev notx : Value := txw 0 0 none 0 0 0
set_option maxRecDepth 20000 in
set_option maxHeartbeats 2000000 in
theorem next_bad (d : Dr) (hd : okD d = false) (w : World) : Calls Try.prog 9 #[drv d] w fun e w' => e = .returned (.tuple #[notx, .bool false, .int .i64 1]) ∧ Ext w w' := by
  have hx : Ext w ((w.alloc (dro d)).alloc tx0) := ((Ext.refl w).alloc _).alloc _
  have H := isdriver_any d ((w.alloc (dro d)).alloc tx0)
  have hs : ((w.alloc (dro d)).alloc tx0).heap.size = w.heap.size + 1 + 1 := by simp
  have h0 : DV ((w.alloc (dro d)).alloc tx0) w.heap.size d := (dv_at rfl d).ext ((Ext.refl _).alloc _)
  have hq : Q4 ((w.alloc (dro d)).alloc tx0) (w.heap.size + 1) (.int .i64 0) (.int .i64 0) (.slice none 0 0) (.int .i64 0) := q4_at (by simp)
  have HH : Hid (DV ((w.alloc (dro d)).alloc tx0) w.heap.size d ∧ Q4 ((w.alloc (dro d)).alloc tx0) (w.heap.size + 1) (.int .i64 0) (.int .i64 0) (.slice none 0 0) (.int .i64 0) ∧ Ext w ((w.alloc (dro d)).alloc tx0) ∧ ((w.alloc (dro d)).alloc tx0).heap.size = w.heap.size + 1 + 1) := ⟨h0, hq, hx, hs⟩
  clear hx hs h0 hq
  rw [hd] at H
  clear hd
  obtain ⟨addr, id, want, per, st, fails, tried, left, bad⟩ := d
  go_enter Try.func9, Try.ntmps9
  go_upto_region 1 with fail
  generalize ((w.alloc (dro ⟨addr, id, want, per, st, fails, tried, left, bad⟩)).alloc tx0) = w1 at *
  obtain ⟨⟨c0, c1, c2, c3, c4, c5, c6, c7, c8⟩, _⟩ := HH.out.1
  simp only [Nat.zero_add] at c0 c1 c2 c3 c4 c5 c6 c7 c8
  go_wp2_with (go_at_call 32; refine H.mono ?_; rintro e w2 ⟨rfl, x2⟩; obtain ⟨⟨q0, q1, q2, q3⟩, f0, f1, f2, f3⟩ := HH.out.2.1.ext x2)
  have hx9 : Ext w (putQ w2 (w.heap.size + 1) (.int .i64 0) (.int .i64 0) (.slice none 0 0) (.int .i64 0)) := (HH.out.2.2.1.trans x2).putQ (Nat.le_succ _) _ _ _ _
  exact bodyPost_ret (v := .tuple #[notx, .bool false, .int .i64 1]) (by simp [results, Try.results9, go_sem, q0, q1, q2, q3]) rfl ⟨rfl, hx9⟩
set_option maxRecDepth 20000 in
set_option maxHeartbeats 4000000 in
theorem next_none (d : Dr) (hd : okD d = true) (hb : inn d.st 1 7 = false) (w : World) : Calls Try.prog 9 #[drv d] w fun e w' => e = .returned (.tuple #[notx, .bool false, .int .i64 0]) ∧ Ext w w' := by
  have hx : Ext w ((w.alloc (dro d)).alloc tx0) := ((Ext.refl w).alloc _).alloc _
  have H := isdriver_any d ((w.alloc (dro d)).alloc tx0)
  have hs : ((w.alloc (dro d)).alloc tx0).heap.size = w.heap.size + 1 + 1 := by simp
  have h0 : DV ((w.alloc (dro d)).alloc tx0) w.heap.size d := (dv_at rfl d).ext ((Ext.refl _).alloc _)
  have hq : Q4 ((w.alloc (dro d)).alloc tx0) (w.heap.size + 1) (.int .i64 0) (.int .i64 0) (.slice none 0 0) (.int .i64 0) := q4_at (by simp)
  have HH : Hid (DV ((w.alloc (dro d)).alloc tx0) w.heap.size d ∧ Q4 ((w.alloc (dro d)).alloc tx0) (w.heap.size + 1) (.int .i64 0) (.int .i64 0) (.slice none 0 0) (.int .i64 0) ∧ Ext w ((w.alloc (dro d)).alloc tx0) ∧ ((w.alloc (dro d)).alloc tx0).heap.size = w.heap.size + 1 + 1) := ⟨h0, hq, hx, hs⟩
  clear hx hs h0 hq
  rw [hd] at H
  have HA : Hid (∀ W, Calls Try.prog 33 #[drv d] W fun e w' => e = .returned (.tuple #[.agg #[sA d.st, sF d.st, sT d.st], .bool (inn d.st 1 7)]) ∧ Ext W w') := asking_any d
  have o0 : ∀ a m w, (store a (sA d.st) m).run Try.prog w = stored Try.prog w a (sA d.st) m := fun a m w => run_store Try.prog w a _ m (sA_one d.st)
  have o1 : ∀ a m w, (store a (sF d.st) m).run Try.prog w = stored Try.prog w a (sF d.st) m := fun a m w => run_store Try.prog w a _ m (sF_one d.st)
  have o2 : ∀ a m w, (store a (sT d.st) m).run Try.prog w = stored Try.prog w a (sT d.st) m := fun a m w => run_store Try.prog w a _ m (sT_one d.st)
  rw [hb] at HA
  clear hd hb
  obtain ⟨addr, id, want, per, st, fails, tried, left, bad⟩ := d
  simp only at HA o0 o1 o2
  generalize sA st = a0 at *
  generalize sF st = a1 at *
  generalize sT st = a2 at *
  go_enter Try.func9, Try.ntmps9
  go_upto_region 1 with fail
  generalize ((w.alloc (dro ⟨addr, id, want, per, st, fails, tried, left, bad⟩)).alloc tx0) = w1 at *
  obtain ⟨⟨c0, c1, c2, c3, c4, c5, c6, c7, c8⟩, _⟩ := HH.out.1
  simp only [Nat.zero_add] at c0 c1 c2 c3 c4 c5 c6 c7 c8
  go_wp2_with (first | (go_at_call 32; refine H.mono ?_; rintro e w2 ⟨rfl, x2⟩; clear c0 c1 c2 c3 c4 c5 c6 c7 c8; obtain ⟨⟨c0, c1, c2, c3, c4, c5, c6, c7, c8⟩, _⟩ := HH.out.1.ext x2; simp only [Nat.zero_add] at c0 c1 c2 c3 c4 c5 c6 c7 c8) | (go_at_call 33; refine (HA.out _).mono ?_; rintro e w3 ⟨rfl, x3⟩; obtain ⟨⟨q0, q1, q2, q3⟩, f0, f1, f2, f3⟩ := (HH.out.2.1.ext x2).ext (x3.alloc (.cells #[a0, a1, a2] 84))))
  have hx9 : Ext w (putQ (w3.alloc (.cells #[a0, a1, a2] 84)) (w.heap.size + 1) (.int .i64 0) (.int .i64 0) (.slice none 0 0) (.int .i64 0)) := (((HH.out.2.2.1.trans x2).trans x3).alloc _).putQ (Nat.le_succ _) _ _ _ _
  exact bodyPost_ret (v := .tuple #[notx, .bool false, .int .i64 0]) (by simp [results, Try.results9, go_sem, q0, q1, q2, q3]) rfl ⟨rfl, hx9⟩
set_option maxRecDepth 20000 in
set_option maxHeartbeats 8000000 in
theorem next_some (d : Dr) (hd : okD d = true) (hb : inn d.st 1 7 = true) (w : World) : Calls Try.prog 9 #[drv d] w fun e w' => ∃ a c, e = .returned (.tuple #[txw d.addr (txReg d.st) a (txWr d).length c (txRd d), .bool true, .int .i64 0]) ∧ RdY w' w.heap.size a (txWr d) ∧ Ext w w' := by
  have hx : Ext w ((w.alloc (dro d)).alloc tx0) := ((Ext.refl w).alloc _).alloc _
  have H := isdriver_any d ((w.alloc (dro d)).alloc tx0)
  have hs : ((w.alloc (dro d)).alloc tx0).heap.size = w.heap.size + 1 + 1 := by simp
  have h0 : DV ((w.alloc (dro d)).alloc tx0) w.heap.size d := (dv_at rfl d).ext ((Ext.refl _).alloc _)
  have hq : Q4 ((w.alloc (dro d)).alloc tx0) (w.heap.size + 1) (.int .i64 0) (.int .i64 0) (.slice none 0 0) (.int .i64 0) := q4_at (by simp)
  have HH : Hid (DV ((w.alloc (dro d)).alloc tx0) w.heap.size d ∧ Q4 ((w.alloc (dro d)).alloc tx0) (w.heap.size + 1) (.int .i64 0) (.int .i64 0) (.slice none 0 0) (.int .i64 0) ∧ Ext w ((w.alloc (dro d)).alloc tx0) ∧ ((w.alloc (dro d)).alloc tx0).heap.size = w.heap.size + 1 + 1) := ⟨h0, hq, hx, hs⟩
  clear hx hs h0 hq
  rw [hd] at H
  have HA : Hid (∀ W, Calls Try.prog 33 #[drv d] W fun e w' => e = .returned (.tuple #[.agg #[sA d.st, sF d.st, sT d.st], .bool (inn d.st 1 7)]) ∧ Ext W w') := asking_any d
  have o0 : ∀ a m w, (store a (sA d.st) m).run Try.prog w = stored Try.prog w a (sA d.st) m := fun a m w => run_store Try.prog w a _ m (sA_one d.st)
  have o1 : ∀ a m w, (store a (sF d.st) m).run Try.prog w = stored Try.prog w a (sF d.st) m := fun a m w => run_store Try.prog w a _ m (sF_one d.st)
  have o2 : ∀ a m w, (store a (sT d.st) m).run Try.prog w = stored Try.prog w a (sT d.st) m := fun a m w => run_store Try.prog w a _ m (sT_one d.st)
  have A1 : Hid (d.st = 1 → AskC 69 d) := ask1_any d
  have A2 : Hid (d.st = 2 → AskC 72 d) := ask2_any d
  have A3 : Hid (d.st = 3 → AskC 75 d) := ask3_any d
  have A4 : Hid (d.st = 4 → AskC 77 d) := ask4_any d
  have A5 : Hid (d.st = 5 → AskC 80 d) := ask5_any d
  have A6 : Hid (d.st = 6 → AskC 82 d) := ask6_any d
  have A7 : Hid (d.st = 7 → AskC 84 d) := ask7_any d
  have HB : Hid (1 ≤ d.st ∧ d.st ≤ 7) := inn_iff.1 hb
  rw [hb] at HA
  clear hd hb
  obtain ⟨addr, id, want, per, st, fails, tried, left, bad⟩ := d
  have eA : Hid (∀ v, sA st = v → sA st = v) := fun _ h => h
  simp only at HA o0 o1 o2 A1 A2 A3 A4 A5 A6 A7 HB ⊢
  obtain ⟨a0, ha0⟩ : ∃ a, sA st = a := ⟨_, rfl⟩
  have E0 : Hid (sA st = a0) := ha0
  rw [ha0] at HA o0
  clear ha0 eA
  generalize sF st = a1 at *
  generalize sT st = a2 at *
  go_enter Try.func9, Try.ntmps9
  go_upto_region 1 with fail
  generalize ((w.alloc (dro ⟨addr, id, want, per, st, fails, tried, left, bad⟩)).alloc tx0) = w1 at *
  obtain ⟨⟨c0, c1, c2, c3, c4, c5, c6, c7, c8⟩, _⟩ := HH.out.1
  simp only [Nat.zero_add] at c0 c1 c2 c3 c4 c5 c6 c7 c8
  go_upto_region 6 with (first | (go_at_call 32; refine H.mono ?_; rintro e w2 ⟨rfl, x2⟩; clear c0 c1 c2 c3 c4 c5 c6 c7 c8; obtain ⟨⟨c0, c1, c2, c3, c4, c5, c6, c7, c8⟩, _⟩ := HH.out.1.ext x2; simp only [Nat.zero_add] at c0 c1 c2 c3 c4 c5 c6 c7 c8) | (go_at_call 33; refine (HA.out _).mono ?_; rintro e w3 ⟨rfl, x3⟩))
  have H4 : Hid (DV (w3.alloc (.cells #[a0, a1, a2] 84)) w.heap.size ⟨addr, id, want, per, st, fails, tried, left, bad⟩ ∧ Q4 (w3.alloc (.cells #[a0, a1, a2] 84)) (w.heap.size + 1) (.int .i64 0) (.int .i64 0) (.slice none 0 0) (.int .i64 0) ∧ Ext w (w3.alloc (.cells #[a0, a1, a2] 84)) ∧ w.heap.size + 1 < (w3.alloc (.cells #[a0, a1, a2] 84)).heap.size) := ⟨HH.out.1.ext (x2.trans (x3.alloc _)), HH.out.2.1.ext (x2.trans (x3.alloc _)), HH.out.2.2.1.trans (x2.trans (x3.alloc _)), by have h1 := x2.size; have h2 := x3.size; rw [HH.out.2.2.2] at h1; simp only [World.size_alloc]; omega⟩
  have T4 : Hid (TV (w3.alloc (.cells #[a0, a1, a2] 84)) w3.heap.size a0 a1 a2) := tv_at rfl
  clear c0 c1 c2 c3 c4 c5 c6 c7 c8 H HH HA o0 o1 o2 x2 x3
  generalize w3.heap.size = V at *
  generalize (w3.alloc (.cells #[a0, a1, a2] 84)) = w4 at *
  obtain ⟨⟨c0, c1, c2, c3, c4, c5, c6, c7, c8⟩, _⟩ := H4.out.1
  simp only [Nat.zero_add] at c0 c1 c2 c3 c4 c5 c6 c7 c8
  obtain ⟨⟨t0, t1, t2⟩, _⟩ := T4.out
  have hc : st = 1 ∨ st = 2 ∨ st = 3 ∨ st = 4 ∨ st = 5 ∨ st = 6 ∨ st = 7 := by have := HB.out; omega
  rcases hc with rfl | rfl | rfl | rfl | rfl | rfl | rfl
  · have HK := A1.out rfl
    have e0 : a0 = .func (.func 69) #[] #[] := E0.out.symm
    subst e0
    clear A1 A2 A3 A4 A5 A6 A7 E0 HB T4
    go_wp2_with (go_at_call 69; refine (HK _).mono ?_; rintro e w5 ⟨a, c, rfl, r5, x5⟩; obtain ⟨⟨q0, q1, q2, q3⟩, f0, f1, f2, f3⟩ := H4.out.2.1.ext x5)
    have hx9 : Ext w (putQ w5 (w.heap.size + 1) (.int .i64 addr) (.int .i64 (txReg 1)) (.slice a (txWr ⟨addr, id, want, per, 1, fails, tried, left, bad⟩).length c) (.int .i64 (txRd ⟨addr, id, want, per, 1, fails, tried, left, bad⟩))) := (H4.out.2.2.1.trans x5).putQ (Nat.le_succ _) _ _ _ _
    exact bodyPost_ret (v := .tuple #[txw addr (txReg 1) a (txWr ⟨addr, id, want, per, 1, fails, tried, left, bad⟩).length c (txRd ⟨addr, id, want, per, 1, fails, tried, left, bad⟩), .bool true, .int .i64 0]) (by simp [results, Try.results9, go_sem, q0, q1, q2, q3]) rfl ⟨a, c, rfl, (r5.putQ H4.out.2.2.2 _ _ _ _).mono (Nat.le_of_lt (Nat.lt_of_succ_lt H4.out.2.2.2)), hx9⟩
  · have HK := A2.out rfl
    have e0 : a0 = .func (.func 72) #[] #[] := E0.out.symm
    subst e0
    clear A1 A2 A3 A4 A5 A6 A7 E0 HB T4
    go_wp2_with (go_at_call 72; refine (HK _).mono ?_; rintro e w5 ⟨a, c, rfl, r5, x5⟩; obtain ⟨⟨q0, q1, q2, q3⟩, f0, f1, f2, f3⟩ := H4.out.2.1.ext x5)
    have hx9 : Ext w (putQ w5 (w.heap.size + 1) (.int .i64 addr) (.int .i64 (txReg 2)) (.slice a (txWr ⟨addr, id, want, per, 2, fails, tried, left, bad⟩).length c) (.int .i64 (txRd ⟨addr, id, want, per, 2, fails, tried, left, bad⟩))) := (H4.out.2.2.1.trans x5).putQ (Nat.le_succ _) _ _ _ _
    exact bodyPost_ret (v := .tuple #[txw addr (txReg 2) a (txWr ⟨addr, id, want, per, 2, fails, tried, left, bad⟩).length c (txRd ⟨addr, id, want, per, 2, fails, tried, left, bad⟩), .bool true, .int .i64 0]) (by simp [results, Try.results9, go_sem, q0, q1, q2, q3]) rfl ⟨a, c, rfl, (r5.putQ H4.out.2.2.2 _ _ _ _).mono (Nat.le_of_lt (Nat.lt_of_succ_lt H4.out.2.2.2)), hx9⟩
  · have HK := A3.out rfl
    have e0 : a0 = .func (.func 75) #[] #[] := E0.out.symm
    subst e0
    clear A1 A2 A3 A4 A5 A6 A7 E0 HB T4
    go_wp2_with (go_at_call 75; refine (HK _).mono ?_; rintro e w5 ⟨a, c, rfl, r5, x5⟩; obtain ⟨⟨q0, q1, q2, q3⟩, f0, f1, f2, f3⟩ := H4.out.2.1.ext x5)
    have hx9 : Ext w (putQ w5 (w.heap.size + 1) (.int .i64 addr) (.int .i64 (txReg 3)) (.slice a (txWr ⟨addr, id, want, per, 3, fails, tried, left, bad⟩).length c) (.int .i64 (txRd ⟨addr, id, want, per, 3, fails, tried, left, bad⟩))) := (H4.out.2.2.1.trans x5).putQ (Nat.le_succ _) _ _ _ _
    exact bodyPost_ret (v := .tuple #[txw addr (txReg 3) a (txWr ⟨addr, id, want, per, 3, fails, tried, left, bad⟩).length c (txRd ⟨addr, id, want, per, 3, fails, tried, left, bad⟩), .bool true, .int .i64 0]) (by simp [results, Try.results9, go_sem, q0, q1, q2, q3]) rfl ⟨a, c, rfl, (r5.putQ H4.out.2.2.2 _ _ _ _).mono (Nat.le_of_lt (Nat.lt_of_succ_lt H4.out.2.2.2)), hx9⟩
  · have HK := A4.out rfl
    have e0 : a0 = .func (.func 77) #[] #[] := E0.out.symm
    subst e0
    clear A1 A2 A3 A4 A5 A6 A7 E0 HB T4
    go_wp2_with (go_at_call 77; refine (HK _).mono ?_; rintro e w5 ⟨a, c, rfl, r5, x5⟩; obtain ⟨⟨q0, q1, q2, q3⟩, f0, f1, f2, f3⟩ := H4.out.2.1.ext x5)
    have hx9 : Ext w (putQ w5 (w.heap.size + 1) (.int .i64 addr) (.int .i64 (txReg 4)) (.slice a (txWr ⟨addr, id, want, per, 4, fails, tried, left, bad⟩).length c) (.int .i64 (txRd ⟨addr, id, want, per, 4, fails, tried, left, bad⟩))) := (H4.out.2.2.1.trans x5).putQ (Nat.le_succ _) _ _ _ _
    exact bodyPost_ret (v := .tuple #[txw addr (txReg 4) a (txWr ⟨addr, id, want, per, 4, fails, tried, left, bad⟩).length c (txRd ⟨addr, id, want, per, 4, fails, tried, left, bad⟩), .bool true, .int .i64 0]) (by simp [results, Try.results9, go_sem, q0, q1, q2, q3]) rfl ⟨a, c, rfl, (r5.putQ H4.out.2.2.2 _ _ _ _).mono (Nat.le_of_lt (Nat.lt_of_succ_lt H4.out.2.2.2)), hx9⟩
  · have HK := A5.out rfl
    have e0 : a0 = .func (.func 80) #[] #[] := E0.out.symm
    subst e0
    clear A1 A2 A3 A4 A5 A6 A7 E0 HB T4
    go_wp2_with (go_at_call 80; refine (HK _).mono ?_; rintro e w5 ⟨a, c, rfl, r5, x5⟩; obtain ⟨⟨q0, q1, q2, q3⟩, f0, f1, f2, f3⟩ := H4.out.2.1.ext x5)
    have hx9 : Ext w (putQ w5 (w.heap.size + 1) (.int .i64 addr) (.int .i64 (txReg 5)) (.slice a (txWr ⟨addr, id, want, per, 5, fails, tried, left, bad⟩).length c) (.int .i64 (txRd ⟨addr, id, want, per, 5, fails, tried, left, bad⟩))) := (H4.out.2.2.1.trans x5).putQ (Nat.le_succ _) _ _ _ _
    exact bodyPost_ret (v := .tuple #[txw addr (txReg 5) a (txWr ⟨addr, id, want, per, 5, fails, tried, left, bad⟩).length c (txRd ⟨addr, id, want, per, 5, fails, tried, left, bad⟩), .bool true, .int .i64 0]) (by simp [results, Try.results9, go_sem, q0, q1, q2, q3]) rfl ⟨a, c, rfl, (r5.putQ H4.out.2.2.2 _ _ _ _).mono (Nat.le_of_lt (Nat.lt_of_succ_lt H4.out.2.2.2)), hx9⟩
  · have HK := A6.out rfl
    have e0 : a0 = .func (.func 82) #[] #[] := E0.out.symm
    subst e0
    clear A1 A2 A3 A4 A5 A6 A7 E0 HB T4
    go_wp2_with (go_at_call 82; refine (HK _).mono ?_; rintro e w5 ⟨a, c, rfl, r5, x5⟩; obtain ⟨⟨q0, q1, q2, q3⟩, f0, f1, f2, f3⟩ := H4.out.2.1.ext x5)
    have hx9 : Ext w (putQ w5 (w.heap.size + 1) (.int .i64 addr) (.int .i64 (txReg 6)) (.slice a (txWr ⟨addr, id, want, per, 6, fails, tried, left, bad⟩).length c) (.int .i64 (txRd ⟨addr, id, want, per, 6, fails, tried, left, bad⟩))) := (H4.out.2.2.1.trans x5).putQ (Nat.le_succ _) _ _ _ _
    exact bodyPost_ret (v := .tuple #[txw addr (txReg 6) a (txWr ⟨addr, id, want, per, 6, fails, tried, left, bad⟩).length c (txRd ⟨addr, id, want, per, 6, fails, tried, left, bad⟩), .bool true, .int .i64 0]) (by simp [results, Try.results9, go_sem, q0, q1, q2, q3]) rfl ⟨a, c, rfl, (r5.putQ H4.out.2.2.2 _ _ _ _).mono (Nat.le_of_lt (Nat.lt_of_succ_lt H4.out.2.2.2)), hx9⟩
  · have HK := A7.out rfl
    have e0 : a0 = .func (.func 84) #[] #[] := E0.out.symm
    subst e0
    clear A1 A2 A3 A4 A5 A6 A7 E0 HB T4
    go_wp2_with (go_at_call 84; refine (HK _).mono ?_; rintro e w5 ⟨a, c, rfl, r5, x5⟩; obtain ⟨⟨q0, q1, q2, q3⟩, f0, f1, f2, f3⟩ := H4.out.2.1.ext x5)
    have hx9 : Ext w (putQ w5 (w.heap.size + 1) (.int .i64 addr) (.int .i64 (txReg 7)) (.slice a (txWr ⟨addr, id, want, per, 7, fails, tried, left, bad⟩).length c) (.int .i64 (txRd ⟨addr, id, want, per, 7, fails, tried, left, bad⟩))) := (H4.out.2.2.1.trans x5).putQ (Nat.le_succ _) _ _ _ _
    exact bodyPost_ret (v := .tuple #[txw addr (txReg 7) a (txWr ⟨addr, id, want, per, 7, fails, tried, left, bad⟩).length c (txRd ⟨addr, id, want, per, 7, fails, tried, left, bad⟩), .bool true, .int .i64 0]) (by simp [results, Try.results9, go_sem, q0, q1, q2, q3]) rfl ⟨a, c, rfl, (r5.putQ H4.out.2.2.2 _ _ _ _).mono (Nat.le_of_lt (Nat.lt_of_succ_lt H4.out.2.2.2)), hx9⟩
end Go.Proofs.Ytdfhhfpfnkjbnaa
