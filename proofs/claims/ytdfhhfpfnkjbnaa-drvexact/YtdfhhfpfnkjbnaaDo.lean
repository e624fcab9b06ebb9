/- drv: what becomes of a driver by an answer. -/
import Derived.Test.YtdfhhfpfnkjbnaaDn
import Derived.Test.YtdfhhfpfnkjbnaaDf
namespace Go.Proofs.Ytdfhhfpfnkjbnaa
open Go.RowKit Go.Conc
set_option maxRecDepth 20000 in
set_option maxHeartbeats 1000000 in
theorem known_any (addr id : Int) (want : Bool) (per st fails : Int) (tried : Bool) (left bad : Int) (a : Option Addr) (n c : Nat) (w : World) : Calls Try.prog 71 #[drv ⟨addr, id, want, per, st, fails, tried, left, bad⟩, .slice a n c] w fun e w' => e = .returned (.tuple #[drv ⟨addr, id, want, per, 2, 0, tried, 0, bad⟩, .slice none 0 0]) ∧ Ext w w' := by
  have H : Hid (∀ W, Calls Try.prog 39 #[drv ⟨addr, id, want, per, st, fails, tried, left, bad⟩, .int .i64 2] W fun e w' => e = .returned (drv ⟨addr, id, want, per, 2, 0, tried, 0, bad⟩) ∧ Ext W w') := enter_any _ _
  have hx : Ext w ((w.alloc (dro ⟨addr, id, want, per, st, fails, tried, left, bad⟩)).alloc zro') := ((Ext.refl w).alloc _).alloc _
  have hz : Hid (DV ((w.alloc (dro ⟨addr, id, want, per, st, fails, tried, left, bad⟩)).alloc zro') (w.heap.size + 1) zeroD) := dv_at (by simp) zeroD
  go_enter Try.func71, Try.ntmps71
  go_wp2_with (go_at_call 39; refine (H.out _).mono ?_; rintro e w2 ⟨rfl, x2⟩; obtain ⟨⟨d0, d1, d2, d3, d4, d5, d6, d7, d8⟩, f0, f1, f2, f3, f4, f5, f6, f7, f8⟩ := hz.out.ext x2; simp only [Nat.zero_add, zeroD] at d0 d1 d2 d3 d4 d5 d6 d7 d8)
  have hx9 : Ext w (put9 w2 (w.heap.size + 1) ⟨addr, id, want, per, 2, 0, tried, 0, bad⟩) := (hx.trans x2).put9 (Nat.le_succ _) _
  exact bodyPost_ret (v := .tuple #[drv ⟨addr, id, want, per, 2, 0, tried, 0, bad⟩, .slice none 0 0]) (by simp [results, Try.results71, go_sem, d0, d1, d2, d3, d4, d5, d6, d7, d8]) rfl ⟨rfl, hx9⟩
set_option maxRecDepth 20000 in
set_option maxHeartbeats 1000000 in
theorem timed_any (addr id : Int) (want : Bool) (per st fails : Int) (tried : Bool) (left bad : Int) (a : Option Addr) (n c : Nat) (w : World) : Calls Try.prog 74 #[drv ⟨addr, id, want, per, st, fails, tried, left, bad⟩, .slice a n c] w fun e w' => e = .returned (.tuple #[drv ⟨addr, id, want, per, 3, 0, tried, 0, bad⟩, .slice none 0 0]) ∧ Ext w w' := by
  have H : Hid (∀ W, Calls Try.prog 39 #[drv ⟨addr, id, want, per, st, fails, tried, left, bad⟩, .int .i64 3] W fun e w' => e = .returned (drv ⟨addr, id, want, per, 3, 0, tried, 0, bad⟩) ∧ Ext W w') := enter_any _ _
  have hx : Ext w ((w.alloc (dro ⟨addr, id, want, per, st, fails, tried, left, bad⟩)).alloc zro') := ((Ext.refl w).alloc _).alloc _
  have hz : Hid (DV ((w.alloc (dro ⟨addr, id, want, per, st, fails, tried, left, bad⟩)).alloc zro') (w.heap.size + 1) zeroD) := dv_at (by simp) zeroD
  go_enter Try.func74, Try.ntmps74
  go_wp2_with (go_at_call 39; refine (H.out _).mono ?_; rintro e w2 ⟨rfl, x2⟩; obtain ⟨⟨d0, d1, d2, d3, d4, d5, d6, d7, d8⟩, f0, f1, f2, f3, f4, f5, f6, f7, f8⟩ := hz.out.ext x2; simp only [Nat.zero_add, zeroD] at d0 d1 d2 d3 d4 d5 d6 d7 d8)
  have hx9 : Ext w (put9 w2 (w.heap.size + 1) ⟨addr, id, want, per, 3, 0, tried, 0, bad⟩) := (hx.trans x2).put9 (Nat.le_succ _) _
  exact bodyPost_ret (v := .tuple #[drv ⟨addr, id, want, per, 3, 0, tried, 0, bad⟩, .slice none 0 0]) (by simp [results, Try.results74, go_sem, d0, d1, d2, d3, d4, d5, d6, d7, d8]) rfl ⟨rfl, hx9⟩
set_option maxRecDepth 20000 in
set_option maxHeartbeats 1000000 in
theorem started_any (addr id : Int) (want : Bool) (per st fails : Int) (tried : Bool) (left bad : Int) (a : Option Addr) (n c : Nat) (w : World) : Calls Try.prog 76 #[drv ⟨addr, id, want, per, st, fails, tried, left, bad⟩, .slice a n c] w fun e w' => e = .returned (.tuple #[drv ⟨addr, id, want, per, 4, 0, false, 0, bad⟩, .slice none 0 0]) ∧ Ext w w' := by
  have H : Hid (∀ W, Calls Try.prog 39 #[drv ⟨addr, id, want, per, st, fails, false, left, bad⟩, .int .i64 4] W fun e w' => e = .returned (drv ⟨addr, id, want, per, 4, 0, false, 0, bad⟩) ∧ Ext W w') := enter_any _ _
  have hx : Ext w ((w.alloc (dro ⟨addr, id, want, per, st, fails, false, left, bad⟩)).alloc zro') := ((Ext.refl w).alloc _).alloc _
  have hz : Hid (DV ((w.alloc (dro ⟨addr, id, want, per, st, fails, false, left, bad⟩)).alloc zro') (w.heap.size + 1) zeroD) := dv_at (by simp) zeroD
  go_enter Try.func76, Try.ntmps76
  go_wp2_with (go_at_call 39; refine (H.out _).mono ?_; rintro e w2 ⟨rfl, x2⟩; obtain ⟨⟨d0, d1, d2, d3, d4, d5, d6, d7, d8⟩, f0, f1, f2, f3, f4, f5, f6, f7, f8⟩ := hz.out.ext x2; simp only [Nat.zero_add, zeroD] at d0 d1 d2 d3 d4 d5 d6 d7 d8)
  have hx9 : Ext w (put9 w2 (w.heap.size + 1) ⟨addr, id, want, per, 4, 0, false, 0, bad⟩) := (hx.trans x2).put9 (Nat.le_succ _) _
  exact bodyPost_ret (v := .tuple #[drv ⟨addr, id, want, per, 4, 0, false, 0, bad⟩, .slice none 0 0]) (by simp [results, Try.results76, go_sem, d0, d1, d2, d3, d4, d5, d6, d7, d8]) rfl ⟨rfl, hx9⟩
set_option maxRecDepth 20000 in
set_option maxHeartbeats 1000000 in
theorem stopped_any (addr id : Int) (want : Bool) (per st fails : Int) (tried : Bool) (left bad : Int) (a : Option Addr) (n c : Nat) (w : World) : Calls Try.prog 83 #[drv ⟨addr, id, want, per, st, fails, tried, left, bad⟩, .slice a n c] w fun e w' => e = .returned (.tuple #[drv ⟨addr, id, want, per, 0, 0, false, 0, bad⟩, .slice none 0 0]) ∧ Ext w w' := by
  have H : Hid (∀ W, Calls Try.prog 39 #[drv ⟨addr, id, want, per, st, fails, false, left, bad⟩, .int .i64 0] W fun e w' => e = .returned (drv ⟨addr, id, want, per, 0, 0, false, 0, bad⟩) ∧ Ext W w') := enter_any _ _
  have hx : Ext w ((w.alloc (dro ⟨addr, id, want, per, st, fails, false, left, bad⟩)).alloc zro') := ((Ext.refl w).alloc _).alloc _
  have hz : Hid (DV ((w.alloc (dro ⟨addr, id, want, per, st, fails, false, left, bad⟩)).alloc zro') (w.heap.size + 1) zeroD) := dv_at (by simp) zeroD
  go_enter Try.func83, Try.ntmps83
  go_wp2_with (go_at_call 39; refine (H.out _).mono ?_; rintro e w2 ⟨rfl, x2⟩; obtain ⟨⟨d0, d1, d2, d3, d4, d5, d6, d7, d8⟩, f0, f1, f2, f3, f4, f5, f6, f7, f8⟩ := hz.out.ext x2; simp only [Nat.zero_add, zeroD] at d0 d1 d2 d3 d4 d5 d6 d7 d8)
  have hx9 : Ext w (put9 w2 (w.heap.size + 1) ⟨addr, id, want, per, 0, 0, false, 0, bad⟩) := (hx.trans x2).put9 (Nat.le_succ _) _
  exact bodyPost_ret (v := .tuple #[drv ⟨addr, id, want, per, 0, 0, false, 0, bad⟩, .slice none 0 0]) (by simp [results, Try.results83, go_sem, d0, d1, d2, d3, d4, d5, d6, d7, d8]) rfl ⟨rfl, hx9⟩
set_option maxRecDepth 20000 in
set_option maxHeartbeats 1000000 in
theorem renewed_t (addr id : Int) (per st fails : Int) (tried : Bool) (left bad : Int) (a : Option Addr) (n c : Nat) (w : World) : Calls Try.prog 85 #[drv ⟨addr, id, true, per, st, fails, tried, left, bad⟩, .slice a n c] w fun e w' => e = .returned (.tuple #[drv ⟨addr, id, true, per, 1, 0, true, 0, bad⟩, .slice none 0 0]) ∧ Ext w w' := by
  have H : Hid (∀ W, Calls Try.prog 39 #[drv ⟨addr, id, true, per, st, fails, true, left, bad⟩, .int .i64 1] W fun e w' => e = .returned (drv ⟨addr, id, true, per, 1, 0, true, 0, bad⟩) ∧ Ext W w') := enter_any _ _
  have hx : Ext w ((w.alloc (dro ⟨addr, id, true, per, st, fails, true, left, bad⟩)).alloc zro') := ((Ext.refl w).alloc _).alloc _
  have hz : Hid (DV ((w.alloc (dro ⟨addr, id, true, per, st, fails, true, left, bad⟩)).alloc zro') (w.heap.size + 1) zeroD) := dv_at (by simp) zeroD
  go_enter Try.func85, Try.ntmps85
  go_wp2_with (go_at_call 39; refine (H.out _).mono ?_; rintro e w2 ⟨rfl, x2⟩; obtain ⟨⟨d0, d1, d2, d3, d4, d5, d6, d7, d8⟩, f0, f1, f2, f3, f4, f5, f6, f7, f8⟩ := hz.out.ext x2; simp only [Nat.zero_add, zeroD] at d0 d1 d2 d3 d4 d5 d6 d7 d8)
  have hx9 : Ext w (put9 w2 (w.heap.size + 1) ⟨addr, id, true, per, 1, 0, true, 0, bad⟩) := (hx.trans x2).put9 (Nat.le_succ _) _
  exact bodyPost_ret (v := .tuple #[drv ⟨addr, id, true, per, 1, 0, true, 0, bad⟩, .slice none 0 0]) (by simp [results, Try.results85, go_sem, d0, d1, d2, d3, d4, d5, d6, d7, d8]) rfl ⟨rfl, hx9⟩
set_option maxRecDepth 20000 in
set_option maxHeartbeats 1000000 in
theorem renewed_f (addr id : Int) (per st fails : Int) (tried : Bool) (left bad : Int) (a : Option Addr) (n c : Nat) (w : World) : Calls Try.prog 85 #[drv ⟨addr, id, false, per, st, fails, tried, left, bad⟩, .slice a n c] w fun e w' => e = .returned (.tuple #[drv ⟨addr, id, false, per, 6, 0, true, 0, bad⟩, .slice none 0 0]) ∧ Ext w w' := by
  have H : Hid (∀ W, Calls Try.prog 39 #[drv ⟨addr, id, false, per, st, fails, true, left, bad⟩, .int .i64 6] W fun e w' => e = .returned (drv ⟨addr, id, false, per, 6, 0, true, 0, bad⟩) ∧ Ext W w') := enter_any _ _
  have hx : Ext w ((w.alloc (dro ⟨addr, id, false, per, st, fails, true, left, bad⟩)).alloc zro') := ((Ext.refl w).alloc _).alloc _
  have hz : Hid (DV ((w.alloc (dro ⟨addr, id, false, per, st, fails, true, left, bad⟩)).alloc zro') (w.heap.size + 1) zeroD) := dv_at (by simp) zeroD
  go_enter Try.func85, Try.ntmps85
  go_wp2_with (go_at_call 39; refine (H.out _).mono ?_; rintro e w2 ⟨rfl, x2⟩; obtain ⟨⟨d0, d1, d2, d3, d4, d5, d6, d7, d8⟩, f0, f1, f2, f3, f4, f5, f6, f7, f8⟩ := hz.out.ext x2; simp only [Nat.zero_add, zeroD] at d0 d1 d2 d3 d4 d5 d6 d7 d8)
  have hx9 : Ext w (put9 w2 (w.heap.size + 1) ⟨addr, id, false, per, 6, 0, true, 0, bad⟩) := (hx.trans x2).put9 (Nat.le_succ _) _
  exact bodyPost_ret (v := .tuple #[drv ⟨addr, id, false, per, 6, 0, true, 0, bad⟩, .slice none 0 0]) (by simp [results, Try.results85, go_sem, d0, d1, d2, d3, d4, d5, d6, d7, d8]) rfl ⟨rfl, hx9⟩
set_option maxRecDepth 20000 in
set_option maxHeartbeats 2000000 in
theorem counted_z (addr id : Int) (want : Bool) (per st fails : Int) (tried : Bool) (left bad : Int) (g o n c : Nat) (hn : 1 ≤ n) (w : World) (hc : w.cell? ⟨g, o, none⟩ = some (.int .u8 0)) : Calls Try.prog 79 #[drv ⟨addr, id, want, per, st, fails, tried, left, bad⟩, .slice (some ⟨g, o, none⟩) n c] w fun e w' => e = .returned (.tuple #[drv ⟨addr, id, want, per, 4, 0, tried, 0, bad⟩, .slice none 0 0]) ∧ Ext w w' := by
  have H : Hid (∀ W, Calls Try.prog 39 #[drv ⟨addr, id, want, per, st, fails, tried, left, bad⟩, .int .i64 4] W fun e w' => e = .returned (drv ⟨addr, id, want, per, 4, 0, tried, 0, bad⟩) ∧ Ext W w') := enter_any _ _
  have hx : Ext w ((w.alloc (dro ⟨addr, id, want, per, st, fails, tried, left, bad⟩)).alloc zro') := ((Ext.refl w).alloc _).alloc _
  have hz : Hid (DV ((w.alloc (dro ⟨addr, id, want, per, st, fails, tried, left, bad⟩)).alloc zro') (w.heap.size + 1) zeroD ∧ DV ((w.alloc (dro ⟨addr, id, want, per, st, fails, tried, left, bad⟩)).alloc zro') w.heap.size ⟨addr, id, want, per, st, fails, tried, left, bad⟩) := ⟨dv_at (by simp) zeroD, (dv_at rfl _).ext ((Ext.refl _).alloc _)⟩
  have hc2 := hx.keepc hc
  have hni : (0 : Int) < (n : Int) := by omega
  go_enter Try.func79, Try.ntmps79
  go_wp2_with (go_at_call 39; refine (H.out _).mono ?_; rintro e w2 ⟨rfl, x2⟩; obtain ⟨⟨d0, d1, d2, d3, d4, d5, d6, d7, d8⟩, f0, f1, f2, f3, f4, f5, f6, f7, f8⟩ := hz.out.1.ext x2; simp only [Nat.zero_add, zeroD] at d0 d1 d2 d3 d4 d5 d6 d7 d8)
  have hx9 : Ext w (put9 w2 (w.heap.size + 1) ⟨addr, id, want, per, 4, 0, tried, 0, bad⟩) := (hx.trans x2).put9 (Nat.le_succ _) _
  exact bodyPost_ret (v := .tuple #[drv ⟨addr, id, want, per, 4, 0, tried, 0, bad⟩, .slice none 0 0]) (by simp [results, Try.results79, go_sem, d0, d1, d2, d3, d4, d5, d6, d7, d8]) rfl ⟨rfl, hx9⟩
set_option maxRecDepth 20000 in
set_option maxHeartbeats 2000000 in
theorem counted_n (addr id : Int) (want : Bool) (per st fails : Int) (tried : Bool) (left bad : Int) (b : Int) (hb : b ≠ 0) (hb1 : 0 ≤ b) (hb2 : b ≤ 255) (g o n c : Nat) (hn : 1 ≤ n) (w : World) (hc : w.cell? ⟨g, o, none⟩ = some (.int .u8 b)) : Calls Try.prog 79 #[drv ⟨addr, id, want, per, st, fails, tried, left, bad⟩, .slice (some ⟨g, o, none⟩) n c] w fun e w' => e = .returned (.tuple #[drv ⟨addr, id, want, per, 5, 0, tried, b, bad⟩, .slice none 0 0]) ∧ Ext w w' := by
  have H : Hid (∀ W, Calls Try.prog 39 #[drv ⟨addr, id, want, per, st, fails, tried, left, bad⟩, .int .i64 5] W fun e w' => e = .returned (drv ⟨addr, id, want, per, 5, 0, tried, 0, bad⟩) ∧ Ext W w') := enter_any _ _
  have hx : Ext w ((w.alloc (dro ⟨addr, id, want, per, st, fails, tried, left, bad⟩)).alloc zro') := ((Ext.refl w).alloc _).alloc _
  have hz : Hid (DV ((w.alloc (dro ⟨addr, id, want, per, st, fails, tried, left, bad⟩)).alloc zro') (w.heap.size + 1) zeroD ∧ DV ((w.alloc (dro ⟨addr, id, want, per, st, fails, tried, left, bad⟩)).alloc zro') w.heap.size ⟨addr, id, want, per, st, fails, tried, left, bad⟩) := ⟨dv_at (by simp) zeroD, (dv_at rfl _).ext ((Ext.refl _).alloc _)⟩
  have hc2 := hx.keepc hc
  have hni : (0 : Int) < (n : Int) := by omega
  have hbb : (b == 0) = false := beq_eq_false_iff_ne.2 hb
  have n1 : w.heap.size ≠ w.heap.size + 1 := by omega
  have n2 : w.heap.size + 1 ≠ w.heap.size := by omega
  go_enter Try.func79, Try.ntmps79
  go_upto_region 5 with (go_at_call 39; refine (H.out _).mono ?_; rintro e w2 ⟨rfl, x2⟩; obtain ⟨⟨d0, d1, d2, d3, d4, d5, d6, d7, d8⟩, f0, f1, f2, f3, f4, f5, f6, f7, f8⟩ := hz.out.2.ext x2; simp only [Nat.zero_add] at d0 d1 d2 d3 d4 d5 d6 d7 d8)
  have ep : Hid (put9 w2 w.heap.size ⟨addr, id, want, per, 5, 0, tried, 0, bad⟩ = ((((((((w2.setCell ⟨w.heap.size, 0, none⟩ (.int .i64 addr)).setCell ⟨w.heap.size, 1, none⟩ (.int .i64 id)).setCell ⟨w.heap.size, 2, none⟩ (.bool want)).setCell ⟨w.heap.size, 3, none⟩ (.int .i64 per)).setCell ⟨w.heap.size, 4, none⟩ (.int .i64 5)).setCell ⟨w.heap.size, 5, none⟩ (.int .i64 0)).setCell ⟨w.heap.size, 6, none⟩ (.bool tried)).setCell ⟨w.heap.size, 7, none⟩ (.int .i64 0)).setCell ⟨w.heap.size, 8, none⟩ (.int .i64 bad)) := rfl
  rw [← ep.out]
  have V : Hid (DV (put9 w2 w.heap.size ⟨addr, id, want, per, 5, 0, tried, 0, bad⟩) w.heap.size ⟨addr, id, want, per, 5, 0, tried, 0, bad⟩ ∧ DV (put9 w2 w.heap.size ⟨addr, id, want, per, 5, 0, tried, 0, bad⟩) (w.heap.size + 1) zeroD ∧ Ext w (put9 w2 w.heap.size ⟨addr, id, want, per, 5, 0, tried, 0, bad⟩)) := ⟨(hz.out.2.ext x2).put9 _, (hz.out.1.ext x2).tn (tn_put9 _ _ _) (by omega), (hx.trans x2).put9 (Nat.le_refl _) _⟩
  clear ep d0 d1 d2 d3 d4 d5 d6 d7 d8 f0 f1 f2 f3 f4 f5 f6 f7 f8
  generalize put9 w2 w.heap.size ⟨addr, id, want, per, 5, 0, tried, 0, bad⟩ = w3 at *
  obtain ⟨⟨d0, d1, d2, d3, d4, d5, d6, d7, d8⟩, f0, f1, f2, f3, f4, f5, f6, f7, f8⟩ := V.out.1
  obtain ⟨⟨e0, e1, e2, e3, e4, e5, e6, e7, e8⟩, g0, g1, g2, g3, g4, g5, g6, g7, g8⟩ := V.out.2.1
  simp only [Nat.zero_add, zeroD] at d0 d1 d2 d3 d4 d5 d6 d7 d8 e0 e1 e2 e3 e4 e5 e6 e7 e8
  have hx9 : Ext w (put9 (w3.setCell ⟨w.heap.size, 7, none⟩ (.int .i64 b)) (w.heap.size + 1) ⟨addr, id, want, per, 5, 0, tried, b, bad⟩) := (V.out.2.2.new (Nat.le_refl _) _ _).put9 (Nat.le_succ _) _
  go_wp2_with fail
  exact bodyPost_ret (v := .tuple #[drv ⟨addr, id, want, per, 5, 0, tried, b, bad⟩, .slice none 0 0]) (by simp [results, Try.results79, go_sem, e0, e1, e2, e3, e4, e5, e6, e7, e8]) rfl ⟨rfl, hx9⟩
set_option maxRecDepth 20000 in
set_option maxHeartbeats 1000000 in
theorem isany_any (d : Dr) (v : Value) (w : World) : Calls Try.prog 73 #[drv d, v] w fun e w' => e = .returned (.bool true) ∧ Ext w w' := by
  have hx : Ext w (w.alloc (dro d)) := (Ext.refl w).alloc _
  go_enter Try.func73, Try.ntmps73
  go_wp2
  go_ret
  exact ⟨rfl, hx⟩
set_option maxRecDepth 20000 in
set_option maxHeartbeats 1000000 in
theorem iscount_any (d : Dr) (g o n c : Nat) (hn : 1 ≤ n) (b : Int) (w : World) (hc : w.cell? ⟨g, o, none⟩ = some (.int .u8 b)) : Calls Try.prog 78 #[drv d, .slice (some ⟨g, o, none⟩) n c] w fun e w' => e = .returned (.bool (decide (b ≤ 16))) ∧ Ext w w' := by
  have hx : Ext w (w.alloc (dro d)) := (Ext.refl w).alloc _
  have hc2 := hx.keepc hc
  have hni : (0 : Int) < (n : Int) := by omega
  go_enter Try.func78, Try.ntmps78
  go_wp2
  go_ret
  exact ⟨rfl, hx⟩
set_option maxRecDepth 20000 in
set_option maxHeartbeats 1000000 in
theorem isown_any (addr id : Int) (want : Bool) (per st fails : Int) (tried : Bool) (left bad : Int) (g o n c : Nat) (hn : 1 ≤ n) (b : Int) (hb : 0 ≤ b ∧ b ≤ 255) (w : World) (hc : w.cell? ⟨g, o, none⟩ = some (.int .u8 b)) : Calls Try.prog 70 #[drv ⟨addr, id, want, per, st, fails, tried, left, bad⟩, .slice (some ⟨g, o, none⟩) n c] w fun e w' => e = .returned (.bool (b == id)) ∧ Ext w w' := by
  have hx : Ext w (w.alloc (dro ⟨addr, id, want, per, st, fails, tried, left, bad⟩)) := (Ext.refl w).alloc _
  have hc2 := hx.keepc hc
  have hni : (0 : Int) < (n : Int) := by omega
  obtain ⟨b1, b2⟩ := hb
  go_enter Try.func70, Try.ntmps70
  go_wp2_with fail
  go_quiet (fail)
  go_wp2_with fail
  go_ret
  exact ⟨rfl, hx.trans (drewN_ext _)⟩
/-- behind an answer that is not good -/
def missD (d : Dr) : Dr := if d.st = 7 then enterD d 8 else if d.fails + 1 < 3 then { d with fails := d.fails + 1 } else if d.tried = true then enterD d 8 else enterD d 7
end Go.Proofs.Ytdfhhfpfnkjbnaa
