/- What the statements of layer 9 share. -/
import Derived.Test.YtdfhhfpfnkjbnaaDg
import Derived.Test.YtdfhhfpfnkjbnaaDh
namespace Go.Proofs.Ytdfhhfpfnkjbnaa
open Go.RowKit Go.Conc
set_option maxHeartbeats 400000 in
theorem num9_any (v : Int) (w : World) :
    Calls Try.prog 11 #[.int .i64 v] w fun e w' => e = .returned (.int .i64 v) ∧ w' = w := by
  go_enter Try.func11, Try.ntmps11
  go_wp2
  go_ret
  exact ⟨rfl, rfl⟩
set_option maxHeartbeats 2000000 in
theorem eqby_any {l : List Int} {B B' : Nat} (a : Option Addr) (c : Nat) (a' : Option Addr) (c' : Nat) (w : World) (hu : RdY w B a l) (hv : RdY w B' a' l) (hS : l.length ≤ 100000) :
    Calls Try.prog 34 #[.slice a l.length c, .slice a' l.length c'] w fun e w' => e = .returned (.bool true) ∧ Ext w w' := by
  have HA : Hid (RdY w B a l) := hu
  have HB : Hid (RdY w B' a' l) := hv
  have HL : Hid (l.length ≤ 100000) := hS
  clear hu hv hS
  go_enter Try.func34, Try.ntmps34
  go_wp2_with fail
  go_loopw [5] (fun s5 wr => ∃ j : Nat, j ≤ l.length ∧ s5 = .int .i64 j ∧ Ext w wr) (fun s5 _ => l.length - (intOf s5).toNat)
  case atStart => exact ⟨0, Nat.zero_le _, rfl, Ext.refl _⟩
  case round =>
    obtain ⟨j, hj, rfl, hx⟩ := hrel
    by_cases hlt : j < l.length
    · have hjx : (j : Int) < (l.length : Int) := by omega
      obtain ⟨b1, o1, rfl, _, c0⟩ := HA.out j hlt
      obtain ⟨b2, o2, rfl, _, c2⟩ := HB.out j hlt
      have c0 := hx.keepc c0
      have c2 := hx.keepc c2
      have hL := HL.out
      generalize l.getD j 0 = t1 at *
      have hs63 : (j : Int) + 1 ≤ 100000 := by omega
      have HS63 : Hid ((j : Int) + 1 ≤ 100000) := hs63
      clear hL hs63
      go_upto_region 6 with fail
      go_quiet (fail)
      have X : Hid (Ext w (wr.drewN nq)) := hx.trans (drewN_ext nq)
      have hj2 : (j : Int) ≤ 9223372036854775806 := by have := HS63.out; omega
      go_wp2_with fail
      go_roundw
      case measure => simp [intOf]; omega
      case rel => exact ⟨j + 1, by omega, by simp, X.out⟩
    · have hjx : ¬ (j : Int) < (l.length : Int) := by omega
      go_wp2_with fail
      go_ret
      exact ⟨rfl, hx⟩
set_option maxRecDepth 20000 in
set_option maxHeartbeats 2000000 in
theorem eqtx_any {l : List Int} {B B' : Nat} (addr reg n : Int) (a : Option Addr) (c : Nat) (a' : Option Addr) (c' : Nat) (w : World) (hu : RdY w B a l) (hv : RdY w B' a' l) (hS : l.length ≤ 100000) :
    Calls Try.prog 12 #[txw addr reg a l.length c n, txw addr reg a' l.length c' n] w fun e w' => e = .returned (.bool true) ∧ Ext w w' := by
  have x : Ext w ((w.alloc (txo addr reg a l.length c n)).alloc (txo addr reg a' l.length c' n)) := ((Ext.refl w).alloc _).alloc _
  have HE := eqby_any a c a' c' _ (hu.ext x) (hv.ext x) hS
  have p1 : Hid (Q4 ((w.alloc (txo addr reg a l.length c n)).alloc (txo addr reg a' l.length c' n)) w.heap.size (.int .i64 addr) (.int .i64 reg) (.slice a l.length c) (.int .i64 n)) := (q4_at rfl).ext ((Ext.refl _).alloc _)
  have p2 : Hid (Q4 ((w.alloc (txo addr reg a l.length c n)).alloc (txo addr reg a' l.length c' n)) (w.heap.size + 1) (.int .i64 addr) (.int .i64 reg) (.slice a' l.length c') (.int .i64 n)) := q4_at (by simp)
  clear hu hv hS
  go_enter Try.func12, Try.ntmps12
  go_upto_region 1 with fail
  generalize ((w.alloc (txo addr reg a l.length c n)).alloc (txo addr reg a' l.length c' n)) = w1 at *
  obtain ⟨⟨q0, q1, q2, q3⟩, _⟩ := p1.out
  obtain ⟨⟨r0, r1, r2, r3⟩, _⟩ := p2.out
  go_wp2_with (go_at_call 34; refine HE.mono ?_; rintro e w2 ⟨rfl, x2⟩; obtain ⟨⟨q4, q5, q6, q7⟩, _⟩ := p1.out.ext x2; obtain ⟨⟨r4, r5, r6, r7⟩, _⟩ := p2.out.ext x2)
  go_ret
  exact ⟨rfl, x.trans x2⟩
set_option maxRecDepth 20000 in
set_option maxHeartbeats 4000000 in
theorem wakes9_any (w : World) : Calls Try.prog 13 #[] w fun e w' => e = .returned (.bool true) ∧ Ext w w' := by
  have HN : Hid (∀ W, Calls Try.prog 23 #[.int .i64 16, .int .i64 49] W fun e w' => e = .returned (.tuple #[drv ⟨16, 49, false, 1, 0, 0, false, 0, 0⟩, .int .i64 0]) ∧ Ext W w') := fun W => newdr_any 16 49 W
  have HS : Hid (∀ W, Calls Try.prog 14 #[drv ⟨16, 49, false, 1, 0, 0, false, 0, 0⟩, .bool true, .int .i64 10] W fun e w' => e = .returned (.tuple #[drv ⟨16, 49, true, 10, 1, 0, false, 0, 0⟩, .int .i64 0]) ∧ Ext W w') := fun W => setdr_any ⟨16, 49, false, 1, 0, 0, false, 0, 0⟩ true 10 W
  have HX : Hid (∀ W, Calls Try.prog 9 #[drv ⟨16, 49, true, 10, 1, 0, false, 0, 0⟩] W fun e w' => ∃ a c, e = .returned (.tuple #[txw 16 0 a 0 c 1, .bool true, .int .i64 0]) ∧ Ext W w') := fun W => (next_some ⟨16, 49, true, 10, 1, 0, false, 0, 0⟩ rfl rfl W).mono fun e w' ⟨a, c, h1, _, h3⟩ => ⟨a, c, h1, h3⟩
  have HNU : Hid (∀ v w', Calls Try.prog 11 #[.int .i64 v] w' fun e w'' => e = .returned (.int .i64 v) ∧ w'' = w') := num9_any
  go_enter Try.func13, Try.ntmps13
  go_upto_region 2 with (go_at_call 23; refine (HN.out _).mono ?_; rintro e w1 ⟨rfl, x1⟩)
  have d1 : Hid (DV (w1.alloc (dro ⟨16, 49, false, 1, 0, 0, false, 0, 0⟩)) w1.heap.size ⟨16, 49, false, 1, 0, 0, false, 0, 0⟩ ∧ Ext w (w1.alloc (dro ⟨16, 49, false, 1, 0, 0, false, 0, 0⟩))) := ⟨dv_at rfl _, x1.alloc _⟩
  have hV : w.heap.size ≤ w1.heap.size := x1.size
  clear x1
  generalize w1.heap.size = V at *
  generalize w1.alloc (.cells #[.int .i64 16, .int .i64 49, .bool false, .int .i64 1, .int .i64 0, .int .i64 0, .bool false, .int .i64 0, .int .i64 0] 24) = w2 at *
  obtain ⟨⟨c0, c1, c2, c3, c4, c5, c6, c7, c8⟩, f0, f1, f2, f3, f4, f5, f6, f7, f8⟩ := d1.out.1
  simp only [Nat.zero_add] at c0 c1 c2 c3 c4 c5 c6 c7 c8
  go_upto_region 3 with (go_at_call 14; refine (HS.out _).mono ?_; rintro e w3 ⟨rfl, x3⟩; clear c0 c1 c2 c3 c4 c5 c6 c7 c8 f0 f1 f2 f3 f4 f5 f6 f7 f8; obtain ⟨⟨c0, c1, c2, c3, c4, c5, c6, c7, c8⟩, f0, f1, f2, f3, f4, f5, f6, f7, f8⟩ := d1.out.1.ext x3; simp only [Nat.zero_add] at c0 c1 c2 c3 c4 c5 c6 c7 c8)
  have d3 : Hid (DV (put9 w3 V ⟨16, 49, true, 10, 1, 0, false, 0, 0⟩) V ⟨16, 49, true, 10, 1, 0, false, 0, 0⟩ ∧ Ext w (put9 w3 V ⟨16, 49, true, 10, 1, 0, false, 0, 0⟩)) := ⟨(d1.out.1.ext x3).put9 _, (d1.out.2.trans x3).put9 hV _⟩
  have ep : Hid (put9 w3 V ⟨16, 49, true, 10, 1, 0, false, 0, 0⟩ = ((((((((w3.setCell ⟨V, 0, none⟩ (.int .i64 16)).setCell ⟨V, 1, none⟩ (.int .i64 49)).setCell ⟨V, 2, none⟩ (.bool true)).setCell ⟨V, 3, none⟩ (.int .i64 10)).setCell ⟨V, 4, none⟩ (.int .i64 1)).setCell ⟨V, 5, none⟩ (.int .i64 0)).setCell ⟨V, 6, none⟩ (.bool false)).setCell ⟨V, 7, none⟩ (.int .i64 0)).setCell ⟨V, 8, none⟩ (.int .i64 0)) := rfl
  rw [← ep.out]
  clear ep x3 d1 c0 c1 c2 c3 c4 c5 c6 c7 c8 f0 f1 f2 f3 f4 f5 f6 f7 f8
  generalize put9 w3 V ⟨16, 49, true, 10, 1, 0, false, 0, 0⟩ = w4 at *
  obtain ⟨⟨c0, c1, c2, c3, c4, c5, c6, c7, c8⟩, _⟩ := d3.out.1
  simp only [Nat.zero_add] at c0 c1 c2 c3 c4 c5 c6 c7 c8
  go_wp2_with (first | (go_at_call 9; refine (HX.out _).mono ?_; rintro e w5 ⟨a, c, rfl, x5⟩) | (go_at_call 11; refine (HNU.out _ _).mono ?_; rintro e wx ⟨rfl, hwx⟩; have hwy := hwx.symm; clear hwx; subst hwy))
  go_ret
  exact ⟨rfl, d3.out.2.trans (x5.alloc _)⟩
end Go.Proofs.Ytdfhhfpfnkjbnaa
