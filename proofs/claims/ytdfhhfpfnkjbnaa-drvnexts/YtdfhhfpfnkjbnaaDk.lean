/- DrvNexts. -/
import Derived.Test.YtdfhhfpfnkjbnaaAk
namespace Go.Proofs.Ytdfhhfpfnkjbnaa
open Go.RowKit Go.Conc
set_option maxRecDepth 20000 in
set_option maxHeartbeats 8000000 in
theorem nexts_any (w : World) (a : Option Addr) (L : List Ask) (cap : Nat) (_hl : L.length ≤ maxLen) (hA : AKs w a L) :
    Calls Try.prog 3 #[.slice a L.length cap] w fun e w' => e = .returned (.bool true) ∧ Ext w w' := by
  have HA : Hid (∀ wr, Ext w wr → AKs wr a L) := fun wr x => hA.ext x
  have HNU : Hid (∀ v w', Calls Try.prog 11 #[.int .i64 v] w' fun e w'' => e = .returned (.int .i64 v) ∧ w'' = w') := num9_any
  have HW : Hid (∀ w', Calls Try.prog 13 #[] w' fun e w'' => e = .returned (.bool true) ∧ Ext w' w'') := wakes9_any
  unfold maxLen at _hl
  clear hA
  go_enter Try.func3, Try.ntmps3
  go_wp2_with fail
  go_loopw [3, 4, 5, 6, 7, 8, 9] (fun i _ _ _ _ _ _ wr => ∃ k : Nat, k ≤ L.length ∧ k ≤ 30 ∧ i = .int .i64 k ∧ Hid (Ext w wr)) (fun i _ _ _ _ _ _ _ => 30 - (intOf i).toNat)
  case atStart => exact ⟨0, Nat.zero_le _, Nat.zero_le _, rfl, Ext.refl w⟩
  case round =>
    obtain ⟨k, hk, hk30, rfl, hR⟩ := hrel
    by_cases hlt : k < L.length
    · have hlti : (k : Int) < (L.length : Int) := by omega
      by_cases h30 : k < 30
      · have h30i : (k : Int) < 30 := by omega
        obtain ⟨b1, o1, da, dc, rfl, ⟨⟨c0, c1, c2, c3, c4, c5, c6, c7, c8⟩, _⟩, _⟩ := HA.out wr hR.out k hlt
        have HM : Hid (∀ W, Calls Try.prog 10 #[drv (gk L k).d] W fun e w' => e = .returned (.bool (okD (gk L k).d)) ∧ Ext W w') := mayd_any _
        have HSt : Hid (okD (gk L k).d = true → inn (gk L k).d.st 0 8 = true) := okD_st
        generalize (gk L k).d = d at *
        clear HA
        go_upto_region 5 with fail
        have V4 : Hid (DV (wr.alloc (dro d)) wr.heap.size d ∧ Ext w (wr.alloc (dro d))) := ⟨dv_at rfl d, hR.out.alloc _⟩
        generalize wr.heap.size = B4 at *
        generalize wr.alloc (dro d) = w4 at *
        clear c0 c1 c2 c3 c4 c5 c6 c7 c8
        obtain ⟨addr, id, dw, per, st, fails, tried, left, bad⟩ := d
        obtain ⟨⟨c0, c1, c2, c3, c4, c5, c6, c7, c8⟩, _⟩ := V4.out.1
        simp only [Nat.zero_add] at c0 c1 c2 c3 c4 c5 c6 c7 c8
        cases hok : okD ⟨addr, id, dw, per, st, fails, tried, left, bad⟩
        · rw [hok] at HM
          have HN : Hid (∀ W, Calls Try.prog 9 #[drv ⟨addr, id, dw, per, st, fails, tried, left, bad⟩] W fun e w' => e = .returned (.tuple #[notx, .bool false, .int .i64 1]) ∧ Ext W w') := next_bad _ hok
          have HE : Hid (∀ W, Calls Try.prog 12 #[notx, notx] W fun e w' => e = .returned (.bool true) ∧ Ext W w') := fun W => eqtx_any (l := []) 0 0 0 none 0 none 0 W (rdy_nil W 0 none) (rdy_nil W 0 none) (by simp)
          clear hok HSt
          go_upto_region 6 with (go_at_call 9; refine (HN.out _).mono ?_; rintro e w5 ⟨rfl, x5⟩)
          have V5 : Hid (DV (w5.alloc tx0) B4 ⟨addr, id, dw, per, st, fails, tried, left, bad⟩ ∧ Q4 (w5.alloc tx0) w5.heap.size (.int .i64 0) (.int .i64 0) (.slice none 0 0) (.int .i64 0) ∧ Ext w (w5.alloc tx0)) := ⟨V4.out.1.ext (x5.alloc _), q4_at rfl, V4.out.2.trans (x5.alloc _)⟩
          clear c0 c1 c2 c3 c4 c5 c6 c7 c8 V4 x5 HN
          generalize w5.heap.size = B5 at *
          generalize w5.alloc tx0 = w6 at *
          obtain ⟨⟨c0, c1, c2, c3, c4, c5, c6, c7, c8⟩, _⟩ := V5.out.1
          simp only [Nat.zero_add] at c0 c1 c2 c3 c4 c5 c6 c7 c8
          go_upto_region 7 with (go_at_call 10; refine (HM.out _).mono ?_; rintro e w7 ⟨rfl, x7⟩)
          obtain ⟨⟨q0, q1, q2, q3⟩, _⟩ := V5.out.2.1.ext x7
          go_wp2_with (first | (go_at_call 11; refine (HNU.out _ _).mono ?_; rintro e wx ⟨rfl, hwx⟩; have hwy := hwx.symm; clear hwx; subst hwy) | (go_at_call 12; refine (HE.out _).mono ?_; rintro e w9 ⟨rfl, x9⟩))
          have XR : Hid (Ext w w9) := (V5.out.2.2.trans x7).trans x9
          go_roundw
          case measure => simp [intOf]; omega
          case rel => exact ⟨k + 1, by omega, by omega, by simp, XR⟩
        · rw [hok] at HM
          have hst := inn9 (HSt.out hok)
          clear HSt
          simp only at hst
          rcases hst with rfl | rfl | rfl | rfl | rfl | rfl | rfl | rfl | rfl
          · have HN : Hid (∀ W, Calls Try.prog 9 #[drv ⟨addr, id, dw, per, 0, fails, tried, left, bad⟩] W fun e w' => ∃ a c, e = .returned (.tuple #[txw 0 0 a 0 c 0, .bool false, .int .i64 0]) ∧ Hid (RdY w' 0 a []) ∧ Ext W w') := fun W => (next_none ⟨addr, id, dw, per, 0, fails, tried, left, bad⟩ hok rfl W).mono fun e w' ⟨h1, h3⟩ => ⟨none, 0, h1, rdy_nil _ _ _, h3⟩
            have HE : Hid (∀ W a c a' c', RdY W 0 a [] → RdY W 0 a' [] → Calls Try.prog 12 #[txw 0 0 a 0 c 0, txw 0 0 a' 0 c' 0] W fun e w' => e = .returned (.bool true) ∧ Ext W w') := fun W a c a' c' h1 h2 => eqtx_any (l := []) 0 0 0 a c a' c' W h1 h2 (by simp)
            clear hok
            go_upto_region 6 with (go_at_call 9; refine (HN.out _).mono ?_; rintro e w5 ⟨ta, tc, rfl, r5, x5⟩)
            have V5 : Hid (DV (w5.alloc (txo 0 0 ta 0 tc 0)) B4 ⟨addr, id, dw, per, 0, fails, tried, left, bad⟩ ∧ Q4 (w5.alloc (txo 0 0 ta 0 tc 0)) w5.heap.size (.int .i64 0) (.int .i64 0) (.slice ta 0 tc) (.int .i64 0) ∧ RdY (w5.alloc (txo 0 0 ta 0 tc 0)) 0 ta [] ∧ Ext w (w5.alloc (txo 0 0 ta 0 tc 0))) := ⟨V4.out.1.ext (x5.alloc _), q4_at rfl, r5.out.ext ((Ext.refl w5).alloc _), V4.out.2.trans (x5.alloc _)⟩
            clear c0 c1 c2 c3 c4 c5 c6 c7 c8 V4 x5 HN r5
            generalize w5.heap.size = B5 at *
            generalize w5.alloc (txo 0 0 ta 0 tc 0) = w6 at *
            obtain ⟨⟨c0, c1, c2, c3, c4, c5, c6, c7, c8⟩, _⟩ := V5.out.1
            simp only [Nat.zero_add] at c0 c1 c2 c3 c4 c5 c6 c7 c8
            go_upto_region 10 with (go_at_call 10; refine (HM.out _).mono ?_; rintro e w7 ⟨rfl, x7⟩; clear c0 c1 c2 c3 c4 c5 c6 c7 c8; obtain ⟨⟨c0, c1, c2, c3, c4, c5, c6, c7, c8⟩, _⟩ := V5.out.1.ext x7; simp only [Nat.zero_add] at c0 c1 c2 c3 c4 c5 c6 c7 c8)
            clear c0 c1 c2 c3 c4 c5 c6 c7 c8
            have y7 : Ext w6 (w7.alloc tx0) := x7.alloc _
            obtain ⟨⟨c0, c1, c2, c3, c4, c5, c6, c7, c8⟩, _⟩ := V5.out.1.ext y7
            simp only [Nat.zero_add] at c0 c1 c2 c3 c4 c5 c6 c7 c8
            go_upto_region 25 with fail
            have V8 : Hid (DV (w7.alloc tx0) B4 ⟨addr, id, dw, per, 0, fails, tried, left, bad⟩ ∧ Q4 (w7.alloc tx0) B5 (.int .i64 0) (.int .i64 0) (.slice ta 0 tc) (.int .i64 0) ∧ RdY (w7.alloc tx0) 0 ta [] ∧ Q4 (w7.alloc tx0) w7.heap.size (.int .i64 0) (.int .i64 0) (.slice none 0 0) (.int .i64 0) ∧ RdY (w7.alloc tx0) 0 none [] ∧ Ext w (w7.alloc tx0)) := ⟨V5.out.1.ext (x7.alloc _), V5.out.2.1.ext (x7.alloc _), V5.out.2.2.1.ext (x7.alloc _), q4_at rfl, rdy_nil _ _ _, V5.out.2.2.2.trans (x7.alloc _)⟩
            clear c0 c1 c2 c3 c4 c5 c6 c7 c8 V5 x7 y7 HM
            generalize (w7.alloc tx0) = w8 at *
            generalize w7.heap.size = B8 at *
            obtain ⟨⟨c0, c1, c2, c3, c4, c5, c6, c7, c8⟩, _⟩ := V8.out.1
            simp only [Nat.zero_add] at c0 c1 c2 c3 c4 c5 c6 c7 c8
            obtain ⟨⟨q0, q1, q2, q3⟩, _⟩ := V8.out.2.1
            obtain ⟨⟨r0, r1, r2, r3⟩, _⟩ := V8.out.2.2.2.1
            go_wp2_with (first | (go_at_call 11; refine (HNU.out _ _).mono ?_; rintro e wx ⟨rfl, hwx⟩; have hwy := hwx.symm; clear hwx; subst hwy) | (go_at_call 12; refine (HE.out _ _ _ _ _ V8.out.2.2.1 V8.out.2.2.2.2.1).mono ?_; rintro e w9 ⟨rfl, x9⟩))
            have XR : Hid (Ext w w9) := V8.out.2.2.2.2.2.trans x9
            go_roundw
            case measure => simp [intOf]; omega
            case rel => exact ⟨k + 1, by omega, by omega, by simp, XR⟩
          · have HN : Hid (∀ W, Calls Try.prog 9 #[drv ⟨addr, id, dw, per, 1, fails, tried, left, bad⟩] W fun e w' => ∃ a c, e = .returned (.tuple #[txw addr 0 a 0 c 1, .bool true, .int .i64 0]) ∧ Hid (RdY w' 0 a []) ∧ Ext W w') := fun W => (next_some ⟨addr, id, dw, per, 1, fails, tried, left, bad⟩ hok rfl W).mono fun e w' ⟨a, c, h1, h2, h3⟩ => ⟨a, c, h1, h2.mono (Nat.zero_le _), h3⟩
            have HE : Hid (∀ W a c a' c', RdY W 0 a [] → RdY W 0 a' [] → Calls Try.prog 12 #[txw addr 0 a 0 c 1, txw addr 0 a' 0 c' 1] W fun e w' => e = .returned (.bool true) ∧ Ext W w') := fun W a c a' c' h1 h2 => eqtx_any (l := []) addr 0 1 a c a' c' W h1 h2 (by simp)
            clear hok
            go_upto_region 6 with (go_at_call 9; refine (HN.out _).mono ?_; rintro e w5 ⟨ta, tc, rfl, r5, x5⟩)
            have V5 : Hid (DV (w5.alloc (txo addr 0 ta 0 tc 1)) B4 ⟨addr, id, dw, per, 1, fails, tried, left, bad⟩ ∧ Q4 (w5.alloc (txo addr 0 ta 0 tc 1)) w5.heap.size (.int .i64 addr) (.int .i64 0) (.slice ta 0 tc) (.int .i64 1) ∧ RdY (w5.alloc (txo addr 0 ta 0 tc 1)) 0 ta [] ∧ Ext w (w5.alloc (txo addr 0 ta 0 tc 1))) := ⟨V4.out.1.ext (x5.alloc _), q4_at rfl, r5.out.ext ((Ext.refl w5).alloc _), V4.out.2.trans (x5.alloc _)⟩
            clear c0 c1 c2 c3 c4 c5 c6 c7 c8 V4 x5 HN r5
            generalize w5.heap.size = B5 at *
            generalize w5.alloc (txo addr 0 ta 0 tc 1) = w6 at *
            obtain ⟨⟨c0, c1, c2, c3, c4, c5, c6, c7, c8⟩, _⟩ := V5.out.1
            simp only [Nat.zero_add] at c0 c1 c2 c3 c4 c5 c6 c7 c8
            go_upto_region 10 with (go_at_call 10; refine (HM.out _).mono ?_; rintro e w7 ⟨rfl, x7⟩; clear c0 c1 c2 c3 c4 c5 c6 c7 c8; obtain ⟨⟨c0, c1, c2, c3, c4, c5, c6, c7, c8⟩, _⟩ := V5.out.1.ext x7; simp only [Nat.zero_add] at c0 c1 c2 c3 c4 c5 c6 c7 c8)
            clear c0 c1 c2 c3 c4 c5 c6 c7 c8
            have y7 : Ext w6 (w7.alloc tx0) := x7.alloc _
            obtain ⟨⟨c0, c1, c2, c3, c4, c5, c6, c7, c8⟩, _⟩ := V5.out.1.ext y7
            simp only [Nat.zero_add] at c0 c1 c2 c3 c4 c5 c6 c7 c8
            go_upto_region 25 with fail
            have V8 : Hid (DV (w7.alloc (txo addr 0 none 0 0 1)) B4 ⟨addr, id, dw, per, 1, fails, tried, left, bad⟩ ∧ Q4 (w7.alloc (txo addr 0 none 0 0 1)) B5 (.int .i64 addr) (.int .i64 0) (.slice ta 0 tc) (.int .i64 1) ∧ RdY (w7.alloc (txo addr 0 none 0 0 1)) 0 ta [] ∧ Q4 (w7.alloc (txo addr 0 none 0 0 1)) w7.heap.size (.int .i64 addr) (.int .i64 0) (.slice none 0 0) (.int .i64 1) ∧ RdY (w7.alloc (txo addr 0 none 0 0 1)) 0 none [] ∧ Ext w (w7.alloc (txo addr 0 none 0 0 1))) := ⟨V5.out.1.ext (x7.alloc _), V5.out.2.1.ext (x7.alloc _), V5.out.2.2.1.ext (x7.alloc _), q4_at rfl, rdy_nil _ _ _, V5.out.2.2.2.trans (x7.alloc _)⟩
            clear c0 c1 c2 c3 c4 c5 c6 c7 c8 V5 x7 y7 HM
            generalize (w7.alloc (txo addr 0 none 0 0 1)) = w8 at *
            generalize w7.heap.size = B8 at *
            obtain ⟨⟨c0, c1, c2, c3, c4, c5, c6, c7, c8⟩, _⟩ := V8.out.1
            simp only [Nat.zero_add] at c0 c1 c2 c3 c4 c5 c6 c7 c8
            obtain ⟨⟨q0, q1, q2, q3⟩, _⟩ := V8.out.2.1
            obtain ⟨⟨r0, r1, r2, r3⟩, _⟩ := V8.out.2.2.2.1
            go_wp2_with (first | (go_at_call 11; refine (HNU.out _ _).mono ?_; rintro e wx ⟨rfl, hwx⟩; have hwy := hwx.symm; clear hwx; subst hwy) | (go_at_call 12; refine (HE.out _ _ _ _ _ V8.out.2.2.1 V8.out.2.2.2.2.1).mono ?_; rintro e w9 ⟨rfl, x9⟩))
            have XR : Hid (Ext w w9) := V8.out.2.2.2.2.2.trans x9
            go_roundw
            case measure => simp [intOf]; omega
            case rel => exact ⟨k + 1, by omega, by omega, by simp, XR⟩
          · have HN : Hid (∀ W, Calls Try.prog 9 #[drv ⟨addr, id, dw, per, 2, fails, tried, left, bad⟩] W fun e w' => ∃ a c, e = .returned (.tuple #[txw addr 2 a 1 c 0, .bool true, .int .i64 0]) ∧ Hid (RdY w' 0 a [IntKind.u8.wrap per]) ∧ Ext W w') := fun W => (next_some ⟨addr, id, dw, per, 2, fails, tried, left, bad⟩ hok rfl W).mono fun e w' ⟨a, c, h1, h2, h3⟩ => ⟨a, c, h1, h2.mono (Nat.zero_le _), h3⟩
            have HE : Hid (∀ W a c a' c', RdY W 0 a [IntKind.u8.wrap per] → RdY W 0 a' [IntKind.u8.wrap per] → Calls Try.prog 12 #[txw addr 2 a 1 c 0, txw addr 2 a' 1 c' 0] W fun e w' => e = .returned (.bool true) ∧ Ext W w') := fun W a c a' c' h1 h2 => eqtx_any (l := [IntKind.u8.wrap per]) addr 2 0 a c a' c' W h1 h2 (by simp)
            clear hok
            go_upto_region 6 with (go_at_call 9; refine (HN.out _).mono ?_; rintro e w5 ⟨ta, tc, rfl, r5, x5⟩)
            have V5 : Hid (DV (w5.alloc (txo addr 2 ta 1 tc 0)) B4 ⟨addr, id, dw, per, 2, fails, tried, left, bad⟩ ∧ Q4 (w5.alloc (txo addr 2 ta 1 tc 0)) w5.heap.size (.int .i64 addr) (.int .i64 2) (.slice ta 1 tc) (.int .i64 0) ∧ RdY (w5.alloc (txo addr 2 ta 1 tc 0)) 0 ta [IntKind.u8.wrap per] ∧ Ext w (w5.alloc (txo addr 2 ta 1 tc 0))) := ⟨V4.out.1.ext (x5.alloc _), q4_at rfl, r5.out.ext ((Ext.refl w5).alloc _), V4.out.2.trans (x5.alloc _)⟩
            clear c0 c1 c2 c3 c4 c5 c6 c7 c8 V4 x5 HN r5
            generalize w5.heap.size = B5 at *
            generalize w5.alloc (txo addr 2 ta 1 tc 0) = w6 at *
            obtain ⟨⟨c0, c1, c2, c3, c4, c5, c6, c7, c8⟩, _⟩ := V5.out.1
            simp only [Nat.zero_add] at c0 c1 c2 c3 c4 c5 c6 c7 c8
            go_upto_region 10 with (go_at_call 10; refine (HM.out _).mono ?_; rintro e w7 ⟨rfl, x7⟩; clear c0 c1 c2 c3 c4 c5 c6 c7 c8; obtain ⟨⟨c0, c1, c2, c3, c4, c5, c6, c7, c8⟩, _⟩ := V5.out.1.ext x7; simp only [Nat.zero_add] at c0 c1 c2 c3 c4 c5 c6 c7 c8)
            clear c0 c1 c2 c3 c4 c5 c6 c7 c8
            have y7 : Ext w6 (w7.alloc tx0) := x7.alloc _
            obtain ⟨⟨c0, c1, c2, c3, c4, c5, c6, c7, c8⟩, _⟩ := V5.out.1.ext y7
            simp only [Nat.zero_add] at c0 c1 c2 c3 c4 c5 c6 c7 c8
            go_upto_region 25 with fail
            have V8 : Hid (DV ((w7.alloc (txo addr 2 (some ⟨w7.heap.size + 1, 0, none⟩) 1 1 0)).alloc (.cells #[.int .u8 (per % 256)] 5)) B4 ⟨addr, id, dw, per, 2, fails, tried, left, bad⟩ ∧ Q4 ((w7.alloc (txo addr 2 (some ⟨w7.heap.size + 1, 0, none⟩) 1 1 0)).alloc (.cells #[.int .u8 (per % 256)] 5)) B5 (.int .i64 addr) (.int .i64 2) (.slice ta 1 tc) (.int .i64 0) ∧ RdY ((w7.alloc (txo addr 2 (some ⟨w7.heap.size + 1, 0, none⟩) 1 1 0)).alloc (.cells #[.int .u8 (per % 256)] 5)) 0 ta [IntKind.u8.wrap per] ∧ Q4 ((w7.alloc (txo addr 2 (some ⟨w7.heap.size + 1, 0, none⟩) 1 1 0)).alloc (.cells #[.int .u8 (per % 256)] 5)) w7.heap.size (.int .i64 addr) (.int .i64 2) (.slice (some ⟨w7.heap.size + 1, 0, none⟩) 1 1) (.int .i64 0) ∧ RdY ((w7.alloc (txo addr 2 (some ⟨w7.heap.size + 1, 0, none⟩) 1 1 0)).alloc (.cells #[.int .u8 (per % 256)] 5)) 0 (some ⟨w7.heap.size + 1, 0, none⟩) [IntKind.u8.wrap per] ∧ Ext w ((w7.alloc (txo addr 2 (some ⟨w7.heap.size + 1, 0, none⟩) 1 1 0)).alloc (.cells #[.int .u8 (per % 256)] 5))) := ⟨V5.out.1.ext ((x7.alloc _).alloc _), V5.out.2.1.ext ((x7.alloc _).alloc _), V5.out.2.2.1.ext ((x7.alloc _).alloc _), (q4_at rfl).ext ((Ext.refl _).alloc _), (by rw [show IntKind.u8.wrap per = per % 256 from IntKind.wrap_u8 _]; exact rdy_one (Nat.zero_le _) (by simp [go_sem])), V5.out.2.2.2.trans ((x7.alloc _).alloc _)⟩
            clear c0 c1 c2 c3 c4 c5 c6 c7 c8 V5 x7 y7 HM
            generalize ((w7.alloc (txo addr 2 (some ⟨w7.heap.size + 1, 0, none⟩) 1 1 0)).alloc (.cells #[.int .u8 (per % 256)] 5)) = w8 at *
            generalize w7.heap.size + 1 = B9 at *
            generalize w7.heap.size = B8 at *
            obtain ⟨⟨c0, c1, c2, c3, c4, c5, c6, c7, c8⟩, _⟩ := V8.out.1
            simp only [Nat.zero_add] at c0 c1 c2 c3 c4 c5 c6 c7 c8
            obtain ⟨⟨q0, q1, q2, q3⟩, _⟩ := V8.out.2.1
            obtain ⟨⟨r0, r1, r2, r3⟩, _⟩ := V8.out.2.2.2.1
            go_wp2_with (first | (go_at_call 11; refine (HNU.out _ _).mono ?_; rintro e wx ⟨rfl, hwx⟩; have hwy := hwx.symm; clear hwx; subst hwy) | (go_at_call 12; refine (HE.out _ _ _ _ _ V8.out.2.2.1 V8.out.2.2.2.2.1).mono ?_; rintro e w9 ⟨rfl, x9⟩))
            have XR : Hid (Ext w w9) := V8.out.2.2.2.2.2.trans x9
            go_roundw
            case measure => simp [intOf]; omega
            case rel => exact ⟨k + 1, by omega, by omega, by simp, XR⟩
          · have HN : Hid (∀ W, Calls Try.prog 9 #[drv ⟨addr, id, dw, per, 3, fails, tried, left, bad⟩] W fun e w' => ∃ a c, e = .returned (.tuple #[txw addr 1 a 1 c 0, .bool true, .int .i64 0]) ∧ Hid (RdY w' 0 a [1]) ∧ Ext W w') := fun W => (next_some ⟨addr, id, dw, per, 3, fails, tried, left, bad⟩ hok rfl W).mono fun e w' ⟨a, c, h1, h2, h3⟩ => ⟨a, c, h1, h2.mono (Nat.zero_le _), h3⟩
            have HE : Hid (∀ W a c a' c', RdY W 0 a [1] → RdY W 0 a' [1] → Calls Try.prog 12 #[txw addr 1 a 1 c 0, txw addr 1 a' 1 c' 0] W fun e w' => e = .returned (.bool true) ∧ Ext W w') := fun W a c a' c' h1 h2 => eqtx_any (l := [1]) addr 1 0 a c a' c' W h1 h2 (by simp)
            clear hok
            go_upto_region 6 with (go_at_call 9; refine (HN.out _).mono ?_; rintro e w5 ⟨ta, tc, rfl, r5, x5⟩)
            have V5 : Hid (DV (w5.alloc (txo addr 1 ta 1 tc 0)) B4 ⟨addr, id, dw, per, 3, fails, tried, left, bad⟩ ∧ Q4 (w5.alloc (txo addr 1 ta 1 tc 0)) w5.heap.size (.int .i64 addr) (.int .i64 1) (.slice ta 1 tc) (.int .i64 0) ∧ RdY (w5.alloc (txo addr 1 ta 1 tc 0)) 0 ta [1] ∧ Ext w (w5.alloc (txo addr 1 ta 1 tc 0))) := ⟨V4.out.1.ext (x5.alloc _), q4_at rfl, r5.out.ext ((Ext.refl w5).alloc _), V4.out.2.trans (x5.alloc _)⟩
            clear c0 c1 c2 c3 c4 c5 c6 c7 c8 V4 x5 HN r5
            generalize w5.heap.size = B5 at *
            generalize w5.alloc (txo addr 1 ta 1 tc 0) = w6 at *
            obtain ⟨⟨c0, c1, c2, c3, c4, c5, c6, c7, c8⟩, _⟩ := V5.out.1
            simp only [Nat.zero_add] at c0 c1 c2 c3 c4 c5 c6 c7 c8
            go_upto_region 10 with (go_at_call 10; refine (HM.out _).mono ?_; rintro e w7 ⟨rfl, x7⟩; clear c0 c1 c2 c3 c4 c5 c6 c7 c8; obtain ⟨⟨c0, c1, c2, c3, c4, c5, c6, c7, c8⟩, _⟩ := V5.out.1.ext x7; simp only [Nat.zero_add] at c0 c1 c2 c3 c4 c5 c6 c7 c8)
            clear c0 c1 c2 c3 c4 c5 c6 c7 c8
            have y7 : Ext w6 (w7.alloc tx0) := x7.alloc _
            obtain ⟨⟨c0, c1, c2, c3, c4, c5, c6, c7, c8⟩, _⟩ := V5.out.1.ext y7
            simp only [Nat.zero_add] at c0 c1 c2 c3 c4 c5 c6 c7 c8
            go_upto_region 25 with fail
            have V8 : Hid (DV ((w7.alloc (txo addr 1 (some ⟨w7.heap.size + 1, 0, none⟩) 1 1 0)).alloc (.cells #[.int .u8 (1)] 5)) B4 ⟨addr, id, dw, per, 3, fails, tried, left, bad⟩ ∧ Q4 ((w7.alloc (txo addr 1 (some ⟨w7.heap.size + 1, 0, none⟩) 1 1 0)).alloc (.cells #[.int .u8 (1)] 5)) B5 (.int .i64 addr) (.int .i64 1) (.slice ta 1 tc) (.int .i64 0) ∧ RdY ((w7.alloc (txo addr 1 (some ⟨w7.heap.size + 1, 0, none⟩) 1 1 0)).alloc (.cells #[.int .u8 (1)] 5)) 0 ta [1] ∧ Q4 ((w7.alloc (txo addr 1 (some ⟨w7.heap.size + 1, 0, none⟩) 1 1 0)).alloc (.cells #[.int .u8 (1)] 5)) w7.heap.size (.int .i64 addr) (.int .i64 1) (.slice (some ⟨w7.heap.size + 1, 0, none⟩) 1 1) (.int .i64 0) ∧ RdY ((w7.alloc (txo addr 1 (some ⟨w7.heap.size + 1, 0, none⟩) 1 1 0)).alloc (.cells #[.int .u8 (1)] 5)) 0 (some ⟨w7.heap.size + 1, 0, none⟩) [1] ∧ Ext w ((w7.alloc (txo addr 1 (some ⟨w7.heap.size + 1, 0, none⟩) 1 1 0)).alloc (.cells #[.int .u8 (1)] 5))) := ⟨V5.out.1.ext ((x7.alloc _).alloc _), V5.out.2.1.ext ((x7.alloc _).alloc _), V5.out.2.2.1.ext ((x7.alloc _).alloc _), (q4_at rfl).ext ((Ext.refl _).alloc _), rdy_one (Nat.zero_le _) (by simp [go_sem]), V5.out.2.2.2.trans ((x7.alloc _).alloc _)⟩
            clear c0 c1 c2 c3 c4 c5 c6 c7 c8 V5 x7 y7 HM
            generalize ((w7.alloc (txo addr 1 (some ⟨w7.heap.size + 1, 0, none⟩) 1 1 0)).alloc (.cells #[.int .u8 (1)] 5)) = w8 at *
            generalize w7.heap.size + 1 = B9 at *
            generalize w7.heap.size = B8 at *
            obtain ⟨⟨c0, c1, c2, c3, c4, c5, c6, c7, c8⟩, _⟩ := V8.out.1
            simp only [Nat.zero_add] at c0 c1 c2 c3 c4 c5 c6 c7 c8
            obtain ⟨⟨q0, q1, q2, q3⟩, _⟩ := V8.out.2.1
            obtain ⟨⟨r0, r1, r2, r3⟩, _⟩ := V8.out.2.2.2.1
            go_wp2_with (first | (go_at_call 11; refine (HNU.out _ _).mono ?_; rintro e wx ⟨rfl, hwx⟩; have hwy := hwx.symm; clear hwx; subst hwy) | (go_at_call 12; refine (HE.out _ _ _ _ _ V8.out.2.2.1 V8.out.2.2.2.2.1).mono ?_; rintro e w9 ⟨rfl, x9⟩))
            have XR : Hid (Ext w w9) := V8.out.2.2.2.2.2.trans x9
            go_roundw
            case measure => simp [intOf]; omega
            case rel => exact ⟨k + 1, by omega, by omega, by simp, XR⟩
          · have HN : Hid (∀ W, Calls Try.prog 9 #[drv ⟨addr, id, dw, per, 4, fails, tried, left, bad⟩] W fun e w' => ∃ a c, e = .returned (.tuple #[txw addr 3 a 0 c 1, .bool true, .int .i64 0]) ∧ Hid (RdY w' 0 a []) ∧ Ext W w') := fun W => (next_some ⟨addr, id, dw, per, 4, fails, tried, left, bad⟩ hok rfl W).mono fun e w' ⟨a, c, h1, h2, h3⟩ => ⟨a, c, h1, h2.mono (Nat.zero_le _), h3⟩
            have HE : Hid (∀ W a c a' c', RdY W 0 a [] → RdY W 0 a' [] → Calls Try.prog 12 #[txw addr 3 a 0 c 1, txw addr 3 a' 0 c' 1] W fun e w' => e = .returned (.bool true) ∧ Ext W w') := fun W a c a' c' h1 h2 => eqtx_any (l := []) addr 3 1 a c a' c' W h1 h2 (by simp)
            clear hok
            go_upto_region 6 with (go_at_call 9; refine (HN.out _).mono ?_; rintro e w5 ⟨ta, tc, rfl, r5, x5⟩)
            have V5 : Hid (DV (w5.alloc (txo addr 3 ta 0 tc 1)) B4 ⟨addr, id, dw, per, 4, fails, tried, left, bad⟩ ∧ Q4 (w5.alloc (txo addr 3 ta 0 tc 1)) w5.heap.size (.int .i64 addr) (.int .i64 3) (.slice ta 0 tc) (.int .i64 1) ∧ RdY (w5.alloc (txo addr 3 ta 0 tc 1)) 0 ta [] ∧ Ext w (w5.alloc (txo addr 3 ta 0 tc 1))) := ⟨V4.out.1.ext (x5.alloc _), q4_at rfl, r5.out.ext ((Ext.refl w5).alloc _), V4.out.2.trans (x5.alloc _)⟩
            clear c0 c1 c2 c3 c4 c5 c6 c7 c8 V4 x5 HN r5
            generalize w5.heap.size = B5 at *
            generalize w5.alloc (txo addr 3 ta 0 tc 1) = w6 at *
            obtain ⟨⟨c0, c1, c2, c3, c4, c5, c6, c7, c8⟩, _⟩ := V5.out.1
            simp only [Nat.zero_add] at c0 c1 c2 c3 c4 c5 c6 c7 c8
            go_upto_region 10 with (go_at_call 10; refine (HM.out _).mono ?_; rintro e w7 ⟨rfl, x7⟩; clear c0 c1 c2 c3 c4 c5 c6 c7 c8; obtain ⟨⟨c0, c1, c2, c3, c4, c5, c6, c7, c8⟩, _⟩ := V5.out.1.ext x7; simp only [Nat.zero_add] at c0 c1 c2 c3 c4 c5 c6 c7 c8)
            clear c0 c1 c2 c3 c4 c5 c6 c7 c8
            have y7 : Ext w6 (w7.alloc tx0) := x7.alloc _
            obtain ⟨⟨c0, c1, c2, c3, c4, c5, c6, c7, c8⟩, _⟩ := V5.out.1.ext y7
            simp only [Nat.zero_add] at c0 c1 c2 c3 c4 c5 c6 c7 c8
            go_upto_region 25 with fail
            have V8 : Hid (DV (w7.alloc (txo addr 3 none 0 0 1)) B4 ⟨addr, id, dw, per, 4, fails, tried, left, bad⟩ ∧ Q4 (w7.alloc (txo addr 3 none 0 0 1)) B5 (.int .i64 addr) (.int .i64 3) (.slice ta 0 tc) (.int .i64 1) ∧ RdY (w7.alloc (txo addr 3 none 0 0 1)) 0 ta [] ∧ Q4 (w7.alloc (txo addr 3 none 0 0 1)) w7.heap.size (.int .i64 addr) (.int .i64 3) (.slice none 0 0) (.int .i64 1) ∧ RdY (w7.alloc (txo addr 3 none 0 0 1)) 0 none [] ∧ Ext w (w7.alloc (txo addr 3 none 0 0 1))) := ⟨V5.out.1.ext (x7.alloc _), V5.out.2.1.ext (x7.alloc _), V5.out.2.2.1.ext (x7.alloc _), q4_at rfl, rdy_nil _ _ _, V5.out.2.2.2.trans (x7.alloc _)⟩
            clear c0 c1 c2 c3 c4 c5 c6 c7 c8 V5 x7 y7 HM
            generalize (w7.alloc (txo addr 3 none 0 0 1)) = w8 at *
            generalize w7.heap.size = B8 at *
            obtain ⟨⟨c0, c1, c2, c3, c4, c5, c6, c7, c8⟩, _⟩ := V8.out.1
            simp only [Nat.zero_add] at c0 c1 c2 c3 c4 c5 c6 c7 c8
            obtain ⟨⟨q0, q1, q2, q3⟩, _⟩ := V8.out.2.1
            obtain ⟨⟨r0, r1, r2, r3⟩, _⟩ := V8.out.2.2.2.1
            go_wp2_with (first | (go_at_call 11; refine (HNU.out _ _).mono ?_; rintro e wx ⟨rfl, hwx⟩; have hwy := hwx.symm; clear hwx; subst hwy) | (go_at_call 12; refine (HE.out _ _ _ _ _ V8.out.2.2.1 V8.out.2.2.2.2.1).mono ?_; rintro e w9 ⟨rfl, x9⟩))
            have XR : Hid (Ext w w9) := V8.out.2.2.2.2.2.trans x9
            go_roundw
            case measure => simp [intOf]; omega
            case rel => exact ⟨k + 1, by omega, by omega, by simp, XR⟩
          · have HN : Hid (∀ W, Calls Try.prog 9 #[drv ⟨addr, id, dw, per, 5, fails, tried, left, bad⟩] W fun e w' => ∃ a c, e = .returned (.tuple #[txw addr 4 a 0 c (wrap64 (8 * left)), .bool true, .int .i64 0]) ∧ Hid (RdY w' 0 a []) ∧ Ext W w') := fun W => (next_some ⟨addr, id, dw, per, 5, fails, tried, left, bad⟩ hok rfl W).mono fun e w' ⟨a, c, h1, h2, h3⟩ => ⟨a, c, h1, h2.mono (Nat.zero_le _), h3⟩
            have HE : Hid (∀ W a c a' c', RdY W 0 a [] → RdY W 0 a' [] → Calls Try.prog 12 #[txw addr 4 a 0 c (wrap64 (8 * left)), txw addr 4 a' 0 c' (wrap64 (8 * left))] W fun e w' => e = .returned (.bool true) ∧ Ext W w') := fun W a c a' c' h1 h2 => eqtx_any (l := []) addr 4 (wrap64 (8 * left)) a c a' c' W h1 h2 (by simp)
            clear hok
            go_upto_region 6 with (go_at_call 9; refine (HN.out _).mono ?_; rintro e w5 ⟨ta, tc, rfl, r5, x5⟩)
            have V5 : Hid (DV (w5.alloc (txo addr 4 ta 0 tc (wrap64 (8 * left)))) B4 ⟨addr, id, dw, per, 5, fails, tried, left, bad⟩ ∧ Q4 (w5.alloc (txo addr 4 ta 0 tc (wrap64 (8 * left)))) w5.heap.size (.int .i64 addr) (.int .i64 4) (.slice ta 0 tc) (.int .i64 (wrap64 (8 * left))) ∧ RdY (w5.alloc (txo addr 4 ta 0 tc (wrap64 (8 * left)))) 0 ta [] ∧ Ext w (w5.alloc (txo addr 4 ta 0 tc (wrap64 (8 * left))))) := ⟨V4.out.1.ext (x5.alloc _), q4_at rfl, r5.out.ext ((Ext.refl w5).alloc _), V4.out.2.trans (x5.alloc _)⟩
            clear c0 c1 c2 c3 c4 c5 c6 c7 c8 V4 x5 HN r5
            generalize w5.heap.size = B5 at *
            generalize w5.alloc (txo addr 4 ta 0 tc (wrap64 (8 * left))) = w6 at *
            obtain ⟨⟨c0, c1, c2, c3, c4, c5, c6, c7, c8⟩, _⟩ := V5.out.1
            simp only [Nat.zero_add] at c0 c1 c2 c3 c4 c5 c6 c7 c8
            go_upto_region 10 with (go_at_call 10; refine (HM.out _).mono ?_; rintro e w7 ⟨rfl, x7⟩; clear c0 c1 c2 c3 c4 c5 c6 c7 c8; obtain ⟨⟨c0, c1, c2, c3, c4, c5, c6, c7, c8⟩, _⟩ := V5.out.1.ext x7; simp only [Nat.zero_add] at c0 c1 c2 c3 c4 c5 c6 c7 c8)
            clear c0 c1 c2 c3 c4 c5 c6 c7 c8
            have y7 : Ext w6 (w7.alloc tx0) := x7.alloc _
            obtain ⟨⟨c0, c1, c2, c3, c4, c5, c6, c7, c8⟩, _⟩ := V5.out.1.ext y7
            simp only [Nat.zero_add] at c0 c1 c2 c3 c4 c5 c6 c7 c8
            go_upto_region 25 with fail
            have V8 : Hid (DV (w7.alloc (txo addr 4 none 0 0 (wrap64 (8 * left)))) B4 ⟨addr, id, dw, per, 5, fails, tried, left, bad⟩ ∧ Q4 (w7.alloc (txo addr 4 none 0 0 (wrap64 (8 * left)))) B5 (.int .i64 addr) (.int .i64 4) (.slice ta 0 tc) (.int .i64 (wrap64 (8 * left))) ∧ RdY (w7.alloc (txo addr 4 none 0 0 (wrap64 (8 * left)))) 0 ta [] ∧ Q4 (w7.alloc (txo addr 4 none 0 0 (wrap64 (8 * left)))) w7.heap.size (.int .i64 addr) (.int .i64 4) (.slice none 0 0) (.int .i64 (wrap64 (8 * left))) ∧ RdY (w7.alloc (txo addr 4 none 0 0 (wrap64 (8 * left)))) 0 none [] ∧ Ext w (w7.alloc (txo addr 4 none 0 0 (wrap64 (8 * left))))) := ⟨V5.out.1.ext (x7.alloc _), V5.out.2.1.ext (x7.alloc _), V5.out.2.2.1.ext (x7.alloc _), q4_at rfl, rdy_nil _ _ _, V5.out.2.2.2.trans (x7.alloc _)⟩
            clear c0 c1 c2 c3 c4 c5 c6 c7 c8 V5 x7 y7 HM
            generalize (w7.alloc (txo addr 4 none 0 0 (wrap64 (8 * left)))) = w8 at *
            generalize w7.heap.size = B8 at *
            obtain ⟨⟨c0, c1, c2, c3, c4, c5, c6, c7, c8⟩, _⟩ := V8.out.1
            simp only [Nat.zero_add] at c0 c1 c2 c3 c4 c5 c6 c7 c8
            obtain ⟨⟨q0, q1, q2, q3⟩, _⟩ := V8.out.2.1
            obtain ⟨⟨r0, r1, r2, r3⟩, _⟩ := V8.out.2.2.2.1
            go_wp2_with (first | (go_at_call 11; refine (HNU.out _ _).mono ?_; rintro e wx ⟨rfl, hwx⟩; have hwy := hwx.symm; clear hwx; subst hwy) | (go_at_call 12; refine (HE.out _ _ _ _ _ V8.out.2.2.1 V8.out.2.2.2.2.1).mono ?_; rintro e w9 ⟨rfl, x9⟩))
            have XR : Hid (Ext w w9) := V8.out.2.2.2.2.2.trans x9
            go_roundw
            case measure => simp [intOf]; omega
            case rel => exact ⟨k + 1, by omega, by omega, by simp, XR⟩
          · have HN : Hid (∀ W, Calls Try.prog 9 #[drv ⟨addr, id, dw, per, 6, fails, tried, left, bad⟩] W fun e w' => ∃ a c, e = .returned (.tuple #[txw addr 1 a 1 c 0, .bool true, .int .i64 0]) ∧ Hid (RdY w' 0 a [0]) ∧ Ext W w') := fun W => (next_some ⟨addr, id, dw, per, 6, fails, tried, left, bad⟩ hok rfl W).mono fun e w' ⟨a, c, h1, h2, h3⟩ => ⟨a, c, h1, h2.mono (Nat.zero_le _), h3⟩
            have HE : Hid (∀ W a c a' c', RdY W 0 a [0] → RdY W 0 a' [0] → Calls Try.prog 12 #[txw addr 1 a 1 c 0, txw addr 1 a' 1 c' 0] W fun e w' => e = .returned (.bool true) ∧ Ext W w') := fun W a c a' c' h1 h2 => eqtx_any (l := [0]) addr 1 0 a c a' c' W h1 h2 (by simp)
            clear hok
            go_upto_region 6 with (go_at_call 9; refine (HN.out _).mono ?_; rintro e w5 ⟨ta, tc, rfl, r5, x5⟩)
            have V5 : Hid (DV (w5.alloc (txo addr 1 ta 1 tc 0)) B4 ⟨addr, id, dw, per, 6, fails, tried, left, bad⟩ ∧ Q4 (w5.alloc (txo addr 1 ta 1 tc 0)) w5.heap.size (.int .i64 addr) (.int .i64 1) (.slice ta 1 tc) (.int .i64 0) ∧ RdY (w5.alloc (txo addr 1 ta 1 tc 0)) 0 ta [0] ∧ Ext w (w5.alloc (txo addr 1 ta 1 tc 0))) := ⟨V4.out.1.ext (x5.alloc _), q4_at rfl, r5.out.ext ((Ext.refl w5).alloc _), V4.out.2.trans (x5.alloc _)⟩
            clear c0 c1 c2 c3 c4 c5 c6 c7 c8 V4 x5 HN r5
            generalize w5.heap.size = B5 at *
            generalize w5.alloc (txo addr 1 ta 1 tc 0) = w6 at *
            obtain ⟨⟨c0, c1, c2, c3, c4, c5, c6, c7, c8⟩, _⟩ := V5.out.1
            simp only [Nat.zero_add] at c0 c1 c2 c3 c4 c5 c6 c7 c8
            go_upto_region 10 with (go_at_call 10; refine (HM.out _).mono ?_; rintro e w7 ⟨rfl, x7⟩; clear c0 c1 c2 c3 c4 c5 c6 c7 c8; obtain ⟨⟨c0, c1, c2, c3, c4, c5, c6, c7, c8⟩, _⟩ := V5.out.1.ext x7; simp only [Nat.zero_add] at c0 c1 c2 c3 c4 c5 c6 c7 c8)
            clear c0 c1 c2 c3 c4 c5 c6 c7 c8
            have y7 : Ext w6 (w7.alloc tx0) := x7.alloc _
            obtain ⟨⟨c0, c1, c2, c3, c4, c5, c6, c7, c8⟩, _⟩ := V5.out.1.ext y7
            simp only [Nat.zero_add] at c0 c1 c2 c3 c4 c5 c6 c7 c8
            go_upto_region 25 with fail
            have V8 : Hid (DV ((w7.alloc (txo addr 1 (some ⟨w7.heap.size + 1, 0, none⟩) 1 1 0)).alloc (.cells #[.int .u8 (0)] 5)) B4 ⟨addr, id, dw, per, 6, fails, tried, left, bad⟩ ∧ Q4 ((w7.alloc (txo addr 1 (some ⟨w7.heap.size + 1, 0, none⟩) 1 1 0)).alloc (.cells #[.int .u8 (0)] 5)) B5 (.int .i64 addr) (.int .i64 1) (.slice ta 1 tc) (.int .i64 0) ∧ RdY ((w7.alloc (txo addr 1 (some ⟨w7.heap.size + 1, 0, none⟩) 1 1 0)).alloc (.cells #[.int .u8 (0)] 5)) 0 ta [0] ∧ Q4 ((w7.alloc (txo addr 1 (some ⟨w7.heap.size + 1, 0, none⟩) 1 1 0)).alloc (.cells #[.int .u8 (0)] 5)) w7.heap.size (.int .i64 addr) (.int .i64 1) (.slice (some ⟨w7.heap.size + 1, 0, none⟩) 1 1) (.int .i64 0) ∧ RdY ((w7.alloc (txo addr 1 (some ⟨w7.heap.size + 1, 0, none⟩) 1 1 0)).alloc (.cells #[.int .u8 (0)] 5)) 0 (some ⟨w7.heap.size + 1, 0, none⟩) [0] ∧ Ext w ((w7.alloc (txo addr 1 (some ⟨w7.heap.size + 1, 0, none⟩) 1 1 0)).alloc (.cells #[.int .u8 (0)] 5))) := ⟨V5.out.1.ext ((x7.alloc _).alloc _), V5.out.2.1.ext ((x7.alloc _).alloc _), V5.out.2.2.1.ext ((x7.alloc _).alloc _), (q4_at rfl).ext ((Ext.refl _).alloc _), rdy_one (Nat.zero_le _) (by simp [go_sem]), V5.out.2.2.2.trans ((x7.alloc _).alloc _)⟩
            clear c0 c1 c2 c3 c4 c5 c6 c7 c8 V5 x7 y7 HM
            generalize ((w7.alloc (txo addr 1 (some ⟨w7.heap.size + 1, 0, none⟩) 1 1 0)).alloc (.cells #[.int .u8 (0)] 5)) = w8 at *
            generalize w7.heap.size + 1 = B9 at *
            generalize w7.heap.size = B8 at *
            obtain ⟨⟨c0, c1, c2, c3, c4, c5, c6, c7, c8⟩, _⟩ := V8.out.1
            simp only [Nat.zero_add] at c0 c1 c2 c3 c4 c5 c6 c7 c8
            obtain ⟨⟨q0, q1, q2, q3⟩, _⟩ := V8.out.2.1
            obtain ⟨⟨r0, r1, r2, r3⟩, _⟩ := V8.out.2.2.2.1
            go_wp2_with (first | (go_at_call 11; refine (HNU.out _ _).mono ?_; rintro e wx ⟨rfl, hwx⟩; have hwy := hwx.symm; clear hwx; subst hwy) | (go_at_call 12; refine (HE.out _ _ _ _ _ V8.out.2.2.1 V8.out.2.2.2.2.1).mono ?_; rintro e w9 ⟨rfl, x9⟩))
            have XR : Hid (Ext w w9) := V8.out.2.2.2.2.2.trans x9
            go_roundw
            case measure => simp [intOf]; omega
            case rel => exact ⟨k + 1, by omega, by omega, by simp, XR⟩
          · have HN : Hid (∀ W, Calls Try.prog 9 #[drv ⟨addr, id, dw, per, 7, fails, tried, left, bad⟩] W fun e w' => ∃ a c, e = .returned (.tuple #[txw addr 5 a 1 c 0, .bool true, .int .i64 0]) ∧ Hid (RdY w' 0 a [182]) ∧ Ext W w') := fun W => (next_some ⟨addr, id, dw, per, 7, fails, tried, left, bad⟩ hok rfl W).mono fun e w' ⟨a, c, h1, h2, h3⟩ => ⟨a, c, h1, h2.mono (Nat.zero_le _), h3⟩
            have HE : Hid (∀ W a c a' c', RdY W 0 a [182] → RdY W 0 a' [182] → Calls Try.prog 12 #[txw addr 5 a 1 c 0, txw addr 5 a' 1 c' 0] W fun e w' => e = .returned (.bool true) ∧ Ext W w') := fun W a c a' c' h1 h2 => eqtx_any (l := [182]) addr 5 0 a c a' c' W h1 h2 (by simp)
            clear hok
            go_upto_region 6 with (go_at_call 9; refine (HN.out _).mono ?_; rintro e w5 ⟨ta, tc, rfl, r5, x5⟩)
            have V5 : Hid (DV (w5.alloc (txo addr 5 ta 1 tc 0)) B4 ⟨addr, id, dw, per, 7, fails, tried, left, bad⟩ ∧ Q4 (w5.alloc (txo addr 5 ta 1 tc 0)) w5.heap.size (.int .i64 addr) (.int .i64 5) (.slice ta 1 tc) (.int .i64 0) ∧ RdY (w5.alloc (txo addr 5 ta 1 tc 0)) 0 ta [182] ∧ Ext w (w5.alloc (txo addr 5 ta 1 tc 0))) := ⟨V4.out.1.ext (x5.alloc _), q4_at rfl, r5.out.ext ((Ext.refl w5).alloc _), V4.out.2.trans (x5.alloc _)⟩
            clear c0 c1 c2 c3 c4 c5 c6 c7 c8 V4 x5 HN r5
            generalize w5.heap.size = B5 at *
            generalize w5.alloc (txo addr 5 ta 1 tc 0) = w6 at *
            obtain ⟨⟨c0, c1, c2, c3, c4, c5, c6, c7, c8⟩, _⟩ := V5.out.1
            simp only [Nat.zero_add] at c0 c1 c2 c3 c4 c5 c6 c7 c8
            go_upto_region 10 with (go_at_call 10; refine (HM.out _).mono ?_; rintro e w7 ⟨rfl, x7⟩; clear c0 c1 c2 c3 c4 c5 c6 c7 c8; obtain ⟨⟨c0, c1, c2, c3, c4, c5, c6, c7, c8⟩, _⟩ := V5.out.1.ext x7; simp only [Nat.zero_add] at c0 c1 c2 c3 c4 c5 c6 c7 c8)
            clear c0 c1 c2 c3 c4 c5 c6 c7 c8
            have y7 : Ext w6 (w7.alloc tx0) := x7.alloc _
            obtain ⟨⟨c0, c1, c2, c3, c4, c5, c6, c7, c8⟩, _⟩ := V5.out.1.ext y7
            simp only [Nat.zero_add] at c0 c1 c2 c3 c4 c5 c6 c7 c8
            go_upto_region 25 with fail
            have V8 : Hid (DV ((w7.alloc (txo addr 5 (some ⟨w7.heap.size + 1, 0, none⟩) 1 1 0)).alloc (.cells #[.int .u8 (182)] 5)) B4 ⟨addr, id, dw, per, 7, fails, tried, left, bad⟩ ∧ Q4 ((w7.alloc (txo addr 5 (some ⟨w7.heap.size + 1, 0, none⟩) 1 1 0)).alloc (.cells #[.int .u8 (182)] 5)) B5 (.int .i64 addr) (.int .i64 5) (.slice ta 1 tc) (.int .i64 0) ∧ RdY ((w7.alloc (txo addr 5 (some ⟨w7.heap.size + 1, 0, none⟩) 1 1 0)).alloc (.cells #[.int .u8 (182)] 5)) 0 ta [182] ∧ Q4 ((w7.alloc (txo addr 5 (some ⟨w7.heap.size + 1, 0, none⟩) 1 1 0)).alloc (.cells #[.int .u8 (182)] 5)) w7.heap.size (.int .i64 addr) (.int .i64 5) (.slice (some ⟨w7.heap.size + 1, 0, none⟩) 1 1) (.int .i64 0) ∧ RdY ((w7.alloc (txo addr 5 (some ⟨w7.heap.size + 1, 0, none⟩) 1 1 0)).alloc (.cells #[.int .u8 (182)] 5)) 0 (some ⟨w7.heap.size + 1, 0, none⟩) [182] ∧ Ext w ((w7.alloc (txo addr 5 (some ⟨w7.heap.size + 1, 0, none⟩) 1 1 0)).alloc (.cells #[.int .u8 (182)] 5))) := ⟨V5.out.1.ext ((x7.alloc _).alloc _), V5.out.2.1.ext ((x7.alloc _).alloc _), V5.out.2.2.1.ext ((x7.alloc _).alloc _), (q4_at rfl).ext ((Ext.refl _).alloc _), rdy_one (Nat.zero_le _) (by simp [go_sem]), V5.out.2.2.2.trans ((x7.alloc _).alloc _)⟩
            clear c0 c1 c2 c3 c4 c5 c6 c7 c8 V5 x7 y7 HM
            generalize ((w7.alloc (txo addr 5 (some ⟨w7.heap.size + 1, 0, none⟩) 1 1 0)).alloc (.cells #[.int .u8 (182)] 5)) = w8 at *
            generalize w7.heap.size + 1 = B9 at *
            generalize w7.heap.size = B8 at *
            obtain ⟨⟨c0, c1, c2, c3, c4, c5, c6, c7, c8⟩, _⟩ := V8.out.1
            simp only [Nat.zero_add] at c0 c1 c2 c3 c4 c5 c6 c7 c8
            obtain ⟨⟨q0, q1, q2, q3⟩, _⟩ := V8.out.2.1
            obtain ⟨⟨r0, r1, r2, r3⟩, _⟩ := V8.out.2.2.2.1
            go_wp2_with (first | (go_at_call 11; refine (HNU.out _ _).mono ?_; rintro e wx ⟨rfl, hwx⟩; have hwy := hwx.symm; clear hwx; subst hwy) | (go_at_call 12; refine (HE.out _ _ _ _ _ V8.out.2.2.1 V8.out.2.2.2.2.1).mono ?_; rintro e w9 ⟨rfl, x9⟩))
            have XR : Hid (Ext w w9) := V8.out.2.2.2.2.2.trans x9
            go_roundw
            case measure => simp [intOf]; omega
            case rel => exact ⟨k + 1, by omega, by omega, by simp, XR⟩
          · have HN : Hid (∀ W, Calls Try.prog 9 #[drv ⟨addr, id, dw, per, 8, fails, tried, left, bad⟩] W fun e w' => ∃ a c, e = .returned (.tuple #[txw 0 0 a 0 c 0, .bool false, .int .i64 0]) ∧ Hid (RdY w' 0 a []) ∧ Ext W w') := fun W => (next_none ⟨addr, id, dw, per, 8, fails, tried, left, bad⟩ hok rfl W).mono fun e w' ⟨h1, h3⟩ => ⟨none, 0, h1, rdy_nil _ _ _, h3⟩
            have HE : Hid (∀ W a c a' c', RdY W 0 a [] → RdY W 0 a' [] → Calls Try.prog 12 #[txw 0 0 a 0 c 0, txw 0 0 a' 0 c' 0] W fun e w' => e = .returned (.bool true) ∧ Ext W w') := fun W a c a' c' h1 h2 => eqtx_any (l := []) 0 0 0 a c a' c' W h1 h2 (by simp)
            clear hok
            go_upto_region 6 with (go_at_call 9; refine (HN.out _).mono ?_; rintro e w5 ⟨ta, tc, rfl, r5, x5⟩)
            have V5 : Hid (DV (w5.alloc (txo 0 0 ta 0 tc 0)) B4 ⟨addr, id, dw, per, 8, fails, tried, left, bad⟩ ∧ Q4 (w5.alloc (txo 0 0 ta 0 tc 0)) w5.heap.size (.int .i64 0) (.int .i64 0) (.slice ta 0 tc) (.int .i64 0) ∧ RdY (w5.alloc (txo 0 0 ta 0 tc 0)) 0 ta [] ∧ Ext w (w5.alloc (txo 0 0 ta 0 tc 0))) := ⟨V4.out.1.ext (x5.alloc _), q4_at rfl, r5.out.ext ((Ext.refl w5).alloc _), V4.out.2.trans (x5.alloc _)⟩
            clear c0 c1 c2 c3 c4 c5 c6 c7 c8 V4 x5 HN r5
            generalize w5.heap.size = B5 at *
            generalize w5.alloc (txo 0 0 ta 0 tc 0) = w6 at *
            obtain ⟨⟨c0, c1, c2, c3, c4, c5, c6, c7, c8⟩, _⟩ := V5.out.1
            simp only [Nat.zero_add] at c0 c1 c2 c3 c4 c5 c6 c7 c8
            go_upto_region 10 with (go_at_call 10; refine (HM.out _).mono ?_; rintro e w7 ⟨rfl, x7⟩; clear c0 c1 c2 c3 c4 c5 c6 c7 c8; obtain ⟨⟨c0, c1, c2, c3, c4, c5, c6, c7, c8⟩, _⟩ := V5.out.1.ext x7; simp only [Nat.zero_add] at c0 c1 c2 c3 c4 c5 c6 c7 c8)
            clear c0 c1 c2 c3 c4 c5 c6 c7 c8
            have y7 : Ext w6 (w7.alloc tx0) := x7.alloc _
            obtain ⟨⟨c0, c1, c2, c3, c4, c5, c6, c7, c8⟩, _⟩ := V5.out.1.ext y7
            simp only [Nat.zero_add] at c0 c1 c2 c3 c4 c5 c6 c7 c8
            go_upto_region 25 with fail
            have V8 : Hid (DV (w7.alloc tx0) B4 ⟨addr, id, dw, per, 8, fails, tried, left, bad⟩ ∧ Q4 (w7.alloc tx0) B5 (.int .i64 0) (.int .i64 0) (.slice ta 0 tc) (.int .i64 0) ∧ RdY (w7.alloc tx0) 0 ta [] ∧ Q4 (w7.alloc tx0) w7.heap.size (.int .i64 0) (.int .i64 0) (.slice none 0 0) (.int .i64 0) ∧ RdY (w7.alloc tx0) 0 none [] ∧ Ext w (w7.alloc tx0)) := ⟨V5.out.1.ext (x7.alloc _), V5.out.2.1.ext (x7.alloc _), V5.out.2.2.1.ext (x7.alloc _), q4_at rfl, rdy_nil _ _ _, V5.out.2.2.2.trans (x7.alloc _)⟩
            clear c0 c1 c2 c3 c4 c5 c6 c7 c8 V5 x7 y7 HM
            generalize (w7.alloc tx0) = w8 at *
            generalize w7.heap.size = B8 at *
            obtain ⟨⟨c0, c1, c2, c3, c4, c5, c6, c7, c8⟩, _⟩ := V8.out.1
            simp only [Nat.zero_add] at c0 c1 c2 c3 c4 c5 c6 c7 c8
            obtain ⟨⟨q0, q1, q2, q3⟩, _⟩ := V8.out.2.1
            obtain ⟨⟨r0, r1, r2, r3⟩, _⟩ := V8.out.2.2.2.1
            go_wp2_with (first | (go_at_call 11; refine (HNU.out _ _).mono ?_; rintro e wx ⟨rfl, hwx⟩; have hwy := hwx.symm; clear hwx; subst hwy) | (go_at_call 12; refine (HE.out _ _ _ _ _ V8.out.2.2.1 V8.out.2.2.2.2.1).mono ?_; rintro e w9 ⟨rfl, x9⟩))
            have XR : Hid (Ext w w9) := V8.out.2.2.2.2.2.trans x9
            go_roundw
            case measure => simp [intOf]; omega
            case rel => exact ⟨k + 1, by omega, by omega, by simp, XR⟩
      · have h30i : ¬ (k : Int) < 30 := by omega
        go_wp2_with (go_at_call 13; refine (HW.out _).mono ?_; rintro e w9 ⟨rfl, x9⟩)
        go_ret
        exact ⟨rfl, hR.out.trans x9⟩
    · have hlti : ¬ (k : Int) < (L.length : Int) := by omega
      go_wp2_with (go_at_call 13; refine (HW.out _).mono ?_; rintro e w9 ⟨rfl, x9⟩)
      go_ret
      exact ⟨rfl, hR.out.trans x9⟩
end Go.Proofs.Ytdfhhfpfnkjbnaa
