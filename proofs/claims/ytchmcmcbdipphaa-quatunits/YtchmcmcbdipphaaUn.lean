/- QuatUnits. -/
import Derived.Test.YtchmcmcbdipphaaUn1
namespace Go.Proofs.Ytchmcmcbdipphaa
open Go.RowKit Go.Shelf

set_option maxRecDepth 20000 in
set_option maxHeartbeats 8000000 in
theorem units_any (b off len cap : Nat) (Z : Nat → Nat → Int) (w : World) (hl : len ≤ maxLen) (hc : Twos4 w b off len Z) :
    Calls Try.prog 6 #[.slice (some ⟨b, off, none⟩) len cap] w fun e w' => e = .returned (.bool true) ∧ Ext w w' := by
  have HN : Hid (∀ v w', Calls Try.prog 13 #[.int .i64 v] w' fun e w'' => e = .returned (.int .i64 v) ∧ w'' = w') := num4_any
  have HW : Hid (∀ w', Calls Try.prog 14 #[] w' fun e w'' => e = .returned (.bool true) ∧ Ext w' w'') := wakes4_any
  have hl' : len ≤ 9223372036854775807 := by unfold maxLen at hl; omega
  clear hl
  go_enter Try.func6, Try.ntmps6
  go_wp2_with fail
  go_loopw [3] (fun i wr => ∃ k : Nat, k ≤ len ∧ i = .int .i64 k ∧ Ext w wr) (fun i _ => len - (intOf i).toNat)
  case atStart => exact ⟨0, Nat.zero_le _, rfl, Ext.refl _⟩
  case round =>
    obtain ⟨k, hk, rfl, hx⟩ := hrel
    by_cases hlt : k < len
    · by_cases h20 : k < 12
      · have RW := (hc.ext hx).row hlt
        have BD : Hid (∀ j, j < 14 → -9223372036854775808 ≤ Z k j ∧ Z k j ≤ 9223372036854775807) := fun j hj => (hc k hlt j hj).2
        have bd : Hid _ := (⟨BD.out 0 (by omega), BD.out 1 (by omega), BD.out 2 (by omega), BD.out 3 (by omega), BD.out 4 (by omega), BD.out 5 (by omega), BD.out 6 (by omega), BD.out 7 (by omega), BD.out 8 (by omega), BD.out 9 (by omega), BD.out 10 (by omega), BD.out 11 (by omega), BD.out 12 (by omega), BD.out 13 (by omega)⟩ : (-9223372036854775808 ≤ Z k 0 ∧ Z k 0 ≤ 9223372036854775807) ∧ (-9223372036854775808 ≤ Z k 1 ∧ Z k 1 ≤ 9223372036854775807) ∧ (-9223372036854775808 ≤ Z k 2 ∧ Z k 2 ≤ 9223372036854775807) ∧ (-9223372036854775808 ≤ Z k 3 ∧ Z k 3 ≤ 9223372036854775807) ∧ (-9223372036854775808 ≤ Z k 4 ∧ Z k 4 ≤ 9223372036854775807) ∧ (-9223372036854775808 ≤ Z k 5 ∧ Z k 5 ≤ 9223372036854775807) ∧ (-9223372036854775808 ≤ Z k 6 ∧ Z k 6 ≤ 9223372036854775807) ∧ (-9223372036854775808 ≤ Z k 7 ∧ Z k 7 ≤ 9223372036854775807) ∧ (-9223372036854775808 ≤ Z k 8 ∧ Z k 8 ≤ 9223372036854775807) ∧ (-9223372036854775808 ≤ Z k 9 ∧ Z k 9 ≤ 9223372036854775807) ∧ (-9223372036854775808 ≤ Z k 10 ∧ Z k 10 ≤ 9223372036854775807) ∧ (-9223372036854775808 ≤ Z k 11 ∧ Z k 11 ≤ 9223372036854775807) ∧ (-9223372036854775808 ≤ Z k 12 ∧ Z k 12 ≤ 9223372036854775807) ∧ (-9223372036854775808 ≤ Z k 13 ∧ Z k 13 ≤ 9223372036854775807))
        clear BD
        have hlt' : (k : Int) < (len : Int) := by omega
        generalize Z k 0 = a at *
        generalize Z k 1 = b' at *
        generalize Z k 2 = c at *
        generalize Z k 3 = d at *
        generalize Z k 4 = q0 at *
        generalize Z k 5 = q1 at *
        generalize Z k 6 = q2 at *
        generalize Z k 7 = q3 at *
        generalize Z k 8 = x at *
        generalize Z k 9 = y at *
        generalize Z k 10 = z at *
        generalize Z k 11 = u0 at *
        generalize Z k 12 = u1 at *
        generalize Z k 13 = u2 at *
        obtain ⟨z0, z1, z2, z3, z4, z5, z6, z7, z8, z9, z10, z11, z12, z13⟩ := RW
        go_wp2_with fail
        clear z0 z1 z2 z3 z4 z5 z6 z7 z8 z9 z10 z11 z12 z13
        cases g1 : ok4 a b' c d
        · have HM1 : Hid (∀ w', Calls Try.prog 9 #[.agg #[.int .i64 a, .int .i64 b', .int .i64 c, .int .i64 d]] w' fun e w'' => e = .returned (.bool false) ∧ Ext w' w'') := fun w' => by have h := mayq_any a b' c d w'; rw [g1] at h; exact h
          clear g1
          refine (HM1.out _).mono ?_
          rintro e w1 ⟨rfl, x1⟩
          have FP1 : Hid (P14 w1 wr.heap.size a b' c d q0 q1 q2 q3 x y z u0 u1 u2) := (p14_at rfl).ext x1
          have E1 : Ext w w1 := Ext.trans (hx.alloc _) x1
          clear x1
          go_wp2_with fail
          go_roundw
          case rel => exact ⟨k + 1, by omega, by go_num, E1⟩
          case measure => simp [intOf]; omega
        · have HM1 : Hid (∀ w', Calls Try.prog 9 #[.agg #[.int .i64 a, .int .i64 b', .int .i64 c, .int .i64 d]] w' fun e w'' => e = .returned (.bool true) ∧ Ext w' w'') := fun w' => by have h := mayq_any a b' c d w'; rw [g1] at h; exact h
          cases g2 : ok4 q0 q1 q2 q3
          · have HM2 : Hid (∀ w', Calls Try.prog 9 #[.agg #[.int .i64 q0, .int .i64 q1, .int .i64 q2, .int .i64 q3]] w' fun e w'' => e = .returned (.bool false) ∧ Ext w' w'') := fun w' => by have h := mayq_any q0 q1 q2 q3 w'; rw [g2] at h; exact h
            clear g1 g2
            refine (HM1.out _).mono ?_
            rintro e w1 ⟨rfl, x1⟩
            have FP1 : Hid (P14 w1 wr.heap.size a b' c d q0 q1 q2 q3 x y z u0 u1 u2) := (p14_at rfl).ext x1
            have E1 : Ext w w1 := Ext.trans (hx.alloc _) x1
            clear x1
            obtain ⟨cp0, cp1, cp2, cp3, cp4, cp5, cp6, cp7, cp8, cp9, cp10, cp11, cp12, cp13, cp14⟩ := FP1.out
            go_wp2_with fail
            clear cp0 cp1 cp2 cp3 cp4 cp5 cp6 cp7 cp8 cp9 cp10 cp11 cp12 cp13
            refine (HM2.out _).mono ?_
            rintro e w2 ⟨rfl, x2⟩
            have FP2 : Hid (P14 w2 wr.heap.size a b' c d q0 q1 q2 q3 x y z u0 u1 u2) := (FP1.out).ext x2
            have E2 : Ext w w2 := Ext.trans (E1) x2
            clear x2
            go_wp2_with fail
            go_roundw
            case rel => exact ⟨k + 1, by omega, by go_num, E2⟩
            case measure => simp [intOf]; omega
          · have HM2 : Hid (∀ w', Calls Try.prog 9 #[.agg #[.int .i64 q0, .int .i64 q1, .int .i64 q2, .int .i64 q3]] w' fun e w'' => e = .returned (.bool true) ∧ Ext w' w'') := fun w' => by have h := mayq_any q0 q1 q2 q3 w'; rw [g2] at h; exact h
            by_cases zP : a = 0 ∧ b' = 0 ∧ c = 0 ∧ d = 0
            · have he := eqQ a b' c d 0 0 0 0
              have hz : (a == 0 && (b' == 0 && (c == 0 && d == 0))) = true := by obtain ⟨e0, e1, e2, e3⟩ := zP; rw [e0, e1, e2, e3]; rfl
              rw [hz] at he
              clear g1 g2 hz zP
              refine (HM1.out _).mono ?_
              rintro e w1 ⟨rfl, x1⟩
              have FP1 : Hid (P14 w1 wr.heap.size a b' c d q0 q1 q2 q3 x y z u0 u1 u2) := (p14_at rfl).ext x1
              have E1 : Ext w w1 := Ext.trans (hx.alloc _) x1
              clear x1
              obtain ⟨cp0, cp1, cp2, cp3, cp4, cp5, cp6, cp7, cp8, cp9, cp10, cp11, cp12, cp13, cp14⟩ := FP1.out
              go_wp2_with fail
              clear cp0 cp1 cp2 cp3 cp4 cp5 cp6 cp7 cp8 cp9 cp10 cp11 cp12 cp13
              refine (HM2.out _).mono ?_
              rintro e w2 ⟨rfl, x2⟩
              have FP2 : Hid (P14 w2 wr.heap.size a b' c d q0 q1 q2 q3 x y z u0 u1 u2) := (FP1.out).ext x2
              have E2 : Ext w w2 := Ext.trans (E1) x2
              clear x2
              obtain ⟨cp0, cp1, cp2, cp3, cp4, cp5, cp6, cp7, cp8, cp9, cp10, cp11, cp12, cp13, cp14⟩ := FP2.out
              go_wp2_with fail
              go_roundw
              case rel => exact ⟨k + 1, by omega, by go_num, E2⟩
              case measure => simp [intOf]; omega
            · have he := eqQ a b' c d 0 0 0 0
              have hz : (a == 0 && (b' == 0 && (c == 0 && d == 0))) = false := (by cases hh : (a == 0 && (b' == 0 && (c == 0 && d == 0))); rfl; exfalso; simp at hh; exact zP hh : (a == 0 && (b' == 0 && (c == 0 && d == 0))) = false)
              rw [hz] at he
              clear hz
              by_cases zQ : q0 = 0 ∧ q1 = 0 ∧ q2 = 0 ∧ q3 = 0
              · have he2 := eqQ q0 q1 q2 q3 0 0 0 0
                have hz : (q0 == 0 && (q1 == 0 && (q2 == 0 && q3 == 0))) = true := by obtain ⟨e0, e1, e2, e3⟩ := zQ; rw [e0, e1, e2, e3]; rfl
                rw [hz] at he2
                clear g1 g2 hz zP zQ
                refine (HM1.out _).mono ?_
                rintro e w1 ⟨rfl, x1⟩
                have FP1 : Hid (P14 w1 wr.heap.size a b' c d q0 q1 q2 q3 x y z u0 u1 u2) := (p14_at rfl).ext x1
                have E1 : Ext w w1 := Ext.trans (hx.alloc _) x1
                clear x1
                obtain ⟨cp0, cp1, cp2, cp3, cp4, cp5, cp6, cp7, cp8, cp9, cp10, cp11, cp12, cp13, cp14⟩ := FP1.out
                go_wp2_with fail
                clear cp0 cp1 cp2 cp3 cp4 cp5 cp6 cp7 cp8 cp9 cp10 cp11 cp12 cp13
                refine (HM2.out _).mono ?_
                rintro e w2 ⟨rfl, x2⟩
                have FP2 : Hid (P14 w2 wr.heap.size a b' c d q0 q1 q2 q3 x y z u0 u1 u2) := (FP1.out).ext x2
                have E2 : Ext w w2 := Ext.trans (E1) x2
                clear x2
                obtain ⟨cp0, cp1, cp2, cp3, cp4, cp5, cp6, cp7, cp8, cp9, cp10, cp11, cp12, cp13, cp14⟩ := FP2.out
                go_wp2_with fail
                go_roundw
                case rel => exact ⟨k + 1, by omega, by go_num, E2⟩
                case measure => simp [intOf]; omega
              · have he2 := eqQ q0 q1 q2 q3 0 0 0 0
                have hz : (q0 == 0 && (q1 == 0 && (q2 == 0 && q3 == 0))) = false := (by cases hh : (q0 == 0 && (q1 == 0 && (q2 == 0 && q3 == 0))); rfl; exfalso; simp at hh; exact zQ hh : (q0 == 0 && (q1 == 0 && (q2 == 0 && q3 == 0))) = false)
                rw [hz] at he2
                obtain ⟨A0, A1, A2, A3, B0, B1, B2, B3, C0, C1, C2, C3, n, m, U1, U2, U3, U4, U5, U6, U7, ⟨n1, n2⟩, m1, m2⟩ := units_told a b' c d q0 q1 q2 q3 g1 g2 zP zQ
                have V1 : Hid _ := U1
                have V2 : Hid _ := U2
                have V3 : Hid _ := U3
                have V4 : Hid _ := U4
                have V5 : Hid _ := U5
                have V6 : Hid _ := U6
                have V7 : Hid _ := U7
                clear U1 U2 U3 U4 U5 U6 U7 g1 g2 hz zP zQ
                refine (HM1.out _).mono ?_
                rintro e w1 ⟨rfl, x1⟩
                have FP1 : Hid (P14 w1 wr.heap.size a b' c d q0 q1 q2 q3 x y z u0 u1 u2) := (p14_at rfl).ext x1
                have E1 : Ext w w1 := Ext.trans (hx.alloc _) x1
                clear x1
                obtain ⟨cp0, cp1, cp2, cp3, cp4, cp5, cp6, cp7, cp8, cp9, cp10, cp11, cp12, cp13, cp14⟩ := FP1.out
                go_wp2_with fail
                clear cp0 cp1 cp2 cp3 cp4 cp5 cp6 cp7 cp8 cp9 cp10 cp11 cp12 cp13
                refine (HM2.out _).mono ?_
                rintro e w2 ⟨rfl, x2⟩
                have FP2 : Hid (P14 w2 wr.heap.size a b' c d q0 q1 q2 q3 x y z u0 u1 u2) := (FP1.out).ext x2
                have E2 : Ext w w2 := Ext.trans (E1) x2
                clear x2
                obtain ⟨cp0, cp1, cp2, cp3, cp4, cp5, cp6, cp7, cp8, cp9, cp10, cp11, cp12, cp13, cp14⟩ := FP2.out
                go_wp2_with fail
                clear cp0 cp1 cp2 cp3 cp4 cp5 cp6 cp7 cp8 cp9 cp10 cp11 cp12 cp13
                refine (V1.out _).mono ?_
                rintro e w3 ⟨rfl, x3⟩
                have E3 : Ext w w3 := Ext.trans (E2) x3
                have FP3 : Hid (P14 w3 wr.heap.size a b' c d q0 q1 q2 q3 x y z u0 u1 u2) := (FP2.out).ext x3
                clear x3 E2
                have dp0 := fun o => (P14.alloc FP3.out o).1
                have dp1 := fun o => (P14.alloc FP3.out o).2.1
                have dp2 := fun o => (P14.alloc FP3.out o).2.2.1
                have dp3 := fun o => (P14.alloc FP3.out o).2.2.2.1
                have dp4 := fun o => (P14.alloc FP3.out o).2.2.2.2.1
                have dp5 := fun o => (P14.alloc FP3.out o).2.2.2.2.2.1
                have dp6 := fun o => (P14.alloc FP3.out o).2.2.2.2.2.2.1
                have dp7 := fun o => (P14.alloc FP3.out o).2.2.2.2.2.2.2.1
                go_wp2_with fail
                clear dp0 dp1 dp2 dp3 dp4 dp5 dp6 dp7
                refine (V2.out _).mono ?_
                rintro e w4 ⟨rfl, x4⟩
                have E4 : Ext w w4 := Ext.trans (E3.alloc _) x4
                have Fa4 : Hid (H4 w4 (w3.heap.size) (.int .i64 A0) (.int .i64 A1) (.int .i64 A2) (.int .i64 A3)) := (h4_at rfl).ext x4
                clear x4 E3
                have da0 := fun o => (H4.alloc Fa4.out o).1
                have da1 := fun o => (H4.alloc Fa4.out o).2.1
                have da2 := fun o => (H4.alloc Fa4.out o).2.2.1
                have da3 := fun o => (H4.alloc Fa4.out o).2.2.2.1
                go_wp2_with fail
                clear da0 da1 da2 da3
                refine (V3.out _).mono ?_
                rintro e w5 ⟨rfl, x5⟩
                have E5 : Ext w w5 := Ext.trans (E4.alloc _) x5
                have Fa5 : Hid (H4 w5 (w3.heap.size) (.int .i64 A0) (.int .i64 A1) (.int .i64 A2) (.int .i64 A3)) := (H4.alloc Fa4.out _).ext x5
                clear x5 E4
                have da0 := fun o => (H4.alloc Fa5.out o).1
                have da1 := fun o => (H4.alloc Fa5.out o).2.1
                have da2 := fun o => (H4.alloc Fa5.out o).2.2.1
                have da3 := fun o => (H4.alloc Fa5.out o).2.2.2.1
                go_wp2_with fail
                clear da0 da1 da2 da3
                refine (V4.out _).mono ?_
                rintro e w6 ⟨rfl, x6⟩
                have E6 : Ext w w6 := Ext.trans (E5.alloc _) x6
                have Fa6 : Hid (H4 w6 (w3.heap.size) (.int .i64 A0) (.int .i64 A1) (.int .i64 A2) (.int .i64 A3)) := (H4.alloc Fa5.out _).ext x6
                have Fc6 : Hid (H4 w6 (w5.heap.size) (.int .i64 C0) (.int .i64 C1) (.int .i64 C2) (.int .i64 C3)) := (h4_at rfl).ext x6
                clear x6 E5
                obtain ⟨pc0, pc1, pc2, pc3, pc4, pc5, pc6, pc7, pc8⟩ := Fc6.out
                go_wp2_with fail
                clear pc0 pc1 pc2 pc3 pc4 pc5 pc6 pc7 pc8
                refine (V5.out _).mono ?_
                rintro e w7 ⟨rfl, x7⟩
                have E7 : Ext w w7 := Ext.trans (E6) x7
                have Fa7 : Hid (H4 w7 (w3.heap.size) (.int .i64 A0) (.int .i64 A1) (.int .i64 A2) (.int .i64 A3)) := (Fa6.out).ext x7
                clear x7 E6
                obtain ⟨pa0, pa1, pa2, pa3, pa4, pa5, pa6, pa7, pa8⟩ := Fa7.out
                go_wp2_with (go_at_call 13; refine (HN.out _ _).mono ?_; rintro e wx ⟨rfl, hwx⟩; have hwy := hwx.symm; clear hwx; subst hwy)
                clear pa0 pa1 pa2 pa3 pa4 pa5 pa6 pa7 pa8
                refine (V6.out _).mono ?_
                rintro e w8 ⟨rfl, x8⟩
                have E8 : Ext w w8 := Ext.trans (E7) x8
                have Fa8 : Hid (H4 w8 (w3.heap.size) (.int .i64 A0) (.int .i64 A1) (.int .i64 A2) (.int .i64 A3)) := (Fa7.out).ext x8
                clear x8 E7
                have da0 := fun o => (H4.alloc Fa8.out o).1
                have da1 := fun o => (H4.alloc Fa8.out o).2.1
                have da2 := fun o => (H4.alloc Fa8.out o).2.2.1
                have da3 := fun o => (H4.alloc Fa8.out o).2.2.2.1
                go_wp2_with fail
                clear da0 da1 da2 da3
                refine (V7.out _).mono ?_
                rintro e w9 ⟨rfl, x9⟩
                have E9 : Ext w w9 := Ext.trans (E8.alloc _) x9
                clear x9 E8
                go_wp2_with (go_at_call 13; refine (HN.out _ _).mono ?_; rintro e wx ⟨rfl, hwx⟩; have hwy := hwx.symm; clear hwx; subst hwy)
                go_roundw
                case rel => exact ⟨k + 1, by omega, by go_num, E9.alloc _⟩
                case measure => simp [intOf]; omega
      · go_wp2_with fail
        refine (HW.out _).mono ?_
        rintro e w1 ⟨rfl, x1⟩
        go_wp2_with fail
        go_ret
        exact ⟨rfl, hx.trans x1⟩
    · have hkn : k = len := by omega
      subst hkn
      go_wp2_with fail
      refine (HW.out _).mono ?_
      rintro e w1 ⟨rfl, x1⟩
      go_wp2_with fail
      go_ret
      exact ⟨rfl, hx.trans x1⟩
set_option maxRecDepth 20000 in
set_option maxHeartbeats 4000000 in
theorem units_none (a : Option Addr) (cap : Nat) (w : World) :
    Calls Try.prog 6 #[.slice a 0 cap] w fun e w' => e = .returned (.bool true) ∧ Ext w w' := by
  have HW : Hid (∀ w', Calls Try.prog 14 #[] w' fun e w'' => e = .returned (.bool true) ∧ Ext w' w'') := wakes4_any
  go_enter Try.func6, Try.ntmps6
  go_wp2_with fail
  refine wp_loop_rounds 1 ?_
  rw [rounds_succ]
  go_wp2_with fail
  refine (HW.out _).mono ?_
  rintro e w1 ⟨rfl, x1⟩
  go_wp2_with fail
  go_ret
  exact ⟨rfl, x1⟩
end Go.Proofs.Ytchmcmcbdipphaa
