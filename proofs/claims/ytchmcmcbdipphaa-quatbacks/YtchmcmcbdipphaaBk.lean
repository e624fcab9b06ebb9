/- QuatBacks. -/
import Derived.Test.YtchmcmcbdipphaaL4
namespace Go.Proofs.Ytchmcmcbdipphaa
open Go.RowKit Go.Shelf

theorem okW_neg {a : Int} (h1 : -9223372036854775808 ≤ a) (h2 : a ≤ 9223372036854775807) : okW (wrap64 (-a)) = okW a := by
  unfold okW wrap64
  rw [Bool.eq_iff_iff]
  simp
  omega
theorem back_bad {a b c d x y z : Int} (hb : -9223372036854775808 ≤ b ∧ b ≤ 9223372036854775807) (hc : -9223372036854775808 ≤ c ∧ c ≤ 9223372036854775807) (hd : -9223372036854775808 ≤ d ∧ d ≤ 9223372036854775807) (h : ok4 a b c d = false) : turnR a (wrap64 (-b)) (wrap64 (-c)) (wrap64 (-d)) x y z = vbad := by
  have e : ok4 a (wrap64 (-b)) (wrap64 (-c)) (wrap64 (-d)) = false := by
    unfold ok4; rw [okW_neg hb.1 hb.2, okW_neg hc.1 hc.2, okW_neg hd.1 hd.2]; exact h
  unfold turnR
  rw [e]; rfl
theorem back_good {a b c d x y z : Int} (h : ok4 a b c d = true) : turnR a (wrap64 (-b)) (wrap64 (-c)) (wrap64 (-d)) x y z = turnR a (-b) (-c) (-d) x y z := by
  unfold ok4 at h
  simp only [Bool.and_eq_true] at h
  obtain ⟨ha, hb, hc, hd⟩ := h
  rw [neg64 hb, neg64 hc, neg64 hd]

set_option maxRecDepth 20000 in
set_option maxHeartbeats 8000000 in
theorem backs_any (b off len cap : Nat) (Z : Nat → Nat → Int) (w : World) (hl : len ≤ maxLen) (hc : Twos4 w b off len Z) :
    Calls Try.prog 4 #[.slice (some ⟨b, off, none⟩) len cap] w fun e w' => e = .returned (.bool true) ∧ Ext w w' := by
  have HN : Hid (∀ v w', Calls Try.prog 13 #[.int .i64 v] w' fun e w'' => e = .returned (.int .i64 v) ∧ w'' = w') := num4_any
  have HW : Hid (∀ w', Calls Try.prog 14 #[] w' fun e w'' => e = .returned (.bool true) ∧ Ext w' w'') := wakes4_any
  have hl' : len ≤ 9223372036854775807 := by unfold maxLen at hl; omega
  clear hl
  go_enter Try.func4, Try.ntmps4
  go_wp2_with fail
  go_loopw [3] (fun i wr => ∃ k : Nat, k ≤ len ∧ i = .int .i64 k ∧ Ext w wr) (fun i _ => len - (intOf i).toNat)
  case atStart => exact ⟨0, Nat.zero_le _, rfl, Ext.refl _⟩
  case round =>
    obtain ⟨k, hk, rfl, hx⟩ := hrel
    by_cases hlt : k < len
    · by_cases h20 : k < 12
      · have RW := (hc.ext hx).row hlt
        have BD : Hid (∀ j, j < 14 → -9223372036854775808 ≤ Z k j ∧ Z k j ≤ 9223372036854775807) := fun j hj => (hc k hlt j hj).2
        have bd : Hid _ := (⟨BD.out 0 (by omega), BD.out 1 (by omega), BD.out 2 (by omega), BD.out 3 (by omega), BD.out 4 (by omega), BD.out 5 (by omega), BD.out 6 (by omega), BD.out 7 (by omega), BD.out 8 (by omega), BD.out 9 (by omega), BD.out 10 (by omega), BD.out 11 (by omega), BD.out 12 (by omega), BD.out 13 (by omega)⟩ : (-9223372036854775808 ≤ Z k 0 ∧ Z k 0 ≤ 9223372036854775807) ∧ (-9223372036854775808 ≤ Z k 1 ∧ Z k 1 ≤ 9223372036854775807) ∧ (-9223372036854775808 ≤ Z k 2 ∧ Z k 2 ≤ 9223372036854775807) ∧ (-9223372036854775808 ≤ Z k 3 ∧ Z k 3 ≤ 9223372036854775807) ∧ (-9223372036854775808 ≤ Z k 4 ∧ Z k 4 ≤ 9223372036854775807) ∧ (-9223372036854775808 ≤ Z k 5 ∧ Z k 5 ≤ 9223372036854775807) ∧ (-9223372036854775808 ≤ Z k 6 ∧ Z k 6 ≤ 9223372036854775807) ∧ (-9223372036854775808 ≤ Z k 7 ∧ Z k 7 ≤ 9223372036854775807) ∧ (-9223372036854775808 ≤ Z k 8 ∧ Z k 8 ≤ 9223372036854775807) ∧ (-9223372036854775808 ≤ Z k 9 ∧ Z k 9 ≤ 9223372036854775807) ∧ (-9223372036854775808 ≤ Z k 10 ∧ Z k 10 ≤ 9223372036854775807) ∧ (-9223372036854775808 ≤ Z k 11 ∧ Z k 11 ≤ 9223372036854775807) ∧ (-9223372036854775808 ≤ Z k 12 ∧ Z k 12 ≤ 9223372036854775807) ∧ (-9223372036854775808 ≤ Z k 13 ∧ Z k 13 ≤ 9223372036854775807))
        clear BD
        have hlt' : (k : Int) < (len : Int) := by omega
        generalize Z k 0 = a at *
        generalize Z k 1 = b' at *
        generalize Z k 2 = c at *
        generalize Z k 3 = d at *
        generalize Z k 4 = q0 at *
        generalize Z k 5 = q1 at *
        generalize Z k 6 = q2 at *
        generalize Z k 7 = q3 at *
        generalize Z k 8 = x at *
        generalize Z k 9 = y at *
        generalize Z k 10 = z at *
        generalize Z k 11 = u0 at *
        generalize Z k 12 = u1 at *
        generalize Z k 13 = u2 at *
        obtain ⟨z0, z1, z2, z3, z4, z5, z6, z7, z8, z9, z10, z11, z12, z13⟩ := RW
        go_wp2_with fail
        clear z0 z1 z2 z3 z4 z5 z6 z7 z8 z9 z10 z11 z12 z13
        cases g : ok4 a b' c d
        · have HB : Hid (∀ w', Calls Try.prog 15 #[.agg #[.int .i64 a, .int .i64 b', .int .i64 c, .int .i64 d], .agg #[.int .i64 x, .int .i64 y, .int .i64 z]] w' fun e w'' => e = .returned (.tuple #[.agg #[.int .i64 0, .int .i64 0, .int .i64 0], .int .i64 1]) ∧ Ext w' w'') := fun w' => by
            have h := qBack_any a b' c d x y z w'
            rw [back_bad bd.out.2.1 bd.out.2.2.1 bd.out.2.2.2.1 g] at h
            exact h
          have HC : Hid (∀ w', Calls Try.prog 12 #[.agg #[.int .i64 a, .int .i64 b', .int .i64 c, .int .i64 d]] w' fun e w'' => e = .returned (.tuple #[.agg #[.int .i64 0, .int .i64 0, .int .i64 0, .int .i64 0], .int .i64 1]) ∧ Ext w' w'') := fun w' => by
            have h := qConj_any a b' c d w'
            unfold conjR at h
            rw [g] at h
            exact h
          clear g
          refine (HB.out _).mono ?_
          rintro e w1 ⟨rfl, x1⟩
          have FP1 : Hid (P14 w1 wr.heap.size a b' c d q0 q1 q2 q3 x y z u0 u1 u2) := (p14_at rfl).ext x1
          have E1 : Ext w w1 := Ext.trans (hx.alloc _) x1
          clear x1
          have dp0 := fun o => (P14.alloc FP1.out o).1
          have dp1 := fun o => (P14.alloc FP1.out o).2.1
          have dp2 := fun o => (P14.alloc FP1.out o).2.2.1
          have dp3 := fun o => (P14.alloc FP1.out o).2.2.2.1
          have dp4 := fun o => (P14.alloc FP1.out o).2.2.2.2.1
          have dp5 := fun o => (P14.alloc FP1.out o).2.2.2.2.2.1
          have dp6 := fun o => (P14.alloc FP1.out o).2.2.2.2.2.2.1
          have dp7 := fun o => (P14.alloc FP1.out o).2.2.2.2.2.2.2.1
          have dp8 := fun o => (P14.alloc FP1.out o).2.2.2.2.2.2.2.2.1
          have dp9 := fun o => (P14.alloc FP1.out o).2.2.2.2.2.2.2.2.2.1
          have dp10 := fun o => (P14.alloc FP1.out o).2.2.2.2.2.2.2.2.2.2.1
          go_wp2_with fail
          refine (HC.out _).mono ?_
          rintro e w2 ⟨rfl, x2⟩
          clear dp0 dp1 dp2 dp3 dp4 dp5 dp6 dp7 dp8 dp9 dp10
          have FA2 : Hid (H3 w2 w1.heap.size (.int .i64 0) (.int .i64 0) (.int .i64 0)) := (h3_at rfl).ext x2
          have FP2 : Hid (P14 w2 wr.heap.size a b' c d q0 q1 q2 q3 x y z u0 u1 u2) := (P14.alloc FP1.out _).ext x2
          have E2 : Ext w w2 := Ext.trans (E1.alloc _) x2
          clear x2 E1 FP1
          have da0 := fun o => (H3.alloc FA2.out o).1
          have da1 := fun o => (H3.alloc FA2.out o).2.1
          have da2 := fun o => (H3.alloc FA2.out o).2.2.1
          go_wp2_with (go_at_call 13; refine (HN.out _ _).mono ?_; rintro e wx ⟨rfl, hwx⟩; have hwy := hwx.symm; clear hwx; subst hwy)
          go_roundw
          case rel => exact ⟨k + 1, by omega, by go_num, E2.alloc _⟩
          case measure => simp [intOf]; omega
        · have HC : Hid (∀ w', Calls Try.prog 12 #[.agg #[.int .i64 a, .int .i64 b', .int .i64 c, .int .i64 d]] w' fun e w'' => e = .returned (.tuple #[.agg #[.int .i64 a, .int .i64 (-b'), .int .i64 (-c), .int .i64 (-d)], .int .i64 0]) ∧ Ext w' w'') := fun w' => by
            have h := qConj_any a b' c d w'
            unfold conjR at h
            rw [g] at h
            exact h
          have HB0 := fun w' => qBack_any a b' c d x y z w'
          rw [back_good g] at HB0
          have HT0 := fun w' => qTurn_any a (-b') (-c) (-d) x y z w'
          obtain ⟨s0, s1, s2, ee, he⟩ := turnR_shape a (-b') (-c) (-d) x y z
          rw [he] at HB0 HT0
          have HB : Hid _ := HB0
          have HT : Hid _ := HT0
          clear HB0 HT0 he g
          refine (HB.out _).mono ?_
          rintro e w1 ⟨rfl, x1⟩
          have FP1 : Hid (P14 w1 wr.heap.size a b' c d q0 q1 q2 q3 x y z u0 u1 u2) := (p14_at rfl).ext x1
          have E1 : Ext w w1 := Ext.trans (hx.alloc _) x1
          clear x1
          have dp0 := fun o => (P14.alloc FP1.out o).1
          have dp1 := fun o => (P14.alloc FP1.out o).2.1
          have dp2 := fun o => (P14.alloc FP1.out o).2.2.1
          have dp3 := fun o => (P14.alloc FP1.out o).2.2.2.1
          have dp4 := fun o => (P14.alloc FP1.out o).2.2.2.2.1
          have dp5 := fun o => (P14.alloc FP1.out o).2.2.2.2.2.1
          have dp6 := fun o => (P14.alloc FP1.out o).2.2.2.2.2.2.1
          have dp7 := fun o => (P14.alloc FP1.out o).2.2.2.2.2.2.2.1
          have dp8 := fun o => (P14.alloc FP1.out o).2.2.2.2.2.2.2.2.1
          have dp9 := fun o => (P14.alloc FP1.out o).2.2.2.2.2.2.2.2.2.1
          have dp10 := fun o => (P14.alloc FP1.out o).2.2.2.2.2.2.2.2.2.2.1
          go_wp2_with fail
          refine (HC.out _).mono ?_
          rintro e w2 ⟨rfl, x2⟩
          clear dp0 dp1 dp2 dp3 dp4 dp5 dp6 dp7 dp8 dp9 dp10
          have FA2 : Hid (H3 w2 w1.heap.size (.int .i64 s0) (.int .i64 s1) (.int .i64 s2)) := (h3_at rfl).ext x2
          have FP2 : Hid (P14 w2 wr.heap.size a b' c d q0 q1 q2 q3 x y z u0 u1 u2) := (P14.alloc FP1.out _).ext x2
          have E2 : Ext w w2 := Ext.trans (E1.alloc _) x2
          clear x2 E1 FP1
          have dp0 := fun o => (P14.alloc FP2.out o).1
          have dp1 := fun o => (P14.alloc FP2.out o).2.1
          have dp2 := fun o => (P14.alloc FP2.out o).2.2.1
          have dp3 := fun o => (P14.alloc FP2.out o).2.2.2.1
          have dp4 := fun o => (P14.alloc FP2.out o).2.2.2.2.1
          have dp5 := fun o => (P14.alloc FP2.out o).2.2.2.2.2.1
          have dp6 := fun o => (P14.alloc FP2.out o).2.2.2.2.2.2.1
          have dp7 := fun o => (P14.alloc FP2.out o).2.2.2.2.2.2.2.1
          have dp8 := fun o => (P14.alloc FP2.out o).2.2.2.2.2.2.2.2.1
          have dp9 := fun o => (P14.alloc FP2.out o).2.2.2.2.2.2.2.2.2.1
          have dp10 := fun o => (P14.alloc FP2.out o).2.2.2.2.2.2.2.2.2.2.1
          have da0 := fun o => (H3.alloc FA2.out o).1
          have da1 := fun o => (H3.alloc FA2.out o).2.1
          have da2 := fun o => (H3.alloc FA2.out o).2.2.1
          go_wp2_with (go_at_call 13; refine (HN.out _ _).mono ?_; rintro e wx ⟨rfl, hwx⟩; have hwy := hwx.symm; clear hwx; subst hwy)
          refine (HT.out _).mono ?_
          rintro e w3 ⟨rfl, x3⟩
          clear dp0 dp1 dp2 dp3 dp4 dp5 dp6 dp7 dp8 dp9 dp10 da0 da1 da2
          have FA3 : Hid (H3 w3 w1.heap.size (.int .i64 s0) (.int .i64 s1) (.int .i64 s2)) := (H3.alloc FA2.out _).ext x3
          have E3 : Ext w w3 := Ext.trans (E2.alloc _) x3
          have L3 : w1.heap.size < w3.heap.size := FA3.out.2.2.2.2.2.2
          clear x3 E2 FP2
          have da0 := fun o => (H3.alloc FA3.out o).1
          have da1 := fun o => (H3.alloc FA3.out o).2.1
          have da2 := fun o => (H3.alloc FA3.out o).2.2.1
          go_wp2_with (go_at_call 13; refine (HN.out _ _).mono ?_; rintro e wx ⟨rfl, hwx⟩; have hwy := hwx.symm; clear hwx; subst hwy)
          go_roundw
          case rel => exact ⟨k + 1, by omega, by go_num, E3.alloc _⟩
          case measure => simp [intOf]; omega
      · go_wp2_with fail
        refine (HW.out _).mono ?_
        rintro e w1 ⟨rfl, x1⟩
        go_wp2_with fail
        go_ret
        exact ⟨rfl, hx.trans x1⟩
    · have hkn : k = len := by omega
      subst hkn
      go_wp2_with fail
      refine (HW.out _).mono ?_
      rintro e w1 ⟨rfl, x1⟩
      go_wp2_with fail
      go_ret
      exact ⟨rfl, hx.trans x1⟩
set_option maxRecDepth 20000 in
set_option maxHeartbeats 4000000 in
theorem backs_none (a : Option Addr) (cap : Nat) (w : World) :
    Calls Try.prog 4 #[.slice a 0 cap] w fun e w' => e = .returned (.bool true) ∧ Ext w w' := by
  have HW : Hid (∀ w', Calls Try.prog 14 #[] w' fun e w'' => e = .returned (.bool true) ∧ Ext w' w'') := wakes4_any
  go_enter Try.func4, Try.ntmps4
  go_wp2_with fail
  refine wp_loop_rounds 1 ?_
  rw [rounds_succ]
  go_wp2_with fail
  refine (HW.out _).mono ?_
  rintro e w1 ⟨rfl, x1⟩
  go_wp2_with fail
  go_ret
  exact ⟨rfl, x1⟩
end Go.Proofs.Ytchmcmcbdipphaa
