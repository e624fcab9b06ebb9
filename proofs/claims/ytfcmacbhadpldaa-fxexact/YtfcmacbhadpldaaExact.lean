/- FxExact. -/
import Derived.Test.YtfcmacbhadpldaaBoth
namespace Go.Proofs.Ytfcmacbhadpldaa
open Go.RowKit

set_option maxRecDepth 20000 in
theorem Ext.abnd {w w' : World} {u0 u1 u2 u3 u4 u5 : Value} {T : TypeId} (h : Ext (w.alloc (.cells #[u0, u1, u2, u3, u4, u5] T)) w') : w'.cell? ⟨w.heap.size, 0, none⟩ = some u0 ∧ w'.cell? ⟨w.heap.size, 1, none⟩ = some u1 ∧ w'.cell? ⟨w.heap.size, 2, none⟩ = some u2 ∧ w'.cell? ⟨w.heap.size, 3, none⟩ = some u3 := by
  obtain ⟨h0, h1, h2, h3, _⟩ := h.cells6
  exact ⟨h0, h1, h2, h3⟩
theorem neg_yes (a : Int) (h : okW a = true) (w : World) : Calls Try.prog 24 #[.int .i64 a] w fun e w' => e = .returned (.tuple #[.int .i64 (-a), .int .i64 0]) ∧ Ext w w' := by
  have k := neg_any a w
  have g := okW_bounds h
  have e : subR 0 a = (-a, 0) := by
    unfold subR
    rw [if_pos (by rw [h]; decide)]
    unfold diffV fitR
    rw [if_pos (by unfold okW; simp; omega), Int.zero_sub]
  rw [e] at k
  exact k
theorem neg_no (a : Int) (h : okW a = false) (w : World) : Calls Try.prog 24 #[.int .i64 a] w fun e w' => e = .returned (.tuple #[.int .i64 0, .int .i64 1]) ∧ Ext w w' := by
  have k := neg_any a w
  have e : subR 0 a = (0, 1) := by
    unfold subR
    rw [h]
    simp
  rw [e] at k
  exact k
theorem check_yes2 (a : Int) (h : okW a = true) (w : World) : Calls Try.prog 22 #[.int .i64 a] w fun e w' => e = .returned (.int .i64 0) ∧ w' = w := by
  have k := check_any a w
  have e : chk a = 0 := by unfold chk; rw [if_pos h]
  rw [e] at k
  exact k
theorem check_no2 (a : Int) (h : okW a = false) (w : World) : Calls Try.prog 22 #[.int .i64 a] w fun e w' => e = .returned (.int .i64 1) ∧ w' = w := by
  have k := check_any a w
  have e : chk a = 1 := by unfold chk; rw [h]; rfl
  rw [e] at k
  exact k

set_option maxHeartbeats 4000000 in
set_option maxRecDepth 20000 in
theorem exacts_any (b off len cap : Nat) (Z : Nat → Nat → Int) (w : World) (hl : len ≤ maxLen) (hc : Twos w b off len Z) :
    Calls Try.prog 6 #[.slice (some ⟨b, off, none⟩) len cap] w fun e w' => e = .returned (.bool true) ∧ Ext w w' := by
  have hl' : len ≤ 9223372036854775807 := by unfold maxLen at hl; omega
  clear hl
  go_enter Try.func6, Try.ntmps6
  go_wp2_with fail
  go_loopw [3] (fun i wr => ∃ k : Nat, k ≤ len ∧ i = .int .i64 k ∧ Ext w wr) (fun i _ => len - (intOf i).toNat)
  case atStart => exact ⟨0, Nat.zero_le _, rfl, Ext.refl _⟩
  case round =>
    obtain ⟨k, hk, rfl, hx⟩ := hrel
    by_cases hlt : k < len
    · by_cases h30 : k < 30
      · obtain ⟨A, B, N, D, Lo, Hi, z0, z1, z2, z3, z4, z5, ⟨ba, ba'⟩, ⟨bb, bb'⟩, ⟨bn, bn'⟩, ⟨bd, bd'⟩, ⟨bl, bl'⟩, ⟨bh, bh'⟩⟩ := (hc.ext hx).row hlt
        have hlt' : (k : Int) < (len : Int) := by omega
        cases ha : okW A
        · have hab : (okW A && okW B) = false := by rw [ha]; rfl
          cases hb : okW B
          · obtain ⟨RX, RE, hR1, hR2⟩ := ratio_both N D bn bn' bd bd'
            have HT1 : Hid _ := hR1
            have HT2 : Hid _ := hR2
            clear hR1 hR2
            obtain ⟨m1, m2, m3, m4⟩ := no_word hab
            have HM : Hid _ := m1
            have HD : Hid _ := m2
            have HA : Hid _ := m3
            have HS : Hid _ := m4
            clear m1 m2 m3 m4 hab
            have HN : Hid _ := neg_no A ha
            have HCk : Hid _ := check_no2 A ha
            go_wp2_with (first | (go_at_call 21; refine (num_any _ _).mono ?_; rintro e wx ⟨rfl, hwx⟩; have hwy := hwx.symm; clear hwx; subst hwy) | (go_at_call 10; refine (may_any _ _).mono ?_; rintro e wx ⟨rfl, hwx⟩; have hwy := hwx.symm; clear hwx; subst hwy) | (go_at_call 22; refine (HCk.out _).mono ?_; rintro e wx ⟨rfl, hwx⟩; have hwy := hwx.symm; clear hwx; subst hwy) | (go_at_call 12; refine (is_same _ _ _).mono ?_; rintro e wx ⟨rfl, hwx⟩; have hwy := hwx.symm; clear hwx; subst hwy))
            refine (HT2.out _).mono ?_
            rintro e w1 ⟨rfl, x1⟩
            have E1 : Hid (Ext (wr.alloc (.cells #[.int .i64 A, .int .i64 B, .int .i64 N, .int .i64 D, .int .i64 Lo, .int .i64 Hi] 24)) w1) := x1
            clear x1 
            obtain ⟨cA, cB, cN, cD⟩ := E1.out.abnd
            go_wp2_with (first | (go_at_call 21; refine (num_any _ _).mono ?_; rintro e wx ⟨rfl, hwx⟩; have hwy := hwx.symm; clear hwx; subst hwy) | (go_at_call 10; refine (may_any _ _).mono ?_; rintro e wx ⟨rfl, hwx⟩; have hwy := hwx.symm; clear hwx; subst hwy) | (go_at_call 22; refine (HCk.out _).mono ?_; rintro e wx ⟨rfl, hwx⟩; have hwy := hwx.symm; clear hwx; subst hwy) | (go_at_call 12; refine (is_same _ _ _).mono ?_; rintro e wx ⟨rfl, hwx⟩; have hwy := hwx.symm; clear hwx; subst hwy))
            refine (HA.out _).mono ?_
            rintro e w2 ⟨rfl, x2⟩
            have E2 : Hid (Ext (wr.alloc (.cells #[.int .i64 A, .int .i64 B, .int .i64 N, .int .i64 D, .int .i64 Lo, .int .i64 Hi] 24)) w2) := E1.out.trans x2
            clear x2 cA cB cN cD
            obtain ⟨cA, cB, cN, cD⟩ := E2.out.abnd
            go_wp2_with (first | (go_at_call 21; refine (num_any _ _).mono ?_; rintro e wx ⟨rfl, hwx⟩; have hwy := hwx.symm; clear hwx; subst hwy) | (go_at_call 10; refine (may_any _ _).mono ?_; rintro e wx ⟨rfl, hwx⟩; have hwy := hwx.symm; clear hwx; subst hwy) | (go_at_call 22; refine (HCk.out _).mono ?_; rintro e wx ⟨rfl, hwx⟩; have hwy := hwx.symm; clear hwx; subst hwy) | (go_at_call 12; refine (is_same _ _ _).mono ?_; rintro e wx ⟨rfl, hwx⟩; have hwy := hwx.symm; clear hwx; subst hwy))
            refine (HS.out _).mono ?_
            rintro e w3 ⟨rfl, x3⟩
            have E3 : Hid (Ext (wr.alloc (.cells #[.int .i64 A, .int .i64 B, .int .i64 N, .int .i64 D, .int .i64 Lo, .int .i64 Hi] 24)) w3) := E2.out.trans x3
            clear x3 cA cB cN cD
            obtain ⟨cA, cB, cN, cD⟩ := E3.out.abnd
            go_wp2_with (first | (go_at_call 21; refine (num_any _ _).mono ?_; rintro e wx ⟨rfl, hwx⟩; have hwy := hwx.symm; clear hwx; subst hwy) | (go_at_call 10; refine (may_any _ _).mono ?_; rintro e wx ⟨rfl, hwx⟩; have hwy := hwx.symm; clear hwx; subst hwy) | (go_at_call 22; refine (HCk.out _).mono ?_; rintro e wx ⟨rfl, hwx⟩; have hwy := hwx.symm; clear hwx; subst hwy) | (go_at_call 12; refine (is_same _ _ _).mono ?_; rintro e wx ⟨rfl, hwx⟩; have hwy := hwx.symm; clear hwx; subst hwy))
            refine (HM.out _).mono ?_
            rintro e w4 ⟨rfl, x4⟩
            have E4 : Hid (Ext (wr.alloc (.cells #[.int .i64 A, .int .i64 B, .int .i64 N, .int .i64 D, .int .i64 Lo, .int .i64 Hi] 24)) w4) := E3.out.trans x4
            clear x4 cA cB cN cD
            obtain ⟨cA, cB, cN, cD⟩ := E4.out.abnd
            go_wp2_with (first | (go_at_call 21; refine (num_any _ _).mono ?_; rintro e wx ⟨rfl, hwx⟩; have hwy := hwx.symm; clear hwx; subst hwy) | (go_at_call 10; refine (may_any _ _).mono ?_; rintro e wx ⟨rfl, hwx⟩; have hwy := hwx.symm; clear hwx; subst hwy) | (go_at_call 22; refine (HCk.out _).mono ?_; rintro e wx ⟨rfl, hwx⟩; have hwy := hwx.symm; clear hwx; subst hwy) | (go_at_call 12; refine (is_same _ _ _).mono ?_; rintro e wx ⟨rfl, hwx⟩; have hwy := hwx.symm; clear hwx; subst hwy))
            refine (HD.out _).mono ?_
            rintro e w5 ⟨rfl, x5⟩
            have E5 : Hid (Ext (wr.alloc (.cells #[.int .i64 A, .int .i64 B, .int .i64 N, .int .i64 D, .int .i64 Lo, .int .i64 Hi] 24)) w5) := E4.out.trans x5
            clear x5 cA cB cN cD
            obtain ⟨cA, cB, cN, cD⟩ := E5.out.abnd
            go_wp2_with (first | (go_at_call 21; refine (num_any _ _).mono ?_; rintro e wx ⟨rfl, hwx⟩; have hwy := hwx.symm; clear hwx; subst hwy) | (go_at_call 10; refine (may_any _ _).mono ?_; rintro e wx ⟨rfl, hwx⟩; have hwy := hwx.symm; clear hwx; subst hwy) | (go_at_call 22; refine (HCk.out _).mono ?_; rintro e wx ⟨rfl, hwx⟩; have hwy := hwx.symm; clear hwx; subst hwy) | (go_at_call 12; refine (is_same _ _ _).mono ?_; rintro e wx ⟨rfl, hwx⟩; have hwy := hwx.symm; clear hwx; subst hwy))
            refine (HN.out _).mono ?_
            rintro e w6 ⟨rfl, x6⟩
            have E6 : Hid (Ext (wr.alloc (.cells #[.int .i64 A, .int .i64 B, .int .i64 N, .int .i64 D, .int .i64 Lo, .int .i64 Hi] 24)) w6) := E5.out.trans x6
            clear x6 cA cB cN cD
            obtain ⟨cA, cB, cN, cD⟩ := E6.out.abnd
            go_wp2_with (first | (go_at_call 21; refine (num_any _ _).mono ?_; rintro e wx ⟨rfl, hwx⟩; have hwy := hwx.symm; clear hwx; subst hwy) | (go_at_call 10; refine (may_any _ _).mono ?_; rintro e wx ⟨rfl, hwx⟩; have hwy := hwx.symm; clear hwx; subst hwy) | (go_at_call 22; refine (HCk.out _).mono ?_; rintro e wx ⟨rfl, hwx⟩; have hwy := hwx.symm; clear hwx; subst hwy) | (go_at_call 12; refine (is_same _ _ _).mono ?_; rintro e wx ⟨rfl, hwx⟩; have hwy := hwx.symm; clear hwx; subst hwy))
            refine (HT1.out _).mono ?_
            rintro e w7 ⟨rfl, x7⟩
            have E7 : Hid (Ext (wr.alloc (.cells #[.int .i64 A, .int .i64 B, .int .i64 N, .int .i64 D, .int .i64 Lo, .int .i64 Hi] 24)) w7) := E6.out.trans x7
            clear x7 cA cB cN cD
            obtain ⟨cA, cB, cN, cD⟩ := E7.out.abnd
            go_wp2_with (first | (go_at_call 21; refine (num_any _ _).mono ?_; rintro e wx ⟨rfl, hwx⟩; have hwy := hwx.symm; clear hwx; subst hwy) | (go_at_call 10; refine (may_any _ _).mono ?_; rintro e wx ⟨rfl, hwx⟩; have hwy := hwx.symm; clear hwx; subst hwy) | (go_at_call 22; refine (HCk.out _).mono ?_; rintro e wx ⟨rfl, hwx⟩; have hwy := hwx.symm; clear hwx; subst hwy) | (go_at_call 12; refine (is_same _ _ _).mono ?_; rintro e wx ⟨rfl, hwx⟩; have hwy := hwx.symm; clear hwx; subst hwy))
            go_roundw
            case rel => exact ⟨k + 1, by omega, by go_num, (hx.alloc _).trans E7.out⟩
            case measure => simp [intOf]; omega
          · obtain ⟨RX, RE, hR1, hR2⟩ := ratio_both N D bn bn' bd bd'
            have HT1 : Hid _ := hR1
            have HT2 : Hid _ := hR2
            clear hR1 hR2
            obtain ⟨m1, m2, m3, m4⟩ := no_word hab
            have HM : Hid _ := m1
            have HD : Hid _ := m2
            have HA : Hid _ := m3
            have HS : Hid _ := m4
            clear m1 m2 m3 m4 hab
            have HN : Hid _ := neg_no A ha
            have HCk : Hid _ := check_no2 A ha
            go_wp2_with (first | (go_at_call 21; refine (num_any _ _).mono ?_; rintro e wx ⟨rfl, hwx⟩; have hwy := hwx.symm; clear hwx; subst hwy) | (go_at_call 10; refine (may_any _ _).mono ?_; rintro e wx ⟨rfl, hwx⟩; have hwy := hwx.symm; clear hwx; subst hwy) | (go_at_call 22; refine (HCk.out _).mono ?_; rintro e wx ⟨rfl, hwx⟩; have hwy := hwx.symm; clear hwx; subst hwy) | (go_at_call 12; refine (is_same _ _ _).mono ?_; rintro e wx ⟨rfl, hwx⟩; have hwy := hwx.symm; clear hwx; subst hwy))
            refine (HT2.out _).mono ?_
            rintro e w1 ⟨rfl, x1⟩
            have E1 : Hid (Ext (wr.alloc (.cells #[.int .i64 A, .int .i64 B, .int .i64 N, .int .i64 D, .int .i64 Lo, .int .i64 Hi] 24)) w1) := x1
            clear x1 
            obtain ⟨cA, cB, cN, cD⟩ := E1.out.abnd
            go_wp2_with (first | (go_at_call 21; refine (num_any _ _).mono ?_; rintro e wx ⟨rfl, hwx⟩; have hwy := hwx.symm; clear hwx; subst hwy) | (go_at_call 10; refine (may_any _ _).mono ?_; rintro e wx ⟨rfl, hwx⟩; have hwy := hwx.symm; clear hwx; subst hwy) | (go_at_call 22; refine (HCk.out _).mono ?_; rintro e wx ⟨rfl, hwx⟩; have hwy := hwx.symm; clear hwx; subst hwy) | (go_at_call 12; refine (is_same _ _ _).mono ?_; rintro e wx ⟨rfl, hwx⟩; have hwy := hwx.symm; clear hwx; subst hwy))
            refine (HA.out _).mono ?_
            rintro e w2 ⟨rfl, x2⟩
            have E2 : Hid (Ext (wr.alloc (.cells #[.int .i64 A, .int .i64 B, .int .i64 N, .int .i64 D, .int .i64 Lo, .int .i64 Hi] 24)) w2) := E1.out.trans x2
            clear x2 cA cB cN cD
            obtain ⟨cA, cB, cN, cD⟩ := E2.out.abnd
            go_wp2_with (first | (go_at_call 21; refine (num_any _ _).mono ?_; rintro e wx ⟨rfl, hwx⟩; have hwy := hwx.symm; clear hwx; subst hwy) | (go_at_call 10; refine (may_any _ _).mono ?_; rintro e wx ⟨rfl, hwx⟩; have hwy := hwx.symm; clear hwx; subst hwy) | (go_at_call 22; refine (HCk.out _).mono ?_; rintro e wx ⟨rfl, hwx⟩; have hwy := hwx.symm; clear hwx; subst hwy) | (go_at_call 12; refine (is_same _ _ _).mono ?_; rintro e wx ⟨rfl, hwx⟩; have hwy := hwx.symm; clear hwx; subst hwy))
            refine (HS.out _).mono ?_
            rintro e w3 ⟨rfl, x3⟩
            have E3 : Hid (Ext (wr.alloc (.cells #[.int .i64 A, .int .i64 B, .int .i64 N, .int .i64 D, .int .i64 Lo, .int .i64 Hi] 24)) w3) := E2.out.trans x3
            clear x3 cA cB cN cD
            obtain ⟨cA, cB, cN, cD⟩ := E3.out.abnd
            go_wp2_with (first | (go_at_call 21; refine (num_any _ _).mono ?_; rintro e wx ⟨rfl, hwx⟩; have hwy := hwx.symm; clear hwx; subst hwy) | (go_at_call 10; refine (may_any _ _).mono ?_; rintro e wx ⟨rfl, hwx⟩; have hwy := hwx.symm; clear hwx; subst hwy) | (go_at_call 22; refine (HCk.out _).mono ?_; rintro e wx ⟨rfl, hwx⟩; have hwy := hwx.symm; clear hwx; subst hwy) | (go_at_call 12; refine (is_same _ _ _).mono ?_; rintro e wx ⟨rfl, hwx⟩; have hwy := hwx.symm; clear hwx; subst hwy))
            refine (HM.out _).mono ?_
            rintro e w4 ⟨rfl, x4⟩
            have E4 : Hid (Ext (wr.alloc (.cells #[.int .i64 A, .int .i64 B, .int .i64 N, .int .i64 D, .int .i64 Lo, .int .i64 Hi] 24)) w4) := E3.out.trans x4
            clear x4 cA cB cN cD
            obtain ⟨cA, cB, cN, cD⟩ := E4.out.abnd
            go_wp2_with (first | (go_at_call 21; refine (num_any _ _).mono ?_; rintro e wx ⟨rfl, hwx⟩; have hwy := hwx.symm; clear hwx; subst hwy) | (go_at_call 10; refine (may_any _ _).mono ?_; rintro e wx ⟨rfl, hwx⟩; have hwy := hwx.symm; clear hwx; subst hwy) | (go_at_call 22; refine (HCk.out _).mono ?_; rintro e wx ⟨rfl, hwx⟩; have hwy := hwx.symm; clear hwx; subst hwy) | (go_at_call 12; refine (is_same _ _ _).mono ?_; rintro e wx ⟨rfl, hwx⟩; have hwy := hwx.symm; clear hwx; subst hwy))
            refine (HD.out _).mono ?_
            rintro e w5 ⟨rfl, x5⟩
            have E5 : Hid (Ext (wr.alloc (.cells #[.int .i64 A, .int .i64 B, .int .i64 N, .int .i64 D, .int .i64 Lo, .int .i64 Hi] 24)) w5) := E4.out.trans x5
            clear x5 cA cB cN cD
            obtain ⟨cA, cB, cN, cD⟩ := E5.out.abnd
            go_wp2_with (first | (go_at_call 21; refine (num_any _ _).mono ?_; rintro e wx ⟨rfl, hwx⟩; have hwy := hwx.symm; clear hwx; subst hwy) | (go_at_call 10; refine (may_any _ _).mono ?_; rintro e wx ⟨rfl, hwx⟩; have hwy := hwx.symm; clear hwx; subst hwy) | (go_at_call 22; refine (HCk.out _).mono ?_; rintro e wx ⟨rfl, hwx⟩; have hwy := hwx.symm; clear hwx; subst hwy) | (go_at_call 12; refine (is_same _ _ _).mono ?_; rintro e wx ⟨rfl, hwx⟩; have hwy := hwx.symm; clear hwx; subst hwy))
            refine (HN.out _).mono ?_
            rintro e w6 ⟨rfl, x6⟩
            have E6 : Hid (Ext (wr.alloc (.cells #[.int .i64 A, .int .i64 B, .int .i64 N, .int .i64 D, .int .i64 Lo, .int .i64 Hi] 24)) w6) := E5.out.trans x6
            clear x6 cA cB cN cD
            obtain ⟨cA, cB, cN, cD⟩ := E6.out.abnd
            go_wp2_with (first | (go_at_call 21; refine (num_any _ _).mono ?_; rintro e wx ⟨rfl, hwx⟩; have hwy := hwx.symm; clear hwx; subst hwy) | (go_at_call 10; refine (may_any _ _).mono ?_; rintro e wx ⟨rfl, hwx⟩; have hwy := hwx.symm; clear hwx; subst hwy) | (go_at_call 22; refine (HCk.out _).mono ?_; rintro e wx ⟨rfl, hwx⟩; have hwy := hwx.symm; clear hwx; subst hwy) | (go_at_call 12; refine (is_same _ _ _).mono ?_; rintro e wx ⟨rfl, hwx⟩; have hwy := hwx.symm; clear hwx; subst hwy))
            refine (HT1.out _).mono ?_
            rintro e w7 ⟨rfl, x7⟩
            have E7 : Hid (Ext (wr.alloc (.cells #[.int .i64 A, .int .i64 B, .int .i64 N, .int .i64 D, .int .i64 Lo, .int .i64 Hi] 24)) w7) := E6.out.trans x7
            clear x7 cA cB cN cD
            obtain ⟨cA, cB, cN, cD⟩ := E7.out.abnd
            go_wp2_with (first | (go_at_call 21; refine (num_any _ _).mono ?_; rintro e wx ⟨rfl, hwx⟩; have hwy := hwx.symm; clear hwx; subst hwy) | (go_at_call 10; refine (may_any _ _).mono ?_; rintro e wx ⟨rfl, hwx⟩; have hwy := hwx.symm; clear hwx; subst hwy) | (go_at_call 22; refine (HCk.out _).mono ?_; rintro e wx ⟨rfl, hwx⟩; have hwy := hwx.symm; clear hwx; subst hwy) | (go_at_call 12; refine (is_same _ _ _).mono ?_; rintro e wx ⟨rfl, hwx⟩; have hwy := hwx.symm; clear hwx; subst hwy))
            go_roundw
            case rel => exact ⟨k + 1, by omega, by go_num, (hx.alloc _).trans E7.out⟩
            case measure => simp [intOf]; omega
        · cases hb : okW B
          · have hab : (okW A && okW B) = false := by rw [hb]; simp
            obtain ⟨RX, RE, hR1, hR2⟩ := ratio_both N D bn bn' bd bd'
            have HT1 : Hid _ := hR1
            have HT2 : Hid _ := hR2
            clear hR1 hR2
            obtain ⟨m1, m2, m3, m4⟩ := no_word hab
            have HM : Hid _ := m1
            have HD : Hid _ := m2
            have HA : Hid _ := m3
            have HS : Hid _ := m4
            clear m1 m2 m3 m4 hab
            have HN : Hid _ := neg_yes A ha
            have HCk : Hid _ := check_yes2 A ha
            have gA := okW_bounds ha
            go_wp2_with (first | (go_at_call 21; refine (num_any _ _).mono ?_; rintro e wx ⟨rfl, hwx⟩; have hwy := hwx.symm; clear hwx; subst hwy) | (go_at_call 10; refine (may_any _ _).mono ?_; rintro e wx ⟨rfl, hwx⟩; have hwy := hwx.symm; clear hwx; subst hwy) | (go_at_call 22; refine (HCk.out _).mono ?_; rintro e wx ⟨rfl, hwx⟩; have hwy := hwx.symm; clear hwx; subst hwy) | (go_at_call 12; refine (is_same _ _ _).mono ?_; rintro e wx ⟨rfl, hwx⟩; have hwy := hwx.symm; clear hwx; subst hwy))
            refine (HT2.out _).mono ?_
            rintro e w1 ⟨rfl, x1⟩
            have E1 : Hid (Ext (wr.alloc (.cells #[.int .i64 A, .int .i64 B, .int .i64 N, .int .i64 D, .int .i64 Lo, .int .i64 Hi] 24)) w1) := x1
            clear x1 
            obtain ⟨cA, cB, cN, cD⟩ := E1.out.abnd
            go_wp2_with (first | (go_at_call 21; refine (num_any _ _).mono ?_; rintro e wx ⟨rfl, hwx⟩; have hwy := hwx.symm; clear hwx; subst hwy) | (go_at_call 10; refine (may_any _ _).mono ?_; rintro e wx ⟨rfl, hwx⟩; have hwy := hwx.symm; clear hwx; subst hwy) | (go_at_call 22; refine (HCk.out _).mono ?_; rintro e wx ⟨rfl, hwx⟩; have hwy := hwx.symm; clear hwx; subst hwy) | (go_at_call 12; refine (is_same _ _ _).mono ?_; rintro e wx ⟨rfl, hwx⟩; have hwy := hwx.symm; clear hwx; subst hwy))
            refine (HA.out _).mono ?_
            rintro e w2 ⟨rfl, x2⟩
            have E2 : Hid (Ext (wr.alloc (.cells #[.int .i64 A, .int .i64 B, .int .i64 N, .int .i64 D, .int .i64 Lo, .int .i64 Hi] 24)) w2) := E1.out.trans x2
            clear x2 cA cB cN cD
            obtain ⟨cA, cB, cN, cD⟩ := E2.out.abnd
            go_wp2_with (first | (go_at_call 21; refine (num_any _ _).mono ?_; rintro e wx ⟨rfl, hwx⟩; have hwy := hwx.symm; clear hwx; subst hwy) | (go_at_call 10; refine (may_any _ _).mono ?_; rintro e wx ⟨rfl, hwx⟩; have hwy := hwx.symm; clear hwx; subst hwy) | (go_at_call 22; refine (HCk.out _).mono ?_; rintro e wx ⟨rfl, hwx⟩; have hwy := hwx.symm; clear hwx; subst hwy) | (go_at_call 12; refine (is_same _ _ _).mono ?_; rintro e wx ⟨rfl, hwx⟩; have hwy := hwx.symm; clear hwx; subst hwy))
            refine (HS.out _).mono ?_
            rintro e w3 ⟨rfl, x3⟩
            have E3 : Hid (Ext (wr.alloc (.cells #[.int .i64 A, .int .i64 B, .int .i64 N, .int .i64 D, .int .i64 Lo, .int .i64 Hi] 24)) w3) := E2.out.trans x3
            clear x3 cA cB cN cD
            obtain ⟨cA, cB, cN, cD⟩ := E3.out.abnd
            go_wp2_with (first | (go_at_call 21; refine (num_any _ _).mono ?_; rintro e wx ⟨rfl, hwx⟩; have hwy := hwx.symm; clear hwx; subst hwy) | (go_at_call 10; refine (may_any _ _).mono ?_; rintro e wx ⟨rfl, hwx⟩; have hwy := hwx.symm; clear hwx; subst hwy) | (go_at_call 22; refine (HCk.out _).mono ?_; rintro e wx ⟨rfl, hwx⟩; have hwy := hwx.symm; clear hwx; subst hwy) | (go_at_call 12; refine (is_same _ _ _).mono ?_; rintro e wx ⟨rfl, hwx⟩; have hwy := hwx.symm; clear hwx; subst hwy))
            refine (HM.out _).mono ?_
            rintro e w4 ⟨rfl, x4⟩
            have E4 : Hid (Ext (wr.alloc (.cells #[.int .i64 A, .int .i64 B, .int .i64 N, .int .i64 D, .int .i64 Lo, .int .i64 Hi] 24)) w4) := E3.out.trans x4
            clear x4 cA cB cN cD
            obtain ⟨cA, cB, cN, cD⟩ := E4.out.abnd
            go_wp2_with (first | (go_at_call 21; refine (num_any _ _).mono ?_; rintro e wx ⟨rfl, hwx⟩; have hwy := hwx.symm; clear hwx; subst hwy) | (go_at_call 10; refine (may_any _ _).mono ?_; rintro e wx ⟨rfl, hwx⟩; have hwy := hwx.symm; clear hwx; subst hwy) | (go_at_call 22; refine (HCk.out _).mono ?_; rintro e wx ⟨rfl, hwx⟩; have hwy := hwx.symm; clear hwx; subst hwy) | (go_at_call 12; refine (is_same _ _ _).mono ?_; rintro e wx ⟨rfl, hwx⟩; have hwy := hwx.symm; clear hwx; subst hwy))
            refine (HD.out _).mono ?_
            rintro e w5 ⟨rfl, x5⟩
            have E5 : Hid (Ext (wr.alloc (.cells #[.int .i64 A, .int .i64 B, .int .i64 N, .int .i64 D, .int .i64 Lo, .int .i64 Hi] 24)) w5) := E4.out.trans x5
            clear x5 cA cB cN cD
            obtain ⟨cA, cB, cN, cD⟩ := E5.out.abnd
            go_wp2_with (first | (go_at_call 21; refine (num_any _ _).mono ?_; rintro e wx ⟨rfl, hwx⟩; have hwy := hwx.symm; clear hwx; subst hwy) | (go_at_call 10; refine (may_any _ _).mono ?_; rintro e wx ⟨rfl, hwx⟩; have hwy := hwx.symm; clear hwx; subst hwy) | (go_at_call 22; refine (HCk.out _).mono ?_; rintro e wx ⟨rfl, hwx⟩; have hwy := hwx.symm; clear hwx; subst hwy) | (go_at_call 12; refine (is_same _ _ _).mono ?_; rintro e wx ⟨rfl, hwx⟩; have hwy := hwx.symm; clear hwx; subst hwy))
            refine (HN.out _).mono ?_
            rintro e w6 ⟨rfl, x6⟩
            have E6 : Hid (Ext (wr.alloc (.cells #[.int .i64 A, .int .i64 B, .int .i64 N, .int .i64 D, .int .i64 Lo, .int .i64 Hi] 24)) w6) := E5.out.trans x6
            clear x6 cA cB cN cD
            obtain ⟨cA, cB, cN, cD⟩ := E6.out.abnd
            go_wp2_with (first | (go_at_call 21; refine (num_any _ _).mono ?_; rintro e wx ⟨rfl, hwx⟩; have hwy := hwx.symm; clear hwx; subst hwy) | (go_at_call 10; refine (may_any _ _).mono ?_; rintro e wx ⟨rfl, hwx⟩; have hwy := hwx.symm; clear hwx; subst hwy) | (go_at_call 22; refine (HCk.out _).mono ?_; rintro e wx ⟨rfl, hwx⟩; have hwy := hwx.symm; clear hwx; subst hwy) | (go_at_call 12; refine (is_same _ _ _).mono ?_; rintro e wx ⟨rfl, hwx⟩; have hwy := hwx.symm; clear hwx; subst hwy))
            refine (HT1.out _).mono ?_
            rintro e w7 ⟨rfl, x7⟩
            have E7 : Hid (Ext (wr.alloc (.cells #[.int .i64 A, .int .i64 B, .int .i64 N, .int .i64 D, .int .i64 Lo, .int .i64 Hi] 24)) w7) := E6.out.trans x7
            clear x7 cA cB cN cD
            obtain ⟨cA, cB, cN, cD⟩ := E7.out.abnd
            go_wp2_with (first | (go_at_call 21; refine (num_any _ _).mono ?_; rintro e wx ⟨rfl, hwx⟩; have hwy := hwx.symm; clear hwx; subst hwy) | (go_at_call 10; refine (may_any _ _).mono ?_; rintro e wx ⟨rfl, hwx⟩; have hwy := hwx.symm; clear hwx; subst hwy) | (go_at_call 22; refine (HCk.out _).mono ?_; rintro e wx ⟨rfl, hwx⟩; have hwy := hwx.symm; clear hwx; subst hwy) | (go_at_call 12; refine (is_same _ _ _).mono ?_; rintro e wx ⟨rfl, hwx⟩; have hwy := hwx.symm; clear hwx; subst hwy))
            go_roundw
            case rel => exact ⟨k + 1, by omega, by go_num, (hx.alloc _).trans E7.out⟩
            case measure => simp [intOf]; omega
          · obtain ⟨RX, RE, hR1, hR2⟩ := ratio_both N D bn bn' bd bd'
            have HT1 : Hid _ := hR1
            have HT2 : Hid _ := hR2
            clear hR1 hR2
            obtain ⟨MX, ME, m1, m2⟩ := mul_both A B ha hb
            obtain ⟨DX, DE, d1, d2⟩ := div_both A B ha hb
            obtain ⟨AX, AE, a1, a2⟩ := add_both A B ha hb
            obtain ⟨SX, SE, s1, s2⟩ := sub_both A B ha hb
            have HM : Hid _ := m1
            have HM2 : Hid _ := m2
            have HD : Hid _ := d1
            have HD2 : Hid _ := d2
            have HA : Hid _ := a1
            have HA2 : Hid _ := a2
            have HS : Hid _ := s1
            have HS2 : Hid _ := s2
            have HN : Hid _ := neg_yes A ha
            have HCk : Hid _ := check_yes2 A ha
            have gA := okW_bounds ha
            clear m1 m2 d1 d2 a1 a2 s1 s2
            go_wp2_with (first | (go_at_call 21; refine (num_any _ _).mono ?_; rintro e wx ⟨rfl, hwx⟩; have hwy := hwx.symm; clear hwx; subst hwy) | (go_at_call 10; refine (may_any _ _).mono ?_; rintro e wx ⟨rfl, hwx⟩; have hwy := hwx.symm; clear hwx; subst hwy) | (go_at_call 22; refine (HCk.out _).mono ?_; rintro e wx ⟨rfl, hwx⟩; have hwy := hwx.symm; clear hwx; subst hwy) | (go_at_call 12; refine (is_same _ _ _).mono ?_; rintro e wx ⟨rfl, hwx⟩; have hwy := hwx.symm; clear hwx; subst hwy))
            refine (HA2.out _).mono ?_
            rintro e w1 ⟨rfl, x1⟩
            have E1 : Hid (Ext (wr.alloc (.cells #[.int .i64 A, .int .i64 B, .int .i64 N, .int .i64 D, .int .i64 Lo, .int .i64 Hi] 24)) w1) := x1
            clear x1 
            obtain ⟨cA, cB, cN, cD⟩ := E1.out.abnd
            go_wp2_with (first | (go_at_call 21; refine (num_any _ _).mono ?_; rintro e wx ⟨rfl, hwx⟩; have hwy := hwx.symm; clear hwx; subst hwy) | (go_at_call 10; refine (may_any _ _).mono ?_; rintro e wx ⟨rfl, hwx⟩; have hwy := hwx.symm; clear hwx; subst hwy) | (go_at_call 22; refine (HCk.out _).mono ?_; rintro e wx ⟨rfl, hwx⟩; have hwy := hwx.symm; clear hwx; subst hwy) | (go_at_call 12; refine (is_same _ _ _).mono ?_; rintro e wx ⟨rfl, hwx⟩; have hwy := hwx.symm; clear hwx; subst hwy))
            refine (HS2.out _).mono ?_
            rintro e w2 ⟨rfl, x2⟩
            have E2 : Hid (Ext (wr.alloc (.cells #[.int .i64 A, .int .i64 B, .int .i64 N, .int .i64 D, .int .i64 Lo, .int .i64 Hi] 24)) w2) := E1.out.trans x2
            clear x2 cA cB cN cD
            obtain ⟨cA, cB, cN, cD⟩ := E2.out.abnd
            go_wp2_with (first | (go_at_call 21; refine (num_any _ _).mono ?_; rintro e wx ⟨rfl, hwx⟩; have hwy := hwx.symm; clear hwx; subst hwy) | (go_at_call 10; refine (may_any _ _).mono ?_; rintro e wx ⟨rfl, hwx⟩; have hwy := hwx.symm; clear hwx; subst hwy) | (go_at_call 22; refine (HCk.out _).mono ?_; rintro e wx ⟨rfl, hwx⟩; have hwy := hwx.symm; clear hwx; subst hwy) | (go_at_call 12; refine (is_same _ _ _).mono ?_; rintro e wx ⟨rfl, hwx⟩; have hwy := hwx.symm; clear hwx; subst hwy))
            refine (HM2.out _).mono ?_
            rintro e w3 ⟨rfl, x3⟩
            have E3 : Hid (Ext (wr.alloc (.cells #[.int .i64 A, .int .i64 B, .int .i64 N, .int .i64 D, .int .i64 Lo, .int .i64 Hi] 24)) w3) := E2.out.trans x3
            clear x3 cA cB cN cD
            obtain ⟨cA, cB, cN, cD⟩ := E3.out.abnd
            go_wp2_with (first | (go_at_call 21; refine (num_any _ _).mono ?_; rintro e wx ⟨rfl, hwx⟩; have hwy := hwx.symm; clear hwx; subst hwy) | (go_at_call 10; refine (may_any _ _).mono ?_; rintro e wx ⟨rfl, hwx⟩; have hwy := hwx.symm; clear hwx; subst hwy) | (go_at_call 22; refine (HCk.out _).mono ?_; rintro e wx ⟨rfl, hwx⟩; have hwy := hwx.symm; clear hwx; subst hwy) | (go_at_call 12; refine (is_same _ _ _).mono ?_; rintro e wx ⟨rfl, hwx⟩; have hwy := hwx.symm; clear hwx; subst hwy))
            refine (HD2.out _).mono ?_
            rintro e w4 ⟨rfl, x4⟩
            have E4 : Hid (Ext (wr.alloc (.cells #[.int .i64 A, .int .i64 B, .int .i64 N, .int .i64 D, .int .i64 Lo, .int .i64 Hi] 24)) w4) := E3.out.trans x4
            clear x4 cA cB cN cD
            obtain ⟨cA, cB, cN, cD⟩ := E4.out.abnd
            go_wp2_with (first | (go_at_call 21; refine (num_any _ _).mono ?_; rintro e wx ⟨rfl, hwx⟩; have hwy := hwx.symm; clear hwx; subst hwy) | (go_at_call 10; refine (may_any _ _).mono ?_; rintro e wx ⟨rfl, hwx⟩; have hwy := hwx.symm; clear hwx; subst hwy) | (go_at_call 22; refine (HCk.out _).mono ?_; rintro e wx ⟨rfl, hwx⟩; have hwy := hwx.symm; clear hwx; subst hwy) | (go_at_call 12; refine (is_same _ _ _).mono ?_; rintro e wx ⟨rfl, hwx⟩; have hwy := hwx.symm; clear hwx; subst hwy))
            refine (HT2.out _).mono ?_
            rintro e w5 ⟨rfl, x5⟩
            have E5 : Hid (Ext (wr.alloc (.cells #[.int .i64 A, .int .i64 B, .int .i64 N, .int .i64 D, .int .i64 Lo, .int .i64 Hi] 24)) w5) := E4.out.trans x5
            clear x5 cA cB cN cD
            obtain ⟨cA, cB, cN, cD⟩ := E5.out.abnd
            go_wp2_with (first | (go_at_call 21; refine (num_any _ _).mono ?_; rintro e wx ⟨rfl, hwx⟩; have hwy := hwx.symm; clear hwx; subst hwy) | (go_at_call 10; refine (may_any _ _).mono ?_; rintro e wx ⟨rfl, hwx⟩; have hwy := hwx.symm; clear hwx; subst hwy) | (go_at_call 22; refine (HCk.out _).mono ?_; rintro e wx ⟨rfl, hwx⟩; have hwy := hwx.symm; clear hwx; subst hwy) | (go_at_call 12; refine (is_same _ _ _).mono ?_; rintro e wx ⟨rfl, hwx⟩; have hwy := hwx.symm; clear hwx; subst hwy))
            refine (HA.out _).mono ?_
            rintro e w6 ⟨rfl, x6⟩
            have E6 : Hid (Ext (wr.alloc (.cells #[.int .i64 A, .int .i64 B, .int .i64 N, .int .i64 D, .int .i64 Lo, .int .i64 Hi] 24)) w6) := E5.out.trans x6
            clear x6 cA cB cN cD
            obtain ⟨cA, cB, cN, cD⟩ := E6.out.abnd
            go_wp2_with (first | (go_at_call 21; refine (num_any _ _).mono ?_; rintro e wx ⟨rfl, hwx⟩; have hwy := hwx.symm; clear hwx; subst hwy) | (go_at_call 10; refine (may_any _ _).mono ?_; rintro e wx ⟨rfl, hwx⟩; have hwy := hwx.symm; clear hwx; subst hwy) | (go_at_call 22; refine (HCk.out _).mono ?_; rintro e wx ⟨rfl, hwx⟩; have hwy := hwx.symm; clear hwx; subst hwy) | (go_at_call 12; refine (is_same _ _ _).mono ?_; rintro e wx ⟨rfl, hwx⟩; have hwy := hwx.symm; clear hwx; subst hwy))
            refine (HS.out _).mono ?_
            rintro e w7 ⟨rfl, x7⟩
            have E7 : Hid (Ext (wr.alloc (.cells #[.int .i64 A, .int .i64 B, .int .i64 N, .int .i64 D, .int .i64 Lo, .int .i64 Hi] 24)) w7) := E6.out.trans x7
            clear x7 cA cB cN cD
            obtain ⟨cA, cB, cN, cD⟩ := E7.out.abnd
            go_wp2_with (first | (go_at_call 21; refine (num_any _ _).mono ?_; rintro e wx ⟨rfl, hwx⟩; have hwy := hwx.symm; clear hwx; subst hwy) | (go_at_call 10; refine (may_any _ _).mono ?_; rintro e wx ⟨rfl, hwx⟩; have hwy := hwx.symm; clear hwx; subst hwy) | (go_at_call 22; refine (HCk.out _).mono ?_; rintro e wx ⟨rfl, hwx⟩; have hwy := hwx.symm; clear hwx; subst hwy) | (go_at_call 12; refine (is_same _ _ _).mono ?_; rintro e wx ⟨rfl, hwx⟩; have hwy := hwx.symm; clear hwx; subst hwy))
            refine (HM.out _).mono ?_
            rintro e w8 ⟨rfl, x8⟩
            have E8 : Hid (Ext (wr.alloc (.cells #[.int .i64 A, .int .i64 B, .int .i64 N, .int .i64 D, .int .i64 Lo, .int .i64 Hi] 24)) w8) := E7.out.trans x8
            clear x8 cA cB cN cD
            obtain ⟨cA, cB, cN, cD⟩ := E8.out.abnd
            go_wp2_with (first | (go_at_call 21; refine (num_any _ _).mono ?_; rintro e wx ⟨rfl, hwx⟩; have hwy := hwx.symm; clear hwx; subst hwy) | (go_at_call 10; refine (may_any _ _).mono ?_; rintro e wx ⟨rfl, hwx⟩; have hwy := hwx.symm; clear hwx; subst hwy) | (go_at_call 22; refine (HCk.out _).mono ?_; rintro e wx ⟨rfl, hwx⟩; have hwy := hwx.symm; clear hwx; subst hwy) | (go_at_call 12; refine (is_same _ _ _).mono ?_; rintro e wx ⟨rfl, hwx⟩; have hwy := hwx.symm; clear hwx; subst hwy))
            refine (HD.out _).mono ?_
            rintro e w9 ⟨rfl, x9⟩
            have E9 : Hid (Ext (wr.alloc (.cells #[.int .i64 A, .int .i64 B, .int .i64 N, .int .i64 D, .int .i64 Lo, .int .i64 Hi] 24)) w9) := E8.out.trans x9
            clear x9 cA cB cN cD
            obtain ⟨cA, cB, cN, cD⟩ := E9.out.abnd
            go_wp2_with (first | (go_at_call 21; refine (num_any _ _).mono ?_; rintro e wx ⟨rfl, hwx⟩; have hwy := hwx.symm; clear hwx; subst hwy) | (go_at_call 10; refine (may_any _ _).mono ?_; rintro e wx ⟨rfl, hwx⟩; have hwy := hwx.symm; clear hwx; subst hwy) | (go_at_call 22; refine (HCk.out _).mono ?_; rintro e wx ⟨rfl, hwx⟩; have hwy := hwx.symm; clear hwx; subst hwy) | (go_at_call 12; refine (is_same _ _ _).mono ?_; rintro e wx ⟨rfl, hwx⟩; have hwy := hwx.symm; clear hwx; subst hwy))
            refine (HN.out _).mono ?_
            rintro e w10 ⟨rfl, x10⟩
            have E10 : Hid (Ext (wr.alloc (.cells #[.int .i64 A, .int .i64 B, .int .i64 N, .int .i64 D, .int .i64 Lo, .int .i64 Hi] 24)) w10) := E9.out.trans x10
            clear x10 cA cB cN cD
            obtain ⟨cA, cB, cN, cD⟩ := E10.out.abnd
            go_wp2_with (first | (go_at_call 21; refine (num_any _ _).mono ?_; rintro e wx ⟨rfl, hwx⟩; have hwy := hwx.symm; clear hwx; subst hwy) | (go_at_call 10; refine (may_any _ _).mono ?_; rintro e wx ⟨rfl, hwx⟩; have hwy := hwx.symm; clear hwx; subst hwy) | (go_at_call 22; refine (HCk.out _).mono ?_; rintro e wx ⟨rfl, hwx⟩; have hwy := hwx.symm; clear hwx; subst hwy) | (go_at_call 12; refine (is_same _ _ _).mono ?_; rintro e wx ⟨rfl, hwx⟩; have hwy := hwx.symm; clear hwx; subst hwy))
            refine (HT1.out _).mono ?_
            rintro e w11 ⟨rfl, x11⟩
            have E11 : Hid (Ext (wr.alloc (.cells #[.int .i64 A, .int .i64 B, .int .i64 N, .int .i64 D, .int .i64 Lo, .int .i64 Hi] 24)) w11) := E10.out.trans x11
            clear x11 cA cB cN cD
            obtain ⟨cA, cB, cN, cD⟩ := E11.out.abnd
            go_wp2_with (first | (go_at_call 21; refine (num_any _ _).mono ?_; rintro e wx ⟨rfl, hwx⟩; have hwy := hwx.symm; clear hwx; subst hwy) | (go_at_call 10; refine (may_any _ _).mono ?_; rintro e wx ⟨rfl, hwx⟩; have hwy := hwx.symm; clear hwx; subst hwy) | (go_at_call 22; refine (HCk.out _).mono ?_; rintro e wx ⟨rfl, hwx⟩; have hwy := hwx.symm; clear hwx; subst hwy) | (go_at_call 12; refine (is_same _ _ _).mono ?_; rintro e wx ⟨rfl, hwx⟩; have hwy := hwx.symm; clear hwx; subst hwy))
            go_roundw
            case rel => exact ⟨k + 1, by omega, by go_num, (hx.alloc _).trans E11.out⟩
            case measure => simp [intOf]; omega
      · go_wp2_with fail
        refine (wakes_any _).mono ?_
        rintro e w1 ⟨rfl, x1⟩
        go_wp2_with fail
        go_ret
        exact ⟨rfl, hx.trans x1⟩
    · go_wp2_with fail
      refine (wakes_any _).mono ?_
      rintro e w1 ⟨rfl, x1⟩
      go_wp2_with fail
      go_ret
      exact ⟨rfl, hx.trans x1⟩

set_option maxHeartbeats 1000000 in
set_option maxRecDepth 20000 in
theorem exacts_none (a : Option Addr) (cap : Nat) (w : World) :
    Calls Try.prog 6 #[.slice a 0 cap] w fun e w' => e = .returned (.bool true) ∧ Ext w w' := by
  go_enter Try.func6, Try.ntmps6
  go_wp2_with fail
  refine wp_loop_rounds 1 ?_
  rw [rounds_succ]
  go_wp2_with fail
  refine (wakes_any _).mono ?_
  rintro e w1 ⟨rfl, x1⟩
  go_wp2_with fail
  go_ret
  exact ⟨rfl, x1⟩
end Go.Proofs.Ytfcmacbhadpldaa
