/- FxAdds: sums and differences of any two words are the exact ones, or refused. -/
import Derived.Test.YtpokfpcaaacbnaaTwos
import Derived.Test.YtpokfpcaaacbnaaMay
namespace Go.Proofs.Ytpokfpcaaacbnaa
open Go.RowKit

theorem addR_form {a b : Int} (h : (okW a && okW b) = false) : addR a b = (0, 1) := by unfold addR; rw [h]; rfl
theorem subR_form {a b : Int} (h : (okW a && okW b) = false) : subR a b = (0, 1) := by unfold subR; rw [h]; rfl
theorem addR_yes {a b : Int} (h1 : okW a = true) (h2 : okW b = true) (h : okW (a + b) = true) : addR a b = (a + b, 0) := by unfold addR; rw [if_pos (by rw [h1, h2]; rfl)]; unfold sumV fitR; rw [if_pos h]
theorem addR_no {a b : Int} (h1 : okW a = true) (h2 : okW b = true) (h : okW (a + b) = false) : addR a b = (0, 2) := by unfold addR; rw [if_pos (by rw [h1, h2]; rfl)]; unfold sumV fitR; rw [h]; rfl
theorem subR_yes {a b : Int} (h1 : okW a = true) (h2 : okW b = true) (h : okW (a - b) = true) : subR a b = (a - b, 0) := by unfold subR; rw [if_pos (by rw [h1, h2]; rfl)]; unfold diffV fitR; rw [if_pos h]
theorem subR_no {a b : Int} (h1 : okW a = true) (h2 : okW b = true) (h : okW (a - b) = false) : subR a b = (0, 2) := by unfold subR; rw [if_pos (by rw [h1, h2]; rfl)]; unfold diffV fitR; rw [h]; rfl
theorem add_is {a b x e : Int} (h : addR a b = (x, e)) (w : World) : Calls Try.prog 9 #[.int .i64 a, .int .i64 b] w fun e' w' => e' = .returned (.tuple #[.int .i64 x, .int .i64 e]) ∧ Ext w w' := by
  have k := add_any a b w
  rw [h] at k
  exact k
theorem sub_is {a b x e : Int} (h : subR a b = (x, e)) (w : World) : Calls Try.prog 10 #[.int .i64 a, .int .i64 b] w fun e' w' => e' = .returned (.tuple #[.int .i64 x, .int .i64 e]) ∧ Ext w w' := by
  have k := sub_any a b w
  rw [h] at k
  exact k

set_option maxHeartbeats 4000000 in
set_option maxRecDepth 20000 in
theorem adds_any (b off len cap : Nat) (Z : Nat → Nat → Int) (w : World) (hl : len ≤ maxLen) (hc : Twos w b off len Z) :
    Calls Try.prog 3 #[.slice (some ⟨b, off, none⟩) len cap] w fun e w' => e = .returned (.bool true) ∧ Ext w w' := by
  have hl' : len ≤ 9223372036854775807 := by unfold maxLen at hl; omega
  clear hl
  go_enter Try.func3, Try.ntmps3
  go_wp2_with fail
  go_loopw [3] (fun i wr => ∃ k : Nat, k ≤ len ∧ i = .int .i64 k ∧ Ext w wr) (fun i _ => len - (intOf i).toNat)
  case atStart => exact ⟨0, Nat.zero_le _, rfl, Ext.refl _⟩
  case round =>
    obtain ⟨k, hk, rfl, hx⟩ := hrel
    by_cases hlt : k < len
    · by_cases h30 : k < 30
      · obtain ⟨A, B, N, D, Lo, Hi, z0, z1, z2, z3, z4, z5, ⟨ba, ba'⟩, ⟨bb, bb'⟩, ⟨bn, bn'⟩, ⟨bd, bd'⟩, ⟨bl, bl'⟩, ⟨bh, bh'⟩⟩ := (hc.ext hx).row hlt
        have hlt' : (k : Int) < (len : Int) := by omega
        cases ha : okW A
        · have hab : (okW A && okW B) = false := by rw [ha]; rfl
          have HA : Hid (∀ w, Calls Try.prog 9 #[.int .i64 A, .int .i64 B] w fun e w' => e = .returned (.tuple #[.int .i64 0, .int .i64 1]) ∧ Ext w w') := fun w => add_is (addR_form hab) w
          have HS : Hid (∀ w, Calls Try.prog 10 #[.int .i64 A, .int .i64 B] w fun e w' => e = .returned (.tuple #[.int .i64 0, .int .i64 1]) ∧ Ext w w') := fun w => sub_is (subR_form hab) w
          clear hab
          go_wp2_with fail
          go_quiet (fail)
          go_wp2_with fail
          refine (HA.out _).mono ?_
          rintro e w1 ⟨rfl, x1⟩
          go_wp2_with fail
          refine (HS.out _).mono ?_
          rintro e w2 ⟨rfl, x2⟩
          go_wp2_with (first | (go_at_call 11; refine (may_any _ _).mono ?_; rintro e wx ⟨rfl, hwx⟩; have hwy := hwx.symm; clear hwx; subst hwy) | (go_at_call 12; refine (num_any _ _).mono ?_; rintro e wx ⟨rfl, hwx⟩; have hwy := hwx.symm; clear hwx; subst hwy))
          go_roundw
          case rel => exact ⟨k + 1, by omega, by go_num, ((hx.drewN _).trans x1).trans x2⟩
          case measure => simp [intOf]; omega
        · cases hb : okW B
          · have hab : (okW A && okW B) = false := by rw [hb]; simp
            have HA : Hid (∀ w, Calls Try.prog 9 #[.int .i64 A, .int .i64 B] w fun e w' => e = .returned (.tuple #[.int .i64 0, .int .i64 1]) ∧ Ext w w') := fun w => add_is (addR_form hab) w
            have HS : Hid (∀ w, Calls Try.prog 10 #[.int .i64 A, .int .i64 B] w fun e w' => e = .returned (.tuple #[.int .i64 0, .int .i64 1]) ∧ Ext w w') := fun w => sub_is (subR_form hab) w
            clear hab
            go_wp2_with fail
            go_quiet (fail)
            go_wp2_with fail
            refine (HA.out _).mono ?_
            rintro e w1 ⟨rfl, x1⟩
            go_wp2_with fail
            refine (HS.out _).mono ?_
            rintro e w2 ⟨rfl, x2⟩
            go_wp2_with (first | (go_at_call 11; refine (may_any _ _).mono ?_; rintro e wx ⟨rfl, hwx⟩; have hwy := hwx.symm; clear hwx; subst hwy) | (go_at_call 12; refine (num_any _ _).mono ?_; rintro e wx ⟨rfl, hwx⟩; have hwy := hwx.symm; clear hwx; subst hwy))
            go_roundw
            case rel => exact ⟨k + 1, by omega, by go_num, ((hx.drewN _).trans x1).trans x2⟩
            case measure => simp [intOf]; omega
          · have g1 := okW_bounds ha
            have g2 := okW_bounds hb
            cases hs : okW (A + B)
            · cases hd : okW (A - B)
              · have HA : Hid (∀ w, Calls Try.prog 9 #[.int .i64 A, .int .i64 B] w fun e w' => e = .returned (.tuple #[.int .i64 0, .int .i64 2]) ∧ Ext w w') := fun w => add_is (addR_no ha hb hs) w
                have HS : Hid (∀ w, Calls Try.prog 10 #[.int .i64 A, .int .i64 B] w fun e w' => e = .returned (.tuple #[.int .i64 0, .int .i64 2]) ∧ Ext w w') := fun w => sub_is (subR_no ha hb hd) w
                go_wp2_with fail
                go_quiet (fail)
                go_wp2_with fail
                refine (HA.out _).mono ?_
                rintro e w1 ⟨rfl, x1⟩
                go_wp2_with fail
                refine (HS.out _).mono ?_
                rintro e w2 ⟨rfl, x2⟩
                go_wp2_with (first | (go_at_call 11; refine (may_any _ _).mono ?_; rintro e wx ⟨rfl, hwx⟩; have hwy := hwx.symm; clear hwx; subst hwy) | (go_at_call 12; refine (num_any _ _).mono ?_; rintro e wx ⟨rfl, hwx⟩; have hwy := hwx.symm; clear hwx; subst hwy))
                go_roundw
                case rel => exact ⟨k + 1, by omega, by go_num, ((hx.drewN _).trans x1).trans x2⟩
                case measure => simp [intOf]; omega
              · have HA : Hid (∀ w, Calls Try.prog 9 #[.int .i64 A, .int .i64 B] w fun e w' => e = .returned (.tuple #[.int .i64 0, .int .i64 2]) ∧ Ext w w') := fun w => add_is (addR_no ha hb hs) w
                have HS : Hid (∀ w, Calls Try.prog 10 #[.int .i64 A, .int .i64 B] w fun e w' => e = .returned (.tuple #[.int .i64 (A - B), .int .i64 0]) ∧ Ext w w') := fun w => sub_is (subR_yes ha hb hd) w
                go_wp2_with fail
                go_quiet (fail)
                go_wp2_with fail
                refine (HA.out _).mono ?_
                rintro e w1 ⟨rfl, x1⟩
                go_wp2_with fail
                refine (HS.out _).mono ?_
                rintro e w2 ⟨rfl, x2⟩
                go_wp2_with (first | (go_at_call 11; refine (may_any _ _).mono ?_; rintro e wx ⟨rfl, hwx⟩; have hwy := hwx.symm; clear hwx; subst hwy) | (go_at_call 12; refine (num_any _ _).mono ?_; rintro e wx ⟨rfl, hwx⟩; have hwy := hwx.symm; clear hwx; subst hwy))
                go_roundw
                case rel => exact ⟨k + 1, by omega, by go_num, ((hx.drewN _).trans x1).trans x2⟩
                case measure => simp [intOf]; omega
            · cases hd : okW (A - B)
              · have HA : Hid (∀ w, Calls Try.prog 9 #[.int .i64 A, .int .i64 B] w fun e w' => e = .returned (.tuple #[.int .i64 (A + B), .int .i64 0]) ∧ Ext w w') := fun w => add_is (addR_yes ha hb hs) w
                have HS : Hid (∀ w, Calls Try.prog 10 #[.int .i64 A, .int .i64 B] w fun e w' => e = .returned (.tuple #[.int .i64 0, .int .i64 2]) ∧ Ext w w') := fun w => sub_is (subR_no ha hb hd) w
                go_wp2_with fail
                go_quiet (fail)
                go_wp2_with fail
                refine (HA.out _).mono ?_
                rintro e w1 ⟨rfl, x1⟩
                go_wp2_with fail
                refine (HS.out _).mono ?_
                rintro e w2 ⟨rfl, x2⟩
                go_wp2_with (first | (go_at_call 11; refine (may_any _ _).mono ?_; rintro e wx ⟨rfl, hwx⟩; have hwy := hwx.symm; clear hwx; subst hwy) | (go_at_call 12; refine (num_any _ _).mono ?_; rintro e wx ⟨rfl, hwx⟩; have hwy := hwx.symm; clear hwx; subst hwy))
                go_roundw
                case rel => exact ⟨k + 1, by omega, by go_num, ((hx.drewN _).trans x1).trans x2⟩
                case measure => simp [intOf]; omega
              · have HA : Hid (∀ w, Calls Try.prog 9 #[.int .i64 A, .int .i64 B] w fun e w' => e = .returned (.tuple #[.int .i64 (A + B), .int .i64 0]) ∧ Ext w w') := fun w => add_is (addR_yes ha hb hs) w
                have HS : Hid (∀ w, Calls Try.prog 10 #[.int .i64 A, .int .i64 B] w fun e w' => e = .returned (.tuple #[.int .i64 (A - B), .int .i64 0]) ∧ Ext w w') := fun w => sub_is (subR_yes ha hb hd) w
                go_wp2_with fail
                go_quiet (fail)
                go_wp2_with fail
                refine (HA.out _).mono ?_
                rintro e w1 ⟨rfl, x1⟩
                go_wp2_with fail
                refine (HS.out _).mono ?_
                rintro e w2 ⟨rfl, x2⟩
                go_wp2_with (first | (go_at_call 11; refine (may_any _ _).mono ?_; rintro e wx ⟨rfl, hwx⟩; have hwy := hwx.symm; clear hwx; subst hwy) | (go_at_call 12; refine (num_any _ _).mono ?_; rintro e wx ⟨rfl, hwx⟩; have hwy := hwx.symm; clear hwx; subst hwy))
                go_roundw
                case rel => exact ⟨k + 1, by omega, by go_num, ((hx.drewN _).trans x1).trans x2⟩
                case measure => simp [intOf]; omega
      · go_wp2_with fail
        refine (wakes_any _).mono ?_
        rintro e w1 ⟨rfl, x1⟩
        go_wp2_with fail
        go_ret
        exact ⟨rfl, hx.trans x1⟩
    · go_wp2_with fail
      refine (wakes_any _).mono ?_
      rintro e w1 ⟨rfl, x1⟩
      go_wp2_with fail
      go_ret
      exact ⟨rfl, hx.trans x1⟩

set_option maxHeartbeats 1000000 in
set_option maxRecDepth 20000 in
theorem adds_none (a : Option Addr) (cap : Nat) (w : World) :
    Calls Try.prog 3 #[.slice a 0 cap] w fun e w' => e = .returned (.bool true) ∧ Ext w w' := by
  go_enter Try.func3, Try.ntmps3
  go_wp2_with fail
  refine wp_loop_rounds 1 ?_
  rw [rounds_succ]
  go_wp2_with fail
  refine (wakes_any _).mono ?_
  rintro e w1 ⟨rfl, x1⟩
  go_wp2_with fail
  go_ret
  exact ⟨rfl, x1⟩
end Go.Proofs.Ytpokfpcaaacbnaa
