/- FxDivs. -/
import Derived.Test.YtfcmacbhadpldaaBoth
namespace Go.Proofs.Ytfcmacbhadpldaa
open Go.RowKit

set_option maxHeartbeats 4000000 in
set_option maxRecDepth 20000 in
theorem divs_any (b off len cap : Nat) (Z : Nat → Nat → Int) (w : World) (hl : len ≤ maxLen) (hc : Twos w b off len Z) :
    Calls Try.prog 4 #[.slice (some ⟨b, off, none⟩) len cap] w fun e w' => e = .returned (.bool true) ∧ Ext w w' := by
  have hl' : len ≤ 9223372036854775807 := by unfold maxLen at hl; omega
  clear hl
  go_enter Try.func4, Try.ntmps4
  go_wp2_with fail
  go_loopw [3] (fun i wr => ∃ k : Nat, k ≤ len ∧ i = .int .i64 k ∧ Ext w wr) (fun i _ => len - (intOf i).toNat)
  case atStart => exact ⟨0, Nat.zero_le _, rfl, Ext.refl _⟩
  case round =>
    obtain ⟨k, hk, rfl, hx⟩ := hrel
    by_cases hlt : k < len
    · by_cases h30 : k < 30
      · obtain ⟨A, B, N, D, Lo, Hi, z0, z1, z2, z3, z4, z5, ⟨ba, ba'⟩, ⟨bb, bb'⟩, ⟨bn, bn'⟩, ⟨bd, bd'⟩, ⟨bl, bl'⟩, ⟨bh, bh'⟩⟩ := (hc.ext hx).row hlt
        have hlt' : (k : Int) < (len : Int) := by omega
        cases ha : okW A
        · have hab : (okW A && okW B) = false := by rw [ha]; rfl
          have HM : Hid (∀ w, Calls Try.prog 14 #[.int .i64 A, .int .i64 B] w fun e w' => e = .returned (.tuple #[.int .i64 0, .int .i64 1]) ∧ Ext w w') := (no_word hab).2.1
          clear hab
          go_wp2_with fail
          go_quiet (fail)
          go_wp2_with fail
          refine (HM.out _).mono ?_
          rintro e w1 ⟨rfl, x1⟩
          go_wp2_with (first | (go_at_call 10; refine (may_any _ _).mono ?_; rintro e wx ⟨rfl, hwx⟩; have hwy := hwx.symm; clear hwx; subst hwy) | (go_at_call 12; refine (is_same _ _ _).mono ?_; rintro e wx ⟨rfl, hwx⟩; have hwy := hwx.symm; clear hwx; subst hwy))
          go_roundw
          case rel => exact ⟨k + 1, by omega, by go_num, (hx.drewN _).trans x1⟩
          case measure => simp [intOf]; omega
        · cases hb : okW B
          · have hab : (okW A && okW B) = false := by rw [hb]; simp
            have HM : Hid (∀ w, Calls Try.prog 14 #[.int .i64 A, .int .i64 B] w fun e w' => e = .returned (.tuple #[.int .i64 0, .int .i64 1]) ∧ Ext w w') := (no_word hab).2.1
            clear hab
            go_wp2_with fail
            go_quiet (fail)
            go_wp2_with fail
            refine (HM.out _).mono ?_
            rintro e w1 ⟨rfl, x1⟩
            go_wp2_with (first | (go_at_call 10; refine (may_any _ _).mono ?_; rintro e wx ⟨rfl, hwx⟩; have hwy := hwx.symm; clear hwx; subst hwy) | (go_at_call 12; refine (is_same _ _ _).mono ?_; rintro e wx ⟨rfl, hwx⟩; have hwy := hwx.symm; clear hwx; subst hwy))
            go_roundw
            case rel => exact ⟨k + 1, by omega, by go_num, (hx.drewN _).trans x1⟩
            case measure => simp [intOf]; omega
          · obtain ⟨X, E, hM, hR⟩ := div_both A B ha hb
            have HM : Hid _ := hM
            have HR : Hid _ := hR
            clear hM hR
            go_wp2_with fail
            go_quiet (fail)
            go_wp2_with fail
            refine (HM.out _).mono ?_
            rintro e w1 ⟨rfl, x1⟩
            go_wp2_with (go_at_call 10; refine (may_any _ _).mono ?_; rintro e wx ⟨rfl, hwx⟩; have hwy := hwx.symm; clear hwx; subst hwy)
            refine (HR.out _).mono ?_
            rintro e w2 ⟨rfl, x2⟩
            go_wp2_with (go_at_call 12; refine (is_same _ _ _).mono ?_; rintro e wx ⟨rfl, hwx⟩; have hwy := hwx.symm; clear hwx; subst hwy)
            go_roundw
            case rel => exact ⟨k + 1, by omega, by go_num, ((hx.drewN _).trans x1).trans x2⟩
            case measure => simp [intOf]; omega
      · go_wp2_with fail
        refine (wakes_any _).mono ?_
        rintro e w1 ⟨rfl, x1⟩
        go_wp2_with fail
        go_ret
        exact ⟨rfl, hx.trans x1⟩
    · go_wp2_with fail
      refine (wakes_any _).mono ?_
      rintro e w1 ⟨rfl, x1⟩
      go_wp2_with fail
      go_ret
      exact ⟨rfl, hx.trans x1⟩

set_option maxHeartbeats 1000000 in
set_option maxRecDepth 20000 in
theorem divs_none (a : Option Addr) (cap : Nat) (w : World) :
    Calls Try.prog 4 #[.slice a 0 cap] w fun e w' => e = .returned (.bool true) ∧ Ext w w' := by
  go_enter Try.func4, Try.ntmps4
  go_wp2_with fail
  refine wp_loop_rounds 1 ?_
  rw [rounds_succ]
  go_wp2_with fail
  refine (wakes_any _).mono ?_
  rintro e w1 ⟨rfl, x1⟩
  go_wp2_with fail
  go_ret
  exact ⟨rfl, x1⟩
end Go.Proofs.Ytfcmacbhadpldaa
