/- FxSqrts: the root of any word, rounded down, is the greatest whole number whose square is not above it. -/
import Derived.Test.YtpokfpcaaacbnaaMay
import Derived.Test.YtpokfpcaaacbnaaRoot
namespace Go.Proofs.Ytpokfpcaaacbnaa
open Go.RowKit

theorem sq_facts (a v : Int) (hv : 0 ≤ v) (h1 : v * v ≤ a) (h2 : a < (v + 1) * (v + 1)) (ha : a < 35184372088832) :
    ∃ p q : Int, wrap64 (v * v) = p ∧ wrap64 ((v + 1) * (v + 1)) = q ∧ p ≤ a ∧ a < q ∧ v ≤ 8388607 := by
  have hb : v ≤ 8388607 := by
    apply Int.not_lt.1
    intro hlt
    have : 8388608 * 8388608 ≤ v * v := Int.mul_le_mul (by omega) (by omega) (by omega) (by omega)
    omega
  have hq : (v + 1) * (v + 1) ≤ 8388608 * 8388608 := Int.mul_le_mul (by omega) (by omega) (by omega) (by omega)
  have hq0 : 0 ≤ (v + 1) * (v + 1) := Int.mul_nonneg (by omega) (by omega)
  have hp0 : 0 ≤ v * v := Int.mul_nonneg hv hv
  refine ⟨v * v, (v + 1) * (v + 1), ?_, ?_, h1, h2, hb⟩
  · unfold wrap64; omega
  · unfold wrap64; omega

set_option maxHeartbeats 4000000 in
set_option maxRecDepth 20000 in
theorem sqrts_any (b off len cap : Nat) (Z : Nat → Nat → Int) (w : World) (hl : len ≤ maxLen) (hc : Twos w b off len Z) :
    Calls Try.prog 7 #[.slice (some ⟨b, off, none⟩) len cap] w fun e w' => e = .returned (.bool true) ∧ Ext w w' := by
  have hl' : len ≤ 9223372036854775807 := by unfold maxLen at hl; omega
  clear hl
  go_enter Try.func7, Try.ntmps7
  go_wp2_with fail
  go_loopw [3] (fun i wr => ∃ k : Nat, k ≤ len ∧ i = .int .i64 k ∧ Ext w wr) (fun i _ => len - (intOf i).toNat)
  case atStart => exact ⟨0, Nat.zero_le _, rfl, Ext.refl _⟩
  case round =>
    obtain ⟨k, hk, rfl, hx⟩ := hrel
    by_cases hlt : k < len
    · by_cases h30 : k < 30
      · obtain ⟨A, B, N, D, Lo, Hi, z0, z1, z2, z3, z4, z5, ⟨ba, ba'⟩, ⟨bb, bb'⟩, ⟨bn, bn'⟩, ⟨bd, bd'⟩, ⟨bl, bl'⟩, ⟨bh, bh'⟩⟩ := (hc.ext hx).row hlt
        have hlt' : (k : Int) < (len : Int) := by omega
        cases ha : okW A
        · have hab : (okW A && decide (0 ≤ A)) = false := by rw [ha]; rfl
          have HS := sqrt_no A
          have HN : Hid (∀ w, Calls Try.prog 21 #[.int .i64 A] w fun e w' => e = .returned (.tuple #[.int .i64 0, .int .i64 1]) ∧ Ext w w') := fun w => HS w hab
          clear HS hab
          go_wp2_with fail
          refine (HN.out _).mono ?_
          rintro e w1 ⟨rfl, x1⟩
          go_wp2_with (first | (go_at_call 11; refine (may_any _ _).mono ?_; rintro e wx ⟨rfl, hwx⟩; have hwy := hwx.symm; clear hwx; subst hwy) | (go_at_call 12; refine (num_any _ _).mono ?_; rintro e wx ⟨rfl, hwx⟩; have hwy := hwx.symm; clear hwx; subst hwy))
          go_roundw
          case rel => exact ⟨k + 1, by omega, by go_num, hx.trans x1⟩
          case measure => simp [intOf]; omega
        · by_cases h0 : 0 ≤ A
          · have HS := sqrt_yes A
            have HY : Hid (∀ w, Calls Try.prog 21 #[.int .i64 A] w fun e w' => (∃ R : Nat, e = .returned (.tuple #[.int .i64 (R : Int), .int .i64 0]) ∧ ((R * R : Nat) : Int) ≤ A ∧ A < (((R + 1) * (R + 1) : Nat) : Int) ∧ (R : Int) < 274877906944) ∧ Ext w w') := fun w => HS w ha h0
            have hbd := okW_bounds ha
            clear HS
            go_wp2_with fail
            refine (HY.out _).mono ?_
            rintro e w1 ⟨⟨R, rfl, r1, r2, r3⟩, x1⟩
            obtain ⟨v, hv⟩ : ∃ v : Int, (R : Int) = v := ⟨_, rfl⟩
            have v0 : 0 ≤ v := by rw [← hv]; exact Int.natCast_nonneg _
            obtain ⟨p, q, e1, e2, e3, e4, e5⟩ := sq_facts A v v0 (by rw [← hv]; simpa using r1) (by rw [← hv]; simpa using r2) hbd.2
            rw [hv]
            clear hv r1 r2 r3
            go_wp2_with (first | (go_at_call 11; refine (may_any _ _).mono ?_; rintro e wx ⟨rfl, hwx⟩; have hwy := hwx.symm; clear hwx; subst hwy) | (go_at_call 12; refine (num_any _ _).mono ?_; rintro e wx ⟨rfl, hwx⟩; have hwy := hwx.symm; clear hwx; subst hwy))
            go_roundw
            case rel => exact ⟨k + 1, by omega, by go_num, hx.trans x1⟩
            case measure => simp [intOf]; omega
          · have hab : (okW A && decide (0 ≤ A)) = false := by rw [ha]; simpa using h0
            have HS := sqrt_no A
            have HN : Hid (∀ w, Calls Try.prog 21 #[.int .i64 A] w fun e w' => e = .returned (.tuple #[.int .i64 0, .int .i64 1]) ∧ Ext w w') := fun w => HS w hab
            clear HS hab
            go_wp2_with fail
            refine (HN.out _).mono ?_
            rintro e w1 ⟨rfl, x1⟩
            go_wp2_with (first | (go_at_call 11; refine (may_any _ _).mono ?_; rintro e wx ⟨rfl, hwx⟩; have hwy := hwx.symm; clear hwx; subst hwy) | (go_at_call 12; refine (num_any _ _).mono ?_; rintro e wx ⟨rfl, hwx⟩; have hwy := hwx.symm; clear hwx; subst hwy))
            go_roundw
            case rel => exact ⟨k + 1, by omega, by go_num, hx.trans x1⟩
            case measure => simp [intOf]; omega
      · go_wp2_with fail
        refine (wakes_any _).mono ?_
        rintro e w1 ⟨rfl, x1⟩
        go_wp2_with fail
        go_ret
        exact ⟨rfl, hx.trans x1⟩
    · go_wp2_with fail
      refine (wakes_any _).mono ?_
      rintro e w1 ⟨rfl, x1⟩
      go_wp2_with fail
      go_ret
      exact ⟨rfl, hx.trans x1⟩

set_option maxHeartbeats 1000000 in
set_option maxRecDepth 20000 in
theorem sqrts_none (a : Option Addr) (cap : Nat) (w : World) :
    Calls Try.prog 7 #[.slice a 0 cap] w fun e w' => e = .returned (.bool true) ∧ Ext w w' := by
  go_enter Try.func7, Try.ntmps7
  go_wp2_with fail
  refine wp_loop_rounds 1 ?_
  rw [rounds_succ]
  go_wp2_with fail
  refine (wakes_any _).mono ?_
  rintro e w1 ⟨rfl, x1⟩
  go_wp2_with fail
  go_ret
  exact ⟨rfl, x1⟩
end Go.Proofs.Ytpokfpcaaacbnaa
