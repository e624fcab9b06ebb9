/- FxRatios. -/
import Derived.Test.YtfcmacbhadpldaaBoth
namespace Go.Proofs.Ytfcmacbhadpldaa
open Go.RowKit

theorem cell_drewN {w w' : World} {n : Nat} (h : Ext (w.drewN n) w') : Ext w w' := ((Ext.refl w).drewN n).trans h

set_option maxHeartbeats 4000000 in
set_option maxRecDepth 20000 in
theorem ratios_any (b off len cap : Nat) (Z : Nat → Nat → Int) (w : World) (hl : len ≤ maxLen) (hc : Twos w b off len Z) :
    Calls Try.prog 5 #[.slice (some ⟨b, off, none⟩) len cap] w fun e w' => e = .returned (.bool true) ∧ Ext w w' := by
  have hl' : len ≤ 9223372036854775807 := by unfold maxLen at hl; omega
  clear hl
  go_enter Try.func5, Try.ntmps5
  go_wp2_with fail
  go_loopw [3] (fun i wr => ∃ k : Nat, k ≤ len ∧ i = .int .i64 k ∧ Ext w wr) (fun i _ => len - (intOf i).toNat)
  case atStart => exact ⟨0, Nat.zero_le _, rfl, Ext.refl _⟩
  case round =>
    obtain ⟨k, hk, rfl, hx⟩ := hrel
    by_cases hlt : k < len
    · by_cases h30 : k < 30
      · obtain ⟨A, B, N, D, Lo, Hi, z0, z1, z2, z3, z4, z5, ⟨ba, ba'⟩, ⟨bb, bb'⟩, ⟨bn, bn'⟩, ⟨bd, bd'⟩, ⟨bl, bl'⟩, ⟨bh, bh'⟩⟩ := (hc.ext hx).row hlt
        have hlt' : (k : Int) < (len : Int) := by omega
        obtain ⟨X, E, hM, hR⟩ := ratio_both N D bn bn' bd bd'
        have HM : Hid _ := hM
        have HR : Hid _ := hR
        clear hM hR
        go_wp2_with fail
        go_region_held (fun w' => w'.cell? ⟨b, off + k * 6 + 2, none⟩ = some (.int .i64 N) ∧ w'.cell? ⟨b, off + k * 6 + 3, none⟩ = some (.int .i64 D)) (go_keep) (first | (go_at_call 16; refine (HM.out _).mono ?_; rintro e w1 ⟨rfl, x1⟩; have y2 := (cell_drew x1).kept z2; have y3 := (cell_drew x1).kept z3))
        all_goals
          have X1 : Hid (Ext wr w1) := cell_drew x1
          clear x1 HM z2 z3
          go_wp2_with fail
          go_region_held (fun w' => w'.cell? ⟨b, off + k * 6 + 2, none⟩ = some (.int .i64 N) ∧ w'.cell? ⟨b, off + k * 6 + 3, none⟩ = some (.int .i64 D)) (go_keep) (first | (go_at_call 17; refine (HR.out _).mono ?_; rintro e w2 ⟨rfl, x2⟩; have v2 := (cell_drew x2).kept y2; have v3 := (cell_drew x2).kept y3))
          all_goals
            have X2 : Hid (Ext w w2) := (hx.trans X1.out).trans (cell_drew x2)
            clear x2 HR y2 y3
            go_wp2_with (go_at_call 12; refine (is_same _ _ _).mono ?_; rintro e wx ⟨rfl, hwx⟩; have hwy := hwx.symm; clear hwx; subst hwy)
            go_roundw
            case rel => exact ⟨k + 1, by omega, by go_num, X2.out⟩
            case measure => simp [intOf]; omega
      · go_wp2_with fail
        refine (wakes_any _).mono ?_
        rintro e w1 ⟨rfl, x1⟩
        go_wp2_with fail
        go_ret
        exact ⟨rfl, hx.trans x1⟩
    · go_wp2_with fail
      refine (wakes_any _).mono ?_
      rintro e w1 ⟨rfl, x1⟩
      go_wp2_with fail
      go_ret
      exact ⟨rfl, hx.trans x1⟩

set_option maxHeartbeats 1000000 in
set_option maxRecDepth 20000 in
theorem ratios_none (a : Option Addr) (cap : Nat) (w : World) :
    Calls Try.prog 5 #[.slice a 0 cap] w fun e w' => e = .returned (.bool true) ∧ Ext w w' := by
  go_enter Try.func5, Try.ntmps5
  go_wp2_with fail
  refine wp_loop_rounds 1 ?_
  rw [rounds_succ]
  go_wp2_with fail
  refine (wakes_any _).mono ?_
  rintro e w1 ⟨rfl, x1⟩
  go_wp2_with fail
  go_ret
  exact ⟨rfl, x1⟩
end Go.Proofs.Ytfcmacbhadpldaa
