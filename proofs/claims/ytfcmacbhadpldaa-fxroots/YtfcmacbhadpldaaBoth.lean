/- What fx and its reference have in common. -/
import Derived.Test.YtfcmacbhadpldaaRef1
import Derived.Test.YtfcmacbhadpldaaTwos
namespace Go.Proofs.Ytfcmacbhadpldaa
open Go.RowKit

set_option maxHeartbeats 400000 in
theorem is_same (x e : Int) (w : World) :
    Calls Try.prog 12 #[.int .i64 x, .int .i64 e, .int .i64 x, .int .i64 e] w fun e w' => e = .returned (.bool true) ∧ w' = w := by
  go_enter Try.func12, Try.ntmps12
  go_wp2_with fail
  refine (num_any _ _).mono ?_
  rintro e wx ⟨rfl, hwx⟩
  have hwy := hwx.symm
  clear hwx
  subst hwy
  go_wp2_with fail
  go_ret
  exact ⟨rfl, rfl⟩

theorem wordR_share (a b d z : Int) (hd : d ≠ 0) (hz : IsNear (over (a * b) d) (d.natAbs : Int) z) : shareR a b d = wordR z := share_word a b d z hd hz
theorem word_range {a : Int} (h : okW a = true) : -9223372036854775808 ≤ a ∧ a ≤ 9223372036854775807 := by
  have := okW_bounds h
  omega
/-- products: fx and its reference tell the same -/
theorem mul_both (a b : Int) (h1 : okW a = true) (h2 : okW b = true) : ∃ X E : Int,
    (∀ w, Calls Try.prog 9 #[.int .i64 a, .int .i64 b] w fun e w' => e = .returned (.tuple #[.int .i64 X, .int .i64 E]) ∧ Ext w w') ∧
    (∀ w, Calls Try.prog 11 #[.int .i64 a, .int .i64 b] w fun e w' => e = .returned (.tuple #[.int .i64 X, .int .i64 E]) ∧ Ext w w') := by
  have g1 := word_range h1
  have g2 := word_range h2
  have hz := nearI_spec (a * b) 1073741824 (by omega)
  have hz' : IsNear (over (a * b) 1073741824) ((1073741824 : Int).natAbs : Int) (nearI (a * b) 1073741824) := by rw [over_pos _ _ (by omega)]; exact hz
  have e : mulR a b = wordR (nearI (a * b) 1073741824) := by
    unfold mulR prodV
    rw [if_pos (by rw [h1, h2]; rfl)]
    exact wordR_share a b 1073741824 _ (by omega) hz'
  refine ⟨_, _, fun w => ?_, fun w => refmul_any a b _ w g1.1 g1.2 g2.1 g2.2 hz⟩
  have h := mul_any a b w
  rw [e] at h
  exact h
theorem div_both (a b : Int) (h1 : okW a = true) (h2 : okW b = true) : ∃ X E : Int,
    (∀ w, Calls Try.prog 14 #[.int .i64 a, .int .i64 b] w fun e w' => e = .returned (.tuple #[.int .i64 X, .int .i64 E]) ∧ Ext w w') ∧
    (∀ w, Calls Try.prog 15 #[.int .i64 a, .int .i64 b] w fun e w' => e = .returned (.tuple #[.int .i64 X, .int .i64 E]) ∧ Ext w w') := by
  have g1 := word_range h1
  have g2 := word_range h2
  have e1 : divR a b = shareR a 1073741824 b := by
    unfold divR quoV
    rw [if_pos (by rw [h1, h2]; rfl)]
  by_cases hb : b = 0
  · subst hb
    refine ⟨0, 3, fun w => ?_, fun w => refdiv_zero a w⟩
    have h := div_any a 0 w
    rw [e1] at h
    exact h
  · have hz := nearI_spec (over (a * 2 ^ 30) b) (b.natAbs : Int) (by omega)
    have e : shareR a 1073741824 b = wordR (nearI (over (a * 2 ^ 30) b) (b.natAbs : Int)) := wordR_share a 1073741824 b _ hb hz
    refine ⟨_, _, fun w => ?_, fun w => refdiv_any a b _ w g1.1 g1.2 g2.1 g2.2 hb hz⟩
    have h := div_any a b w
    rw [e1, e] at h
    exact h
theorem ratio_both (a b : Int) (h1 : -9223372036854775808 ≤ a) (h2 : a ≤ 9223372036854775807) (k1 : -9223372036854775808 ≤ b) (k2 : b ≤ 9223372036854775807) : ∃ X E : Int,
    (∀ w, Calls Try.prog 16 #[.int .i64 a, .int .i64 b] w fun e w' => e = .returned (.tuple #[.int .i64 X, .int .i64 E]) ∧ Ext w w') ∧
    (∀ w, Calls Try.prog 17 #[.int .i64 a, .int .i64 b] w fun e w' => e = .returned (.tuple #[.int .i64 X, .int .i64 E]) ∧ Ext w w') := by
  by_cases hb : b = 0
  · subst hb
    exact ⟨0, 3, fun w => ratio_any a 0 w h1 h2 k1 k2, fun w => refratio_zero a w⟩
  · have hz := nearI_spec (over a b) (b.natAbs : Int) (by omega)
    have e : shareR a 1 b = wordR (nearI (over a b) (b.natAbs : Int)) := wordR_share a 1 b _ hb (by rw [Int.mul_one]; exact hz)
    refine ⟨_, _, fun w => ?_, fun w => refratio_any a b _ w h1 h2 k1 k2 hb hz⟩
    have h := ratio_any a b w h1 h2 k1 k2
    rw [e] at h
    exact h
theorem add_both (a b : Int) (h1 : okW a = true) (h2 : okW b = true) : ∃ X E : Int,
    (∀ w, Calls Try.prog 20 #[.int .i64 a, .int .i64 b] w fun e w' => e = .returned (.tuple #[.int .i64 X, .int .i64 E]) ∧ Ext w w') ∧
    (∀ w, Calls Try.prog 18 #[.int .i64 a, .int .i64 b] w fun e w' => e = .returned (.tuple #[.int .i64 X, .int .i64 E]) ∧ Ext w w') := by
  have g1 := word_range h1
  have g2 := word_range h2
  have e : addR a b = wordR (a + b) := by
    unfold addR
    rw [if_pos (by rw [h1, h2]; rfl)]
    rfl
  refine ⟨_, _, fun w => ?_, fun w => refadd_any a b w g1.1 g1.2 g2.1 g2.2⟩
  have h := add_any a b w
  rw [e] at h
  exact h
theorem sub_both (a b : Int) (h1 : okW a = true) (h2 : okW b = true) : ∃ X E : Int,
    (∀ w, Calls Try.prog 23 #[.int .i64 a, .int .i64 b] w fun e w' => e = .returned (.tuple #[.int .i64 X, .int .i64 E]) ∧ Ext w w') ∧
    (∀ w, Calls Try.prog 19 #[.int .i64 a, .int .i64 b] w fun e w' => e = .returned (.tuple #[.int .i64 X, .int .i64 E]) ∧ Ext w w') := by
  have g1 := word_range h1
  have g2 := word_range h2
  have e : subR a b = wordR (a - b) := by
    unfold subR
    rw [if_pos (by rw [h1, h2]; rfl)]
    rfl
  refine ⟨_, _, fun w => ?_, fun w => refsub_any a b w g1.1 g1.2 g2.1 g2.2⟩
  have h := sub_any a b w
  rw [e] at h
  exact h
theorem no_word {a b : Int} (h : (okW a && okW b) = false) :
    (∀ w, Calls Try.prog 9 #[.int .i64 a, .int .i64 b] w fun e w' => e = .returned (.tuple #[.int .i64 0, .int .i64 1]) ∧ Ext w w') ∧
    (∀ w, Calls Try.prog 14 #[.int .i64 a, .int .i64 b] w fun e w' => e = .returned (.tuple #[.int .i64 0, .int .i64 1]) ∧ Ext w w') ∧
    (∀ w, Calls Try.prog 20 #[.int .i64 a, .int .i64 b] w fun e w' => e = .returned (.tuple #[.int .i64 0, .int .i64 1]) ∧ Ext w w') ∧
    (∀ w, Calls Try.prog 23 #[.int .i64 a, .int .i64 b] w fun e w' => e = .returned (.tuple #[.int .i64 0, .int .i64 1]) ∧ Ext w w') := by
  refine ⟨fun w => ?_, fun w => ?_, fun w => ?_, fun w => ?_⟩
  · have k := mul_any a b w
    have e : mulR a b = (0, 1) := by unfold mulR; rw [h]; rfl
    rw [e] at k; exact k
  · have k := div_any a b w
    have e : divR a b = (0, 1) := by unfold divR; rw [h]; rfl
    rw [e] at k; exact k
  · have k := add_any a b w
    have e : addR a b = (0, 1) := by unfold addR; rw [h]; rfl
    rw [e] at k; exact k
  · have k := sub_any a b w
    have e : subR a b = (0, 1) := by unfold subR; rw [h]; rfl
    rw [e] at k; exact k
end Go.Proofs.Ytfcmacbhadpldaa
