/- Plain numbers for FxLaws. -/
import Derived.Test.YtfcmacbhadpldaaOrderNum
import Derived.Test.YtfcmacbhadpldaaInt3
import Derived.Test.YtfcmacbhadpldaaRoot2
namespace Go.Proofs.Ytfcmacbhadpldaa
open Go.RowKit

theorem near_exact (n d : Nat) (hd : 0 < d) : Num.near (n * d) d = n := by
  unfold Num.near
  rw [Nat.mul_mod_left, Nat.mul_div_cancel _ hd, if_neg (by omega), if_neg (by omega)]
theorem share_one (a : Int) (h : okW a = true) : shareR a 1073741824 1073741824 = (a, 0) := by
  have hb := okW_bounds h
  have e1 : mag a 1073741824 1073741824 = a.natAbs := by
    unfold mag nearW
    rw [show (1073741824 : Int).natAbs = 1073741824 from rfl, Nat.mul_div_cancel _ (by omega), if_neg (by omega), near_exact _ _ (by omega)]
  have e2 : okW (a.natAbs : Int) = true := by unfold okW; simp only [Bool.and_eq_true, decide_eq_true_eq]; omega
  have e3 : neg3 a 1073741824 1073741824 = decide (a < 0) := by
    unfold neg3
    rw [show decide ((1073741824 : Int) < 0) = false from rfl]
    cases decide (a < 0) <;> rfl
  unfold shareR
  rw [e1, e2, e3]
  unfold signed
  by_cases hn : a < 0
  · simp [hn]; omega
  · simp [hn]; omega
theorem mul_one (a : Int) (h : okW a = true) : mulR a 1073741824 = (a, 0) := by
  unfold mulR
  rw [if_pos (by rw [h]; rfl)]
  exact share_one a h
theorem div_one (a : Int) (h : okW a = true) : divR a 1073741824 = (a, 0) := by
  unfold divR
  rw [if_pos (by rw [h]; rfl)]
  exact share_one a h
theorem mul_comm2 (a b : Int) : mulR a b = mulR b a := by
  unfold mulR prodV shareR
  have e1 : mag a b 1073741824 = mag b a 1073741824 := by unfold mag; rw [Nat.mul_comm]
  have e2 : neg3 a b 1073741824 = neg3 b a 1073741824 := by unfold neg3; cases decide (a < 0) <;> cases decide (b < 0) <;> rfl
  rw [Bool.and_comm (okW a), e1, e2]
theorem addR_yes {a b : Int} (h1 : okW a = true) (h2 : okW b = true) (h : okW (a + b) = true) : addR a b = (a + b, 0) := by unfold addR; rw [if_pos (by rw [h1, h2]; rfl)]; unfold sumV fitR; rw [if_pos h]
theorem addR_no {a b : Int} (h1 : okW a = true) (h2 : okW b = true) (h : okW (a + b) = false) : addR a b = (0, 2) := by unfold addR; rw [if_pos (by rw [h1, h2]; rfl)]; unfold sumV fitR; rw [h]; rfl
theorem subR_back {a b : Int} (h1 : okW a = true) (h2 : okW b = true) (h : okW (a + b) = true) : subR (a + b) b = (a, 0) := by
  unfold subR
  rw [if_pos (by rw [h, h2]; rfl)]
  unfold diffV fitR
  rw [Int.add_sub_cancel, if_pos h1]
theorem mul_is {a b x e : Int} (h : mulR a b = (x, e)) (w : World) : Calls Try.prog 9 #[.int .i64 a, .int .i64 b] w fun e' w' => e' = .returned (.tuple #[.int .i64 x, .int .i64 e]) ∧ Ext w w' := by
  have k := mul_any a b w
  rw [h] at k
  exact k
theorem div_is {a b x e : Int} (h : divR a b = (x, e)) (w : World) : Calls Try.prog 14 #[.int .i64 a, .int .i64 b] w fun e' w' => e' = .returned (.tuple #[.int .i64 x, .int .i64 e]) ∧ Ext w w' := by
  have k := div_any a b w
  rw [h] at k
  exact k
theorem add_is {a b x e : Int} (h : addR a b = (x, e)) (w : World) : Calls Try.prog 20 #[.int .i64 a, .int .i64 b] w fun e' w' => e' = .returned (.tuple #[.int .i64 x, .int .i64 e]) ∧ Ext w w' := by
  have k := add_any a b w
  rw [h] at k
  exact k
theorem sub_is {a b x e : Int} (h : subR a b = (x, e)) (w : World) : Calls Try.prog 23 #[.int .i64 a, .int .i64 b] w fun e' w' => e' = .returned (.tuple #[.int .i64 x, .int .i64 e]) ∧ Ext w w' := by
  have k := sub_any a b w
  rw [h] at k
  exact k
theorem small_192 (n : Nat) (h : n < 340282366920938463463374607431768211456) : Small n := by
  have e1 : (18446744073709551616 : Nat) ^ 2 = 340282366920938463463374607431768211456 := by decide
  have e2 : (4294967296 : Nat) ^ 4 = 340282366920938463463374607431768211456 := by decide
  refine ⟨?_, ?_⟩
  · have := Dig.digs_length_le 18446744073709551616 (by omega) n 2 (by omega); omega
  · have := Dig.digs_length_le 4294967296 (by omega) n 4 (by omega); omega
theorem smallI_of (z : Int) (h1 : -340282366920938463463374607431768211456 < z) (h2 : z < 340282366920938463463374607431768211456) : SmallI z := small_192 _ (by omega)
theorem sgn_nonpos {z : Int} (h : z ≤ 0) : sgn z ≤ 0 := by unfold sgn; split; omega; split <;> omega
theorem sgn_pos {z : Int} (h : 0 < z) : 0 < sgn z := by unfold sgn; rw [if_neg (by omega), if_neg (by omega)]; omega
theorem sgn_nonneg {z : Int} (h : 0 ≤ z) : 0 ≤ sgn z := by unfold sgn; rw [if_neg (by omega)]; split <;> omega
theorem sq_bound (x b : Int) (h0 : 0 ≤ x) (h1 : x ≤ b) : 0 ≤ x * x ∧ x * x ≤ b * b := ⟨Int.mul_nonneg h0 h0, Int.mul_le_mul h1 h1 h0 (by omega)⟩
theorem near_int (n X : Nat) (h : NearRoot (n * 1073741824) X) : (n : Int) * 2 ^ 32 < (2 * (X : Int) + 1) * (2 * (X : Int) + 1) ∧ (0 < (X : Int) → (2 * (X : Int) - 1) * (2 * (X : Int) - 1) < (n : Int) * 2 ^ 32) := by
  obtain ⟨h1, h2⟩ := h
  have e0 : ((n : Int) * 2 ^ 32) = ((4 * (n * 1073741824) : Nat) : Int) := by
    have : (2 : Int) ^ 32 = 4294967296 := by decide
    rw [this]; omega
  have e1 : (2 * (X : Int) + 1) * (2 * (X : Int) + 1) = (((2 * X + 1) * (2 * X + 1) : Nat) : Int) := by rw [Int.natCast_mul]; rfl
  rw [e0, e1]
  refine ⟨by omega, fun hX => ?_⟩
  rcases h2 with h2 | h2
  · omega
  · have e2 : (2 * (X : Int) - 1) = ((2 * X - 1 : Nat) : Int) := by omega
    rw [e2, ← Int.natCast_mul]
    omega
end Go.Proofs.Ytfcmacbhadpldaa
