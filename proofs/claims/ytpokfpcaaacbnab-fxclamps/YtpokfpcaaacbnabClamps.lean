/- FxClamps: a clamped word lies within its bounds, is the word if that does, and clamped again it stays: for every list. -/
import Derived.Test.YtpokfpcaaacbnabFaces
import Derived.Test.YtpokfpcaaacbnabClamp
import Derived.Test.YtpokfpcaaacbnabTwos
namespace Go.Proofs.Ytpokfpcaaacbnab
open Go.RowKit

def clampR (v lo hi : Int) : Int × Int := if okW v && (okW lo && okW hi) && decide (lo ≤ hi) then (max lo (min v hi), 0) else (0, 1)
theorem clamp_any (v lo hi : Int) (w : World) :
    Calls Try.prog 13 #[.int .i64 v, .int .i64 lo, .int .i64 hi] w fun e w' => e = .returned (.tuple #[.int .i64 (clampR v lo hi).1, .int .i64 (clampR v lo hi).2]) ∧ Ext w w' := by
  unfold clampR
  cases h : (okW v && (okW lo && okW hi) && decide (lo ≤ hi))
  · rw [if_neg (by decide)]
    exact clamp_no v lo hi w h
  · rw [if_pos rfl]
    simp only [Bool.and_eq_true, decide_eq_true_eq] at h
    exact clamp_yes v lo hi w h.1.1 h.1.2.1 h.1.2.2 h.2

theorem clampR_ways (v lo hi : Int) : clampR v lo hi = (0, 1) ∨ ∃ m, clampR v lo hi = (m, 0) ∧ clampR m lo hi = (m, 0) ∧ lo ≤ m ∧ m ≤ hi ∧ (m = v ∨ v < lo ∨ hi < v) := by
  unfold clampR
  cases h : (okW v && (okW lo && okW hi) && decide (lo ≤ hi))
  · left
    rw [if_neg (by decide)]
  · right
    refine ⟨max lo (min v hi), by rw [if_pos rfl], ?_⟩
    simp only [Bool.and_eq_true, decide_eq_true_eq] at h
    obtain ⟨⟨h1, h2, h3⟩, h4⟩ := h
    have b1 := okW_bounds h1
    have b2 := okW_bounds h2
    have b3 := okW_bounds h3
    have hm : okW (max lo (min v hi)) = true := by unfold okW; simp only [Bool.and_eq_true, decide_eq_true_eq]; omega
    rw [hm, h2, h3]
    refine ⟨?_, by omega, by omega, by omega⟩
    simp only [Bool.and_self, Bool.true_and, decide_eq_true_eq]
    rw [if_pos h4]
    congr 1
    omega

set_option maxHeartbeats 1000000 in
set_option maxRecDepth 20000 in
theorem clamps_any (b off len cap : Nat) (Z : Nat → Nat → Int) (w : World) (hl : len ≤ maxLen) (hc : Twos w b off len Z) :
    Calls Try.prog 6 #[.slice (some ⟨b, off, none⟩) len cap] w fun e w' => e = .returned (.bool true) ∧ Ext w w' := by
  have hl' : len ≤ 9223372036854775807 := by unfold maxLen at hl; omega
  clear hl
  go_enter Try.func6, Try.ntmps6
  go_wp2_with fail
  go_loopw [3] (fun i wr => ∃ k : Nat, k ≤ len ∧ i = .int .i64 k ∧ Ext w wr) (fun i _ => len - (intOf i).toNat)
  case atStart => exact ⟨0, Nat.zero_le _, rfl, Ext.refl _⟩
  case round =>
    obtain ⟨k, hk, rfl, hx⟩ := hrel
    by_cases hlt : k < len
    · by_cases h30 : k < 30
      · obtain ⟨v, n1, n2, n3, lo, hi, z0, z1, z2, z3, z4, z5, b0, b1, b2, b3, b4, b5⟩ := (hc.ext hx).row hlt
        rcases clampR_ways v lo hi with hr | ⟨m, hr, hs, hlo, hhi, hm⟩
        · have H1 : Hid (∀ w, Calls Try.prog 13 #[.int .i64 v, .int .i64 lo, .int .i64 hi] w fun e w' => e = .returned (.tuple #[.int .i64 0, .int .i64 1]) ∧ Ext w w') := by
            intro w
            have h := clamp_any v lo hi w
            rw [hr] at h
            exact h
          clear hr
          go_wp2_with fail
          refine (H1.out _).mono ?_
          rintro e w1 ⟨rfl, x1⟩
          go_wp2_with fail
          refine (num_any _ _).mono ?_
          rintro e w2 ⟨rfl, x2⟩
          have x2' := x2.symm
          clear x2
          subst x2'
          go_wp2_with fail
          go_roundw
          case rel => exact ⟨k + 1, by omega, by go_num, (hx.alloc _).trans x1⟩
          case measure => simp [intOf]; omega
        · have H1 : Hid (∀ w, Calls Try.prog 13 #[.int .i64 v, .int .i64 lo, .int .i64 hi] w fun e w' => e = .returned (.tuple #[.int .i64 m, .int .i64 0]) ∧ Ext w w') := by
            intro w
            have h := clamp_any v lo hi w
            rw [hr] at h
            exact h
          have H2 : Hid (∀ w, Calls Try.prog 13 #[.int .i64 m, .int .i64 lo, .int .i64 hi] w fun e w' => e = .returned (.tuple #[.int .i64 m, .int .i64 0]) ∧ Ext w w') := by
            intro w
            have h := clamp_any m lo hi w
            rw [hs] at h
            exact h
          clear hr hs
          rcases hm with rfl | hm | hm
          all_goals
            go_wp2_with fail
            refine (H1.out _).mono ?_
            rintro e w1 ⟨rfl, x1⟩
            have c1 := x1.cells6
            go_wp2_with fail
            refine (num_any _ _).mono ?_
            rintro e w2 ⟨rfl, x2⟩
            have x2' := x2.symm
            clear x2
            subst x2'
            obtain ⟨c10, c11, c12, c13, c14, c15⟩ := c1
            go_wp2_with fail
            refine (H2.out _).mono ?_
            rintro e w3 ⟨rfl, x3⟩
            obtain ⟨c20, c21, c22, c23, c24, c25⟩ := (x1.trans x3).cells6
            go_wp2_with (go_at_call 17; refine (num_any _ _).mono ?_; rintro e w4 ⟨rfl, x4⟩; have x4' := x4.symm; clear x4; subst x4')
            go_roundw
            case rel => exact ⟨k + 1, by omega, by go_num, ((hx.alloc _).trans x1).trans x3⟩
            case measure => simp [intOf]; omega
      · go_wp2_with fail
        refine (wakes_any _).mono ?_
        rintro e w1 ⟨rfl, x1⟩
        go_wp2_with fail
        go_ret
        exact ⟨rfl, hx.trans x1⟩
    · go_wp2_with fail
      refine (wakes_any _).mono ?_
      rintro e w1 ⟨rfl, x1⟩
      go_wp2_with fail
      go_ret
      exact ⟨rfl, hx.trans x1⟩

set_option maxHeartbeats 400000 in
theorem clamps_none (a : Option Addr) (cap : Nat) (w : World) :
    Calls Try.prog 6 #[.slice a 0 cap] w fun e w' => e = .returned (.bool true) ∧ Ext w w' := by
  go_enter Try.func6, Try.ntmps6
  go_wp2_with fail
  refine wp_loop_rounds 1 ?_
  rw [rounds_succ]
  go_wp2_with fail
  refine (wakes_any _).mono ?_
  rintro e w1 ⟨rfl, x1⟩
  go_wp2_with fail
  go_ret
  exact ⟨rfl, x1⟩
end Go.Proofs.Ytpokfpcaaacbnab
