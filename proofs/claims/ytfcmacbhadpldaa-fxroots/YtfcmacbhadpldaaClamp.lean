/- Contract of fx.Clamp. -/
import Derived.Test.YtfcmacbhadpldaaLeaf
namespace Go.Proofs.Ytfcmacbhadpldaa
open Go.RowKit

theorem ret2_int {k : IntKind} {v : Value} {a b : Int} (h : a = b) : Ending.returned (.tuple #[.int k a, v]) = .returned (.tuple #[.int k b, v]) := by rw [h]

set_option maxHeartbeats 400000 in
theorem clamp_yes (v lo hi : Int) (w : World) (hv : okW v = true) (hl : okW lo = true) (hh : okW hi = true) (hle : lo ≤ hi) :
    Calls Try.prog 29 #[.int .i64 v, .int .i64 lo, .int .i64 hi] w fun e w' => e = .returned (.tuple #[.int .i64 (max lo (min v hi)), .int .i64 0]) ∧ Ext w w' := by
  have hc : chk v = 0 := by unfold chk; rw [if_pos hv]
  have hgt : ¬ hi < lo := by omega
  go_enter Try.func29, Try.ntmps29
  go_wp2_with (first | (go_at_call 22; refine (check_any _ _).mono ?_; rintro e w' ⟨rfl, rfl⟩) | (go_at_call 54; refine (words_any _ _ _).mono ?_; rintro e w' ⟨rfl, hx⟩))
  all_goals
    go_ret2
    exact ⟨ret2_int (by grind), hx⟩

set_option maxHeartbeats 400000 in
theorem clamp_no (v lo hi : Int) (w : World) (h : (okW v && (okW lo && okW hi) && decide (lo ≤ hi)) = false) :
    Calls Try.prog 29 #[.int .i64 v, .int .i64 lo, .int .i64 hi] w fun e w' => e = .returned (.tuple #[.int .i64 0, .int .i64 1]) ∧ Ext w w' := by
  cases hv : okW v
  · have hc : chk v = 1 := by unfold chk; rw [hv]; rfl
    clear h hv
    go_enter Try.func29, Try.ntmps29
    go_wp2_with (first | (go_at_call 22; refine (check_any _ _).mono ?_; rintro e w' ⟨rfl, rfl⟩) | (go_at_call 54; refine (words_any _ _ _).mono ?_; rintro e w' ⟨rfl, hx⟩))
    go_ret2
    exact ⟨rfl, Ext.refl _⟩
  · have hc : chk v = 0 := by unfold chk; rw [if_pos hv]
    rw [hv] at h
    clear hv
    cases hl : (okW lo && okW hi)
    · clear h
      go_enter Try.func29, Try.ntmps29
      go_wp2_with (first | (go_at_call 22; refine (check_any _ _).mono ?_; rintro e w' ⟨rfl, rfl⟩) | (go_at_call 54; refine (words_any _ _ _).mono ?_; rintro e w' ⟨rfl, hx⟩))
      go_ret2
      exact ⟨rfl, hx⟩
    · rw [hl] at h
      have hlt : hi < lo := by simpa using h
      clear h
      go_enter Try.func29, Try.ntmps29
      go_wp2_with (first | (go_at_call 22; refine (check_any _ _).mono ?_; rintro e w' ⟨rfl, rfl⟩) | (go_at_call 54; refine (words_any _ _ _).mono ?_; rintro e w' ⟨rfl, hx⟩))
      go_ret2
      exact ⟨rfl, hx⟩
end Go.Proofs.Ytfcmacbhadpldaa
