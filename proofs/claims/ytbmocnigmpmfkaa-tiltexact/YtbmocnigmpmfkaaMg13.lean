/- vec: three words, or refused. vec: through. -/
import Derived.Test.YtbmocnigmpmfkaaMg12
namespace Go.Proofs.Ytbmocnigmpmfkaa
open Go.RowKit Go.Shelf
def vres (s0 s1 s2 : Int) : Value := if ok3 s0 s1 s2 then .tuple #[.agg #[.int .i64 s0, .int .i64 s1, .int .i64 s2], .int .i64 0] else .tuple #[.agg #[.int .i64 0, .int .i64 0, .int .i64 0], .int .i64 2]
def vbad : Value := .tuple #[.agg #[.int .i64 0, .int .i64 0, .int .i64 0], .int .i64 1]
theorem fit_yes' {s : Int} (h : okW s = true) : fitR s = (s, 0) := by unfold fitR; rw [if_pos h]
theorem fit_no' {s : Int} (h : okW s = false) : fitR s = (0, 2) := by unfold fitR; rw [h]; rfl
theorem thr_fit (s0 s1 s2 : Int) : thr (fitR s0).1 (fitR s0).2 (fitR s1).1 (fitR s1).2 (fitR s2).1 (fitR s2).2 = vres s0 s1 s2 := by
  unfold vres ok3 thr
  cases h0 : okW s0
  · rw [fit_no' h0]; rfl
  · rw [fit_yes' h0]
    cases h1 : okW s1
    · rw [fit_no' h1]; rfl
    · rw [fit_yes' h1]
      cases h2 : okW s2
      · rw [fit_no' h2]; rfl
      · rw [fit_yes' h2]; rfl
theorem vres_shape (s0 s1 s2 : Int) : ∃ x y z e : Int, vres s0 s1 s2 = .tuple #[.agg #[.int .i64 x, .int .i64 y, .int .i64 z], .int .i64 e] := by
  unfold vres; split <;> exact ⟨_, _, _, _, rfl⟩
theorem ok3_parts {a b c : Int} (h : ok3 a b c = true) : okW a = true ∧ okW b = true ∧ okW c = true := by
  unfold ok3 at h; simp only [Bool.and_eq_true] at h; exact ⟨h.1, h.2.1, h.2.2⟩

end Go.Proofs.Ytbmocnigmpmfkaa

namespace Go.Proofs.Ytbmocnigmpmfkaa
open Go.RowKit Go.Shelf

end Go.Proofs.Ytbmocnigmpmfkaa
