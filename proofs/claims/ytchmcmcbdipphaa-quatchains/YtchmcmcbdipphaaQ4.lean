/- quat: what through tells. -/
import Derived.Test.YtchmcmcbdipphaaQ1
import Derived.Test.YtchmcmcbdipphaaW4
namespace Go.Proofs.Ytchmcmcbdipphaa
open Go.RowKit Go.Shelf
/-- four answers, one behind the other: all of it fails, if one does -/
def thr4 (r0 e0 r1 e1 r2 e2 r3 e3 : Int) : Value :=
  if e0 = 0 then if e1 = 0 then if e2 = 0 then if e3 = 0 then .tuple #[.agg #[.int .i64 r0, .int .i64 r1, .int .i64 r2, .int .i64 r3], .int .i64 0] else .tuple #[.agg #[.int .i64 0, .int .i64 0, .int .i64 0, .int .i64 0], .int .i64 e3] else .tuple #[.agg #[.int .i64 0, .int .i64 0, .int .i64 0, .int .i64 0], .int .i64 e2] else .tuple #[.agg #[.int .i64 0, .int .i64 0, .int .i64 0, .int .i64 0], .int .i64 e1] else .tuple #[.agg #[.int .i64 0, .int .i64 0, .int .i64 0, .int .i64 0], .int .i64 e0]
/-- four numbers as words, or refused -/
def qres (s0 s1 s2 s3 : Int) : Value := if ok4 s0 s1 s2 s3 then .tuple #[.agg #[.int .i64 s0, .int .i64 s1, .int .i64 s2, .int .i64 s3], .int .i64 0] else .tuple #[.agg #[.int .i64 0, .int .i64 0, .int .i64 0, .int .i64 0], .int .i64 2]
theorem fit4_yes {s : Int} (h : okW s = true) : fitR s = (s, 0) := by unfold fitR; rw [if_pos h]
theorem fit4_no {s : Int} (h : okW s = false) : fitR s = (0, 2) := by unfold fitR; rw [h]; rfl
theorem thr4_fit (s0 s1 s2 s3 : Int) : thr4 (fitR s0).1 (fitR s0).2 (fitR s1).1 (fitR s1).2 (fitR s2).1 (fitR s2).2 (fitR s3).1 (fitR s3).2 = qres s0 s1 s2 s3 := by
  unfold thr4 qres ok4
  cases h0 : okW s0
  · rw [fit4_no h0]; rfl
  · rw [fit4_yes h0]
    cases h1 : okW s1
    · rw [fit4_no h1]; rfl
    · rw [fit4_yes h1]
      cases h2 : okW s2
      · rw [fit4_no h2]; rfl
      · rw [fit4_yes h2]
        cases h3 : okW s3
        · rw [fit4_no h3]; rfl
        · rw [fit4_yes h3]; rfl
theorem qres_shape (s0 s1 s2 s3 : Int) : ∃ x y z t e : Int, qres s0 s1 s2 s3 = .tuple #[.agg #[.int .i64 x, .int .i64 y, .int .i64 z, .int .i64 t], .int .i64 e] := by
  unfold qres; split
  · exact ⟨_, _, _, _, _, rfl⟩
  · exact ⟨_, _, _, _, _, rfl⟩
end Go.Proofs.Ytchmcmcbdipphaa
