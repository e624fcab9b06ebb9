/- Contract of the reference's May. -/
import Derived.Test.YtbmocnigmpmfkaaLeaf
import Derived.Deep.QuietTactic
import Derived.BigQuiet
namespace Go.Proofs.Ytbmocnigmpmfkaa
open Go.RowKit

set_option maxHeartbeats 400000 in
theorem may_any (v : Int) (w : World) :
    Calls Try.prog 59 #[.int .i64 v] w fun e w' => e = .returned (.bool (okW v)) ∧ w' = w := by
  by_cases h1 : -35184372088832 < v
  · by_cases h2 : v < 35184372088832
    · have e1 : Hid (true = okW v) := by show true = okW v; unfold okW; simp; omega
      go_enter Try.func59, Try.ntmps59
      go_wp2
      go_ret
      exact ⟨ret_bool (by rw [← e1.out]), rfl⟩
    · have e1 : Hid (false = okW v) := by show false = okW v; unfold okW; simp; omega
      go_enter Try.func59, Try.ntmps59
      go_wp2
      go_ret
      exact ⟨ret_bool (by rw [← e1.out]), rfl⟩
  · have e1 : Hid (false = okW v) := by show false = okW v; unfold okW; simp; omega
    go_enter Try.func59, Try.ntmps59
    go_wp2
    go_ret
    exact ⟨ret_bool (by rw [← e1.out]), rfl⟩
end Go.Proofs.Ytbmocnigmpmfkaa
