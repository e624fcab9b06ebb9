/- Contracts of the leaves of package fx: Check, num, fit, size. -/
import Derived.Test.YtbmocnigmpmfkaaCore
import Derived.WalkKit
import Derived.WalkSpells
import Derived.WalkLawsBesides
import Derived.Deep.RegionWith
namespace Go.Proofs.Ytbmocnigmpmfkaa
open Go.RowKit

set_option maxHeartbeats 400000 in
theorem check_any (v : Int) (w : World) :
    Calls Try.prog 30 #[.int .i64 v] w fun e w' => e = .returned (.int .i64 (chk v)) ∧ w' = w := by
  by_cases h1 : v ≤ -35184372088832
  · have e1 : chk v = 1 := by unfold chk okW; rw [if_neg]; simp; omega
    rw [e1]
    go_enter Try.func30, Try.ntmps30
    go_wp2
    go_ret
    exact ⟨rfl, rfl⟩
  · by_cases h2 : 35184372088832 ≤ v
    · have e1 : chk v = 1 := by unfold chk okW; rw [if_neg]; simp; omega
      rw [e1]
      go_enter Try.func30, Try.ntmps30
      go_wp2
      go_ret
      exact ⟨rfl, rfl⟩
    · have e1 : chk v = 0 := by unfold chk okW; rw [if_pos]; simp; omega
      rw [e1]
      go_enter Try.func30, Try.ntmps30
      go_wp2
      go_ret
      exact ⟨rfl, rfl⟩

end Go.Proofs.Ytbmocnigmpmfkaa
