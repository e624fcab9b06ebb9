/- VecNorms: its walk with all that it calls. -/
import Derived.Test.YtjlfhhgdklblcaaNr4
import Derived.Test.YtjlfhhgdklblcaaNrC
namespace Go.Proofs.Ytjlfhhgdklblcaa
open Go.RowKit Go.Shelf
theorem vecnorms_any (b off len cap : Nat) (Z : Nat → Nat → Int) (w : World) (hl : len ≤ maxLen) (hc : Twos3 w b off len Z) :
    Calls Try.prog 3 #[.slice (some ⟨b, off, none⟩) len cap] w fun e w' => e = .returned (.bool true) ∧ Ext w w' :=
  norms_any b off len cap Z w hl hc (fun w' => wakes3_any w') norms_told
set_option maxRecDepth 20000 in
set_option maxHeartbeats 4000000 in
theorem vecnorms_none (a : Option Addr) (cap : Nat) (w : World) :
    Calls Try.prog 3 #[.slice a 0 cap] w fun e w' => e = .returned (.bool true) ∧ Ext w w' := by
  go_enter Try.func3, Try.ntmps3
  go_wp2_with fail
  refine wp_loop_rounds 1 ?_
  rw [rounds_succ]
  go_wp2_with fail
  refine (wakes3_any _).mono ?_
  rintro e w1 ⟨rfl, x1⟩
  go_wp2_with fail
  go_ret
  exact ⟨rfl, x1⟩
end Go.Proofs.Ytjlfhhgdklblcaa
