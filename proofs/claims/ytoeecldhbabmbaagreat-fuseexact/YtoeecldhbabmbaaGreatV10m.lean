/- vec: unit$1. -/
import Derived.Test.YtoeecldhbabmbaaGreatMg20
open Go.Value renaming int → J
open Go.IntKind renaming i64 → zq, u64 → zu
namespace Go.Proofs.YtoeecldhbabmbaaGreat
open Go.RowKit Go.Shelf
set_option maxHeartbeats 2000000 in
theorem vunit1_raw (v b0 b1 b2 z r s : Int) (g : Nat) (w : World) (GB : H3 w g (J zu b0) (J zu b1) (J zu b2))
    (HO : Hid (∀ w', Calls Tryz.prog 136 #[J zq v, .agg #[J zu b0, J zu b1, J zu b2]] w' fun e w'' => (∃ r, e = .returned r ∧ IsW r z) ∧ Ext w' w''))
    (HW : Hid (∀ t w', IsW t z → Calls Tryz.prog 145 #[t] w' fun e w'' => e = .returned (.tuple #[J zq r, J zq s]) ∧ Ext w' w'')) :
    Calls Tryz.prog 147 #[J zq v, .pointer (some ⟨g, 0, none⟩)] w fun e w' => e = .returned (.tuple #[J zq r, J zq s]) ∧ Ext w w' := by
  obtain ⟨g0, g1, g2, g3, g4, g5, g6⟩ := GB
  go_enter Tryz.func147, Tryz.ntmps147
  go_wp2_with fail
  refine (HO.out _).mono ?_
  rintro e w1 ⟨⟨x, rfl, s0, s1, s2, rfl, hr⟩, x1⟩
  have HR : Hid (IsW (.agg #[J zu s0, J zu s1, J zu s2]) z) := ⟨_, _, _, rfl, hr⟩
  clear hr g0 g1 g2 g3 g4 g5 g6
  go_wp2_with fail
  refine (HW.out _ _ HR.out).mono ?_
  rintro e w2 ⟨rfl, x2⟩
  go_wp2_with fail
  go_ret2
  exact ⟨rfl, x1.trans x2⟩
end Go.Proofs.YtoeecldhbabmbaaGreat
