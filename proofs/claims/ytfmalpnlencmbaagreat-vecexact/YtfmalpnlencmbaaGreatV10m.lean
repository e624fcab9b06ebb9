/- vec: unit$1. -/
import Derived.Test.YtfmalpnlencmbaaGreatMg20
namespace Go.Proofs.YtfmalpnlencmbaaGreat
open Go.RowKit Go.Shelf

set_option maxHeartbeats 2000000 in
theorem vunit1_raw (v b0 b1 b2 z r s : Int) (g : Nat) (w : World) (GB : H3 w g (.int .u64 b0) (.int .u64 b1) (.int .u64 b2))
    (HO : Hid (∀ w', Calls Tryz.prog 141 #[.int .i64 v, .agg #[.int .u64 b0, .int .u64 b1, .int .u64 b2]] w' fun e w'' => (∃ r, e = .returned r ∧ IsW r z) ∧ Ext w' w''))
    (HW : Hid (∀ t w', IsW t z → Calls Tryz.prog 96 #[t] w' fun e w'' => e = .returned (.tuple #[.int .i64 r, .int .i64 s]) ∧ Ext w' w'')) :
    Calls Tryz.prog 140 #[.int .i64 v, .pointer (some ⟨g, 0, none⟩)] w fun e w' => e = .returned (.tuple #[.int .i64 r, .int .i64 s]) ∧ Ext w w' := by
  obtain ⟨g0, g1, g2, g3, g4, g5, g6⟩ := GB
  go_enter Tryz.func140, Tryz.ntmps140
  go_wp2_with fail
  refine (HO.out _).mono ?_
  rintro e w1 ⟨⟨x, rfl, s0, s1, s2, rfl, hr⟩, x1⟩
  have HR : Hid (IsW (.agg #[.int .u64 s0, .int .u64 s1, .int .u64 s2]) z) := ⟨_, _, _, rfl, hr⟩
  clear hr g0 g1 g2 g3 g4 g5 g6
  go_wp2_with fail
  refine (HW.out _ _ HR.out).mono ?_
  rintro e w2 ⟨rfl, x2⟩
  go_wp2_with fail
  go_ret2
  exact ⟨rfl, x1.trans x2⟩
end Go.Proofs.YtfmalpnlencmbaaGreat
