/- vec: the words of sums of products. Contracts: times, bits.Div64. -/
import Derived.Test.YtbmocnigmpmfkaaMg15
import Derived.Test.YtbmocnigmpmfkaaNearNumm
import Derived.Test.YtbmocnigmpmfkaaMg10
import Derived.Test.YtbmocnigmpmfkaaNum2m
import Derived.Test.YtbmocnigmpmfkaaMg7
import Derived.Deep.QuietTactic
import Derived.BigQuiet
namespace Go.Proofs.Ytbmocnigmpmfkaa
open Go.RowKit Go.Shelf

theorem prod_abs {a b : Int} (h : okW a = true) (k : okW b = true) : -1237940039285380274899124224 < a * b ∧ a * b < 1237940039285380274899124224 := by
  have := okW_bounds h
  have := okW_bounds k
  have e := Int.natAbs_mul a b
  have h1 : a.natAbs * b.natAbs ≤ 35184372088831 * 35184372088831 := Nat.mul_le_mul (by omega) (by omega)
  omega
/-- the sum of products -/
def dot3 (a0 a1 a2 b0 b1 b2 : Int) : Int := a0 * b0 + a1 * b1 + a2 * b2
theorem nearQ_spec (z : Int) : IsNear z 1073741824 (nearQ z) := by
  unfold IsNear nearQ oddQ
  omega
theorem nearQ_I (z : Int) : nearQ z = nearI z 1073741824 := (nearQ_spec z).unique (by omega) (nearI_spec z _ (by omega))

set_option maxHeartbeats 2000000 in
theorem inQ30_any (a0 a1 a2 b0 b1 b2 : Int) (w : World) (h0 : okW a0 = true) (h1 : okW a1 = true) (h2 : okW a2 = true) (k0 : okW b0 = true) (k1 : okW b1 = true) (k2 : okW b2 = true) :
    Calls Try.prog 26 #[.agg #[.int .i64 a0, .int .i64 a1, .int .i64 a2], .agg #[.int .i64 b0, .int .i64 b1, .int .i64 b2]] w fun e w' => e = .returned (.tuple #[.int .i64 (fitR (nearQ (dot3 a0 a1 a2 b0 b1 b2))).1, .int .i64 (fitR (nearQ (dot3 a0 a1 a2 b0 b1 b2))).2]) ∧ Ext w w' := by
  have p0 := prod_abs h0 k0
  have p1 := prod_abs h1 k1
  have p2 := prod_abs h2 k2
  have HS : Hid (∀ w', Calls Try.prog 31 #[.agg #[.int .i64 a0, .int .i64 a1, .int .i64 a2], .agg #[.int .i64 b0, .int .i64 b1, .int .i64 b2]] w' fun e w'' => (∃ r, e = .returned r ∧ IsW r (dot3 a0 a1 a2 b0 b1 b2)) ∧ Ext w' w'') := fun w' => sum_any a0 a1 a2 b0 b1 b2 w' h0 h1 h2 k0 k1 k2
  have HN : Hid (∀ u w', IsW u (dot3 a0 a1 a2 b0 b1 b2) → Calls Try.prog 32 #[u, .int .i64 30] w' fun e w'' => (∃ r, e = .returned r ∧ IsW r (nearQ (dot3 a0 a1 a2 b0 b1 b2))) ∧ Ext w' w'') := fun u w' hu => nearestw_any _ u w' hu (by unfold InW dot3; omega) (by unfold InW dot3; omega)
  have HW : Hid (∀ u w', IsW u (nearQ (dot3 a0 a1 a2 b0 b1 b2)) → Calls Try.prog 33 #[u] w' fun e w'' => e = .returned (.tuple #[.int .i64 (fitR (nearQ (dot3 a0 a1 a2 b0 b1 b2))).1, .int .i64 (fitR (nearQ (dot3 a0 a1 a2 b0 b1 b2))).2]) ∧ Ext w' w'') := fun u w' hu => wordw_any _ u w' hu (by
    have hn := nearQ_spec (dot3 a0 a1 a2 b0 b1 b2)
    unfold IsNear at hn
    unfold dot3 at hn ⊢
    unfold InW
    omega)
  clear p0 p1 p2 h0 h1 h2 k0 k1 k2
  generalize dot3 a0 a1 a2 b0 b1 b2 = D at *
  generalize nearQ D = N at *
  generalize (fitR N).1 = o1 at *
  generalize (fitR N).2 = o2 at *
  go_enter Try.func26, Try.ntmps26
  go_wp2_with fail
  refine (HS.out _).mono ?_
  rintro e w1 ⟨⟨u1, rfl, hu1⟩, x1⟩
  go_wp2_with fail
  refine (HN.out _ _ hu1).mono ?_
  rintro e w2 ⟨⟨u2, rfl, hu2⟩, x2⟩
  go_wp2_with fail
  refine (HW.out _ _ hu2).mono ?_
  rintro e w3 ⟨rfl, x3⟩
  go_wp2_with fail
  go_ret2
  exact ⟨rfl, ((Ext.trans (((Ext.refl _).alloc _).alloc _) x1).trans x2).trans x3⟩
end Go.Proofs.Ytbmocnigmpmfkaa

namespace Go.Proofs.Ytbmocnigmpmfkaa
open Go.RowKit

end Go.Proofs.Ytbmocnigmpmfkaa
