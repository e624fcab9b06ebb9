/- FuseSpins: its numbers. -/
import Derived.Test.YtmbdcgijjpcppaaGreatFl0m
import Derived.Test.YtmbdcgijjpcppaaGreatFuPm
namespace Go.Proofs.YtmbdcgijjpcppaaGreat
open Go.RowKit Go.Shelf
theorem half_zero : half 0 = 0 := by decide
theorem sp_still (a b c d : Int) : sp0 a b c d 0 0 0 = a ∧ sp1 a b c d 0 0 0 = b ∧ sp2 a b c d 0 0 0 = c ∧ sp3 a b c d 0 0 0 = d := by
  have e0 : xp0 b c d 0 0 0 = 0 := by unfold xp0; simp
  have e1 : xp1 a c d 0 0 0 = 0 := by unfold xp1; simp
  have e2 : xp2 a b d 0 0 0 = 0 := by unfold xp2; simp
  have e3 : xp3 a b c 0 0 0 = 0 := by unfold xp3; simp
  unfold sp0 sp1 sp2 sp3
  rw [e0, e1, e2, e3, half_zero]
  simp
theorem isU_n {a b c d : Int} (h : isU a b c d) : 1152921504606846976 - 2147483657 ≤ sq4 a b c d ∧ sq4 a b c d ≤ 1152921504606846976 + 2147483656 := by
  have e := sq4_int a b c d
  unfold isU at h
  omega
/-- a unit's unit is nearly itself -/
theorem still_near {a b c d u0 u1 u2 u3 : Int} (h : okO a b c d = true) (hU : isU a b c d) (hu : UnitQ a b c d u0 u1 u2 u3) :
    (-2 ≤ u0 - a ∧ u0 - a ≤ 2) ∧ (-2 ≤ u1 - b ∧ u1 - b ≤ 2) ∧ (-2 ≤ u2 - c ∧ u2 - c ≤ 2) ∧ (-2 ≤ u3 - d ∧ u3 - d ≤ 2) := by
  obtain ⟨n0, n1⟩ := isU_n hU
  obtain ⟨ha, hb, hc, hd⟩ := okO_abs h
  obtain ⟨k0, k1, k2, k3, q0, q1, q2, q3, e0, e1, e2, e3⟩ := hu
  have p : 0 < sq4 a b c d := by omega
  have s0 := still_k (by omega) n0 n1 q0
  have s1 := still_k (by omega) n0 n1 q1
  have s2 := still_k (by omega) n0 n1 q2
  have s3 := still_k (by omega) n0 n1 q3
  have z : ∀ (v : Int) (k : Nat), k ≤ v.natAbs + 2 ∧ v.natAbs ≤ k + 2 → -2 ≤ sgd v k - v ∧ sgd v k - v ≤ 2 := by
    intro v k hk
    unfold sgd
    split <;> omega
  rw [e0, e1, e2, e3]
  exact ⟨z _ _ s0, z _ _ s1, z _ _ s2, z _ _ s3⟩
end Go.Proofs.YtmbdcgijjpcppaaGreat
