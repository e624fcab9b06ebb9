/- Units: what their dot and cross products are. -/
import Derived.Test.YtllgknodgmgemaaB0
import Derived.Test.YtllgknodgmgemaaBNum
import Derived.Test.YtllgknodgmgemaaV7
import Derived.Test.YtllgknodgmgemaaV9
namespace Go.Proofs.Ytllgknodgmgemaa
open Go.RowKit Go.Shelf

theorem vres_ok' {s0 s1 s2 : Int} (h : ok3 s0 s1 s2 = true) : vres s0 s1 s2 = .tuple #[.agg #[.int .i64 s0, .int .i64 s1, .int .i64 s2], .int .i64 0] := by unfold vres; rw [if_pos h]
theorem sgd_abs (v : Int) (k : Nat) : (sgd v k).natAbs = k := by unfold sgd; split <;> omega
/-- u is a unit: the sum of its squares is nearly 2^60 -/
def IsU (u0 u1 u2 : Int) : Prop := sq3 u0 u1 u2 ≤ 1152921506485895168 ∧ 1152921502727798784 ≤ sq3 u0 u1 u2 ∧ u0.natAbs ≤ 1073741824 ∧ u1.natAbs ≤ 1073741824 ∧ u2.natAbs ≤ 1073741824
theorem ok3_small {a b c : Int} (h0 : a.natAbs < 35184372088832) (h1 : b.natAbs < 35184372088832) (h2 : c.natAbs < 35184372088832) : ok3 a b c = true := by
  unfold ok3 okW
  simp
  omega
theorem unit_is (a0 a1 a2 : Int) (h : ok3 a0 a1 a2 = true) (hz : ¬ (a0 = 0 ∧ a1 = 0 ∧ a2 = 0)) : ∃ u0 u1 u2 : Int, IsU u0 u1 u2 ∧ Hid (∀ w', Calls Try.prog 11 #[.agg #[.int .i64 a0, .int .i64 a1, .int .i64 a2]] w' fun e w'' => e = .returned (.tuple #[.agg #[.int .i64 u0, .int .i64 u1, .int .i64 u2], .int .i64 0]) ∧ Ext w' w'') := by
  have h0 := sq3_zero a0 a1 a2 hz
  obtain ⟨k0, q0⟩ := rootQ_exists (a0.natAbs * a0.natAbs * 1152921504606846976) (sq3 a0 a1 a2) h0
  obtain ⟨k1, q1⟩ := rootQ_exists (a1.natAbs * a1.natAbs * 1152921504606846976) (sq3 a0 a1 a2) h0
  obtain ⟨k2, q2⟩ := rootQ_exists (a2.natAbs * a2.natAbs * 1152921504606846976) (sq3 a0 a1 a2) h0
  obtain ⟨s1, s2⟩ := unit_sum h0 rfl q0 q1 q2
  obtain ⟨p0, p1, p2⟩ := sq3_parts a0 a1 a2
  have e30 : 1073741824 * 1073741824 = 1152921504606846976 := by decide
  have b0 : k0 ≤ 1073741824 := rootQ_le q0 h0 (by rw [e30, Nat.mul_comm 1152921504606846976]; exact Nat.mul_le_mul_right _ p0)
  have b1 : k1 ≤ 1073741824 := rootQ_le q1 h0 (by rw [e30, Nat.mul_comm 1152921504606846976]; exact Nat.mul_le_mul_right _ p1)
  have b2 : k2 ≤ 1073741824 := rootQ_le q2 h0 (by rw [e30, Nat.mul_comm 1152921504606846976]; exact Nat.mul_le_mul_right _ p2)
  have h3 : (k0 + k1 + k2) * (k0 + k1 + k2) ≤ 3 * (k0 * k0 + k1 * k1 + k2 * k2) := by
    have := three_sq k0 k1 k2
    rw [← Int.natCast_add, ← Int.natCast_add, ← Int.natCast_mul, ← Int.natCast_mul, ← Int.natCast_mul, ← Int.natCast_mul, ← Int.natCast_add, ← Int.natCast_add] at this
    omega
  obtain ⟨n1, n2, n3⟩ := unit_near s1 s2 h3
  refine ⟨sgd a0 k0, sgd a1 k1, sgd a2 k2, ?_, fun w' => ?_⟩
  · unfold IsU sq3
    rw [sgd_abs, sgd_abs, sgd_abs]
    omega
  · have hu := vUnit_yes a0 a1 a2 k0 k1 k2 w' h hz q0 q1 q2
    rw [vres_ok' (ok3_small (by rw [sgd_abs]; omega) (by rw [sgd_abs]; omega) (by rw [sgd_abs]; omega))] at hu
    exact hu
theorem IsU.ok {u0 u1 u2 : Int} (h : IsU u0 u1 u2) : ok3 u0 u1 u2 = true := by
  obtain ⟨_, _, h0, h1, h2⟩ := h
  exact ok3_small (by omega) (by omega) (by omega)
theorem IsU.sq {u0 u1 u2 : Int} (h : IsU u0 u1 u2) : u0 * u0 + u1 * u1 + u2 * u2 ≤ 1152921506485895168 ∧ 1152921502727798784 ≤ u0 * u0 + u1 * u1 + u2 * u2 := by
  obtain ⟨h1, h2, _⟩ := h
  have e := sq3_dot u0 u1 u2
  unfold dot3 at e
  omega
theorem nearQ_bounds (z : Int) : -536870912 ≤ 1073741824 * nearQ z - z ∧ 1073741824 * nearQ z - z ≤ 536870912 := by
  have h := nearQ_spec z
  unfold IsNear at h
  omega
theorem fit_ok {z : Int} (h : okW z = true) : (fitR z).1 = z ∧ (fitR z).2 = 0 := by rw [fit_yes' h]; exact ⟨rfl, rfl⟩
theorem okW_small {z : Int} (h : z.natAbs < 35184372088832) : okW z = true := by unfold okW; simp; omega
theorem dot_units (u0 u1 u2 v0 v1 v2 : Int) (hu : IsU u0 u1 u2) (hv : IsU v0 v1 v2) : ∃ d : Int, d ≤ 1073741827 ∧ -1073741827 ≤ d ∧ Hid (∀ w', Calls Try.prog 6 #[.agg #[.int .i64 u0, .int .i64 u1, .int .i64 u2], .agg #[.int .i64 v0, .int .i64 v1, .int .i64 v2]] w' fun e w'' => e = .returned (.tuple #[.int .i64 d, .int .i64 0]) ∧ Ext w' w'') := by
  have b := dot_le u0 u1 u2 v0 v1 v2 _ hu.sq.1 hv.sq.1
  have n := nearQ_bounds (dot3 u0 u1 u2 v0 v1 v2)
  have hd : dot3 u0 u1 u2 v0 v1 v2 = u0 * v0 + u1 * v1 + u2 * v2 := rfl
  rw [← hd] at b
  have f := fit_ok (okW_small (z := nearQ (dot3 u0 u1 u2 v0 v1 v2)) (by omega))
  refine ⟨nearQ (dot3 u0 u1 u2 v0 v1 v2), by omega, by omega, fun w' => ?_⟩
  have h := vDot_yes u0 u1 u2 v0 v1 v2 w' hu.ok hv.ok
  rw [f.1, f.2] at h
  exact h
theorem dot_self (u0 u1 u2 : Int) (hu : IsU u0 u1 u2) : ∃ d : Int, d ≤ 1073741827 ∧ 1073741821 ≤ d ∧ Hid (∀ w', Calls Try.prog 6 #[.agg #[.int .i64 u0, .int .i64 u1, .int .i64 u2], .agg #[.int .i64 u0, .int .i64 u1, .int .i64 u2]] w' fun e w'' => e = .returned (.tuple #[.int .i64 d, .int .i64 0]) ∧ Ext w' w'') := by
  have b := hu.sq
  have n := nearQ_bounds (dot3 u0 u1 u2 u0 u1 u2)
  have hd : dot3 u0 u1 u2 u0 u1 u2 = u0 * u0 + u1 * u1 + u2 * u2 := rfl
  rw [← hd] at b
  have f := fit_ok (okW_small (z := nearQ (dot3 u0 u1 u2 u0 u1 u2)) (by omega))
  refine ⟨nearQ (dot3 u0 u1 u2 u0 u1 u2), by omega, by omega, fun w' => ?_⟩
  have h := vDot_yes u0 u1 u2 u0 u1 u2 w' hu.ok hu.ok
  rw [f.1, f.2] at h
  exact h
theorem crossA (a0 a1 a2 b1 b2 : Int) : rowQ 0 b2 (-b1) a0 a1 a2 = nearQ (a1 * b2 - a2 * b1) := by
  unfold rowQ dot3; congr 1; rw [Int.zero_mul, Int.zero_add, Int.neg_mul, Int.mul_comm b2, Int.mul_comm b1]; omega
theorem crossB (a0 a1 a2 b0 b2 : Int) : rowQ (-b2) 0 b0 a0 a1 a2 = nearQ (a2 * b0 - a0 * b2) := by
  unfold rowQ dot3; congr 1; rw [Int.zero_mul, Int.add_zero, Int.neg_mul, Int.mul_comm b2, Int.mul_comm b0]; omega
theorem crossC (a0 a1 a2 b0 b1 : Int) : rowQ b1 (-b0) 0 a0 a1 a2 = nearQ (a0 * b1 - a1 * b0) := by
  unfold rowQ dot3; congr 1; rw [Int.zero_mul, Int.add_zero, Int.neg_mul, Int.mul_comm b1, Int.mul_comm b0]; omega
theorem sq_small {c B : Int} (h : c * c ≤ B * B) : c.natAbs ≤ B.natAbs := by
  apply Decidable.byContradiction
  intro hh
  have h1 : (B.natAbs + 1) * (B.natAbs + 1) ≤ c.natAbs * c.natAbs := Nat.mul_le_mul (by omega) (by omega)
  have e1 := Int.natAbs_mul_self (a := c)
  have e2 := Int.natAbs_mul_self (a := B)
  have e3 : (B.natAbs + 1) * (B.natAbs + 1) = B.natAbs * B.natAbs + 2 * B.natAbs + 1 := by
    simp only [Nat.mul_add, Nat.add_mul, Nat.mul_one, Nat.one_mul]; omega
  omega
theorem cross_units (u0 u1 u2 v0 v1 v2 : Int) (hu : IsU u0 u1 u2) (hv : IsU v0 v1 v2) : ∃ c0 c1 c2 n : Int, n ≤ 1073741827 ∧ Hid (∀ w', Calls Try.prog 7 #[.agg #[.int .i64 u0, .int .i64 u1, .int .i64 u2], .agg #[.int .i64 v0, .int .i64 v1, .int .i64 v2]] w' fun e w'' => e = .returned (.tuple #[.agg #[.int .i64 c0, .int .i64 c1, .int .i64 c2], .int .i64 0]) ∧ Ext w' w'') ∧ Hid (∀ w', Calls Try.prog 12 #[.agg #[.int .i64 c0, .int .i64 c1, .int .i64 c2]] w' fun e w'' => e = .returned (.tuple #[.int .i64 n, .int .i64 0]) ∧ Ext w' w'') := by
  have hl := lagrange u0 u1 u2 v0 v1 v2
  have hu0 : 0 ≤ v0 * v0 + v1 * v1 + v2 * v2 := by have := hv.sq.2; omega
  have hb := cross_bound _ _ _ _ _ _ _ _ _ hu.sq.1 hu0 hv.sq.1 hl (nearQ_bounds _) (nearQ_bounds _) (nearQ_bounds _)
  obtain ⟨c0, e0⟩ : ∃ c0, nearQ (u1 * v2 - u2 * v1) = c0 := ⟨_, rfl⟩
  obtain ⟨c1, e1⟩ : ∃ c1, nearQ (u2 * v0 - u0 * v2) = c1 := ⟨_, rfl⟩
  obtain ⟨c2, e2⟩ : ∃ c2, nearQ (u0 * v1 - u1 * v0) = c2 := ⟨_, rfl⟩
  rw [e0, e1, e2] at hb
  have s0 := sq_nonneg c0
  have s1 := sq_nonneg c1
  have s2 := sq_nonneg c2
  have k0 := sq_small (c := c0) (B := 1073741827) (by omega)
  have k1 := sq_small (c := c1) (B := 1073741827) (by omega)
  have k2 := sq_small (c := c2) (B := 1073741827) (by omega)
  have hok : ok3 c0 c1 c2 = true := ok3_small (by omega) (by omega) (by omega)
  obtain ⟨n, hn⟩ := rootQ_exists (sq3 c0 c1 c2) 1 (by omega)
  have es := sq3_dot c0 c1 c2
  unfold dot3 at es
  have nb : n ≤ 1073741827 := rootQ_le hn (by omega) (by omega)
  have f := fit_ok (okW_small (z := (n : Int)) (by omega))
  refine ⟨c0, c1, c2, n, Int.ofNat_le.2 nb, fun w' => ?_, fun w' => ?_⟩
  · have h := vCross_yes u0 u1 u2 v0 v1 v2 w' hu.ok hv.ok
    rw [crossA, crossB, crossC, e0, e1, e2, vres_ok' hok] at h
    exact h
  · have h := vNorm_yes c0 c1 c2 n w' hok hn
    rw [f.1, f.2] at h
    exact h
end Go.Proofs.Ytllgknodgmgemaa
