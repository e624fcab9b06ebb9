/- What VecLaws leans on. -/
import Derived.Test.YtllgknodgmgemaaB1
import Derived.Test.YtllgknodgmgemaaP0
namespace Go.Proofs.Ytllgknodgmgemaa
open Go.RowKit Go.Shelf

theorem nearQ_neg (z : Int) : nearQ (-z) = -nearQ z := (nearQ_spec (-z)).unique (by omega) (nearQ_spec z).neg
theorem mul_le32 {a b : Int} (ha : a.natAbs ≤ 4294967296) (hb : b.natAbs ≤ 4294967296) : -18446744073709551616 ≤ a * b ∧ a * b ≤ 18446744073709551616 := by
  have h : (a * b).natAbs ≤ 4294967296 * 4294967296 := by rw [Int.natAbs_mul]; exact Nat.mul_le_mul ha hb
  omega
theorem mul_le61 {a d : Int} (ha : a.natAbs ≤ 4294967296) (hd : d.natAbs ≤ 536870912) : -2305843009213693952 ≤ a * d ∧ a * d ≤ 2305843009213693952 := by
  have h : (a * d).natAbs ≤ 4294967296 * 536870912 := by rw [Int.natAbs_mul]; exact Nat.mul_le_mul ha hd
  omega
theorem triple (p0 p1 p2 r0 r1 r2 : Int) : p0 * (p1 * r2 - p2 * r1) + p1 * (p2 * r0 - p0 * r2) + p2 * (p0 * r1 - p1 * r0) = 0 := by grind
theorem split_mul (p x c : Int) : 1073741824 * (p * c) = p * x + p * (1073741824 * c - x) := by grind
theorem across_small (p0 p1 p2 r0 r1 r2 : Int) (h0 : p0.natAbs ≤ 4294967296) (h1 : p1.natAbs ≤ 4294967296) (h2 : p2.natAbs ≤ 4294967296) :
    -6442450944 ≤ p0 * nearQ (p1 * r2 - p2 * r1) + p1 * nearQ (p2 * r0 - p0 * r2) + p2 * nearQ (p0 * r1 - p1 * r0) ∧ p0 * nearQ (p1 * r2 - p2 * r1) + p1 * nearQ (p2 * r0 - p0 * r2) + p2 * nearQ (p0 * r1 - p1 * r0) ≤ 6442450944 := by
  have t := triple p0 p1 p2 r0 r1 r2
  have b0 := nearQ_bounds (p1 * r2 - p2 * r1)
  have b1 := nearQ_bounds (p2 * r0 - p0 * r2)
  have b2 := nearQ_bounds (p0 * r1 - p1 * r0)
  have s0 := split_mul p0 (p1 * r2 - p2 * r1) (nearQ (p1 * r2 - p2 * r1))
  have s1 := split_mul p1 (p2 * r0 - p0 * r2) (nearQ (p2 * r0 - p0 * r2))
  have s2 := split_mul p2 (p0 * r1 - p1 * r0) (nearQ (p0 * r1 - p1 * r0))
  have m0 := mul_le61 h0 (d := 1073741824 * nearQ (p1 * r2 - p2 * r1) - (p1 * r2 - p2 * r1)) (by omega)
  have m1 := mul_le61 h1 (d := 1073741824 * nearQ (p2 * r0 - p0 * r2) - (p2 * r0 - p0 * r2)) (by omega)
  have m2 := mul_le61 h2 (d := 1073741824 * nearQ (p0 * r1 - p1 * r0) - (p0 * r1 - p1 * r0)) (by omega)
  generalize p0 * (1073741824 * nearQ (p1 * r2 - p2 * r1) - (p1 * r2 - p2 * r1)) = e0 at *
  generalize p1 * (1073741824 * nearQ (p2 * r0 - p0 * r2) - (p2 * r0 - p0 * r2)) = e1 at *
  generalize p2 * (1073741824 * nearQ (p0 * r1 - p1 * r0) - (p0 * r1 - p1 * r0)) = e2 at *
  generalize p0 * (p1 * r2 - p2 * r1) = f0 at *
  generalize p1 * (p2 * r0 - p0 * r2) = f1 at *
  generalize p2 * (p0 * r1 - p1 * r0) = f2 at *
  generalize p0 * nearQ (p1 * r2 - p2 * r1) = g0 at *
  generalize p1 * nearQ (p2 * r0 - p0 * r2) = g1 at *
  generalize p2 * nearQ (p0 * r1 - p1 * r0) = g2 at *
  omega
theorem near_small {z : Int} (B : Int) (h1 : -(1073741824 * B) ≤ z) (h2 : z ≤ 1073741824 * B) : -B ≤ nearQ z ∧ nearQ z ≤ B := by
  have b := nearQ_bounds z
  omega
theorem laws_facts (p0 p1 p2 r0 r1 r2 : Int) (h0 : p0.natAbs ≤ 4294967296) (h1 : p1.natAbs ≤ 4294967296) (h2 : p2.natAbs ≤ 4294967296) (k0 : r0.natAbs ≤ 4294967296) (k1 : r1.natAbs ≤ 4294967296) (k2 : r2.natAbs ≤ 4294967296) :
    ∃ x c0 c1 c2 d0 d1 d2 o : Int, -16 ≤ o ∧ o ≤ 16 ∧ Hid (∀ w', Calls Try.prog 6 #[.agg #[.int .i64 p0, .int .i64 p1, .int .i64 p2], .agg #[.int .i64 r0, .int .i64 r1, .int .i64 r2]] w' fun e w'' => e = .returned (.tuple #[.int .i64 x, .int .i64 0]) ∧ Ext w' w'') ∧ Hid (∀ w', Calls Try.prog 6 #[.agg #[.int .i64 r0, .int .i64 r1, .int .i64 r2], .agg #[.int .i64 p0, .int .i64 p1, .int .i64 p2]] w' fun e w'' => e = .returned (.tuple #[.int .i64 x, .int .i64 0]) ∧ Ext w' w'') ∧ Hid (∀ w', Calls Try.prog 7 #[.agg #[.int .i64 p0, .int .i64 p1, .int .i64 p2], .agg #[.int .i64 r0, .int .i64 r1, .int .i64 r2]] w' fun e w'' => e = .returned (.tuple #[.agg #[.int .i64 c0, .int .i64 c1, .int .i64 c2], .int .i64 0]) ∧ Ext w' w'') ∧ Hid (∀ w', Calls Try.prog 7 #[.agg #[.int .i64 r0, .int .i64 r1, .int .i64 r2], .agg #[.int .i64 p0, .int .i64 p1, .int .i64 p2]] w' fun e w'' => e = .returned (.tuple #[.agg #[.int .i64 d0, .int .i64 d1, .int .i64 d2], .int .i64 0]) ∧ Ext w' w'') ∧ Hid (∀ w', Calls Try.prog 7 #[.agg #[.int .i64 p0, .int .i64 p1, .int .i64 p2], .agg #[.int .i64 p0, .int .i64 p1, .int .i64 p2]] w' fun e w'' => e = .returned (.tuple #[.agg #[.int .i64 0, .int .i64 0, .int .i64 0], .int .i64 0]) ∧ Ext w' w'') ∧ Hid (∀ w', Calls Try.prog 8 #[.agg #[.int .i64 d0, .int .i64 d1, .int .i64 d2]] w' fun e w'' => e = .returned (.tuple #[.agg #[.int .i64 c0, .int .i64 c1, .int .i64 c2], .int .i64 0]) ∧ Ext w' w'') ∧ Hid (∀ w', Calls Try.prog 6 #[.agg #[.int .i64 p0, .int .i64 p1, .int .i64 p2], .agg #[.int .i64 c0, .int .i64 c1, .int .i64 c2]] w' fun e w'' => e = .returned (.tuple #[.int .i64 o, .int .i64 0]) ∧ Ext w' w'') ∧ Hid (∀ w', Calls Try.prog 10 #[.agg #[.int .i64 1073741824, .int .i64 0, .int .i64 0, .int .i64 0, .int .i64 1073741824, .int .i64 0, .int .i64 0, .int .i64 0, .int .i64 1073741824], .agg #[.int .i64 p0, .int .i64 p1, .int .i64 p2]] w' fun e w'' => e = .returned (.tuple #[.agg #[.int .i64 p0, .int .i64 p1, .int .i64 p2], .int .i64 0]) ∧ Ext w' w'') := by
  have ok1 : ok3 p0 p1 p2 = true := ok3_small (by omega) (by omega) (by omega)
  have ok2 : ok3 r0 r1 r2 = true := ok3_small (by omega) (by omega) (by omega)
  have a00 := mul_le32 h0 k0
  have a11 := mul_le32 h1 k1
  have a22 := mul_le32 h2 k2
  have a12 := mul_le32 h1 k2
  have a21 := mul_le32 h2 k1
  have a20 := mul_le32 h2 k0
  have a02 := mul_le32 h0 k2
  have a01 := mul_le32 h0 k1
  have a10 := mul_le32 h1 k0
  have xb := near_small (z := dot3 p0 p1 p2 r0 r1 r2) 51539607552 (by unfold dot3; omega) (by unfold dot3; omega)
  have b0 := near_small (z := p1 * r2 - p2 * r1) 34359738368 (by omega) (by omega)
  have b1 := near_small (z := p2 * r0 - p0 * r2) 34359738368 (by omega) (by omega)
  have b2 := near_small (z := p0 * r1 - p1 * r0) 34359738368 (by omega) (by omega)
  have ac := across_small p0 p1 p2 r0 r1 r2 h0 h1 h2
  have n0 : nearQ (r1 * p2 - r2 * p1) = -nearQ (p1 * r2 - p2 * r1) := by rw [← nearQ_neg]; congr 1; rw [Int.mul_comm r1, Int.mul_comm r2]; omega
  have n1 : nearQ (r2 * p0 - r0 * p2) = -nearQ (p2 * r0 - p0 * r2) := by rw [← nearQ_neg]; congr 1; rw [Int.mul_comm r2, Int.mul_comm r0]; omega
  have n2 : nearQ (r0 * p1 - r1 * p0) = -nearQ (p0 * r1 - p1 * r0) := by rw [← nearQ_neg]; congr 1; rw [Int.mul_comm r0, Int.mul_comm r1]; omega
  have z0 : nearQ 0 = 0 := by decide
  have w0 : ∀ a : Int, nearQ (1073741824 * a) = a := fun a => by unfold nearQ oddQ; omega
  have dc : dot3 r0 r1 r2 p0 p1 p2 = dot3 p0 p1 p2 r0 r1 r2 := by unfold dot3; rw [Int.mul_comm r0, Int.mul_comm r1, Int.mul_comm r2]
  have cr := fun w' => vCross_yes p0 p1 p2 r0 r1 r2 w' ok1 ok2
  have cs := fun w' => vCross_yes r0 r1 r2 p0 p1 p2 w' ok2 ok1
  have cz := fun w' => vCross_yes p0 p1 p2 p0 p1 p2 w' ok1 ok1
  rw [crossA, crossB, crossC] at cr cs cz
  rw [n0, n1, n2] at cs
  rw [Int.mul_comm p1 p2, Int.mul_comm p2 p0, Int.mul_comm p0 p1, Int.sub_self, Int.sub_self, Int.sub_self, z0, vres_ok' (by decide)] at cz
  obtain ⟨c0, e0⟩ : ∃ c0, nearQ (p1 * r2 - p2 * r1) = c0 := ⟨_, rfl⟩
  obtain ⟨c1, e1⟩ : ∃ c1, nearQ (p2 * r0 - p0 * r2) = c1 := ⟨_, rfl⟩
  obtain ⟨c2, e2⟩ : ∃ c2, nearQ (p0 * r1 - p1 * r0) = c2 := ⟨_, rfl⟩
  rw [e0, e1, e2] at cr cs ac
  rw [e0] at b0
  rw [e1] at b1
  rw [e2] at b2
  have okc : ok3 c0 c1 c2 = true := ok3_small (by omega) (by omega) (by omega)
  have okd : ok3 (-c0) (-c1) (-c2) = true := ok3_small (by omega) (by omega) (by omega)
  rw [vres_ok' okc] at cr
  rw [vres_ok' okd] at cs
  have fx := fit_ok (okW_small (z := nearQ (dot3 p0 p1 p2 r0 r1 r2)) (by omega))
  have ob := near_small (z := dot3 p0 p1 p2 c0 c1 c2) 6 (by unfold dot3; omega) (by unfold dot3; omega)
  have fo := fit_ok (okW_small (z := nearQ (dot3 p0 p1 p2 c0 c1 c2)) (by omega))
  refine ⟨nearQ (dot3 p0 p1 p2 r0 r1 r2), c0, c1, c2, -c0, -c1, -c2, nearQ (dot3 p0 p1 p2 c0 c1 c2), by omega, by omega, fun w' => ?_, fun w' => ?_, cr, cs, cz, fun w' => ?_, fun w' => ?_, fun w' => ?_⟩
  · have h := vDot_yes p0 p1 p2 r0 r1 r2 w' ok1 ok2
    rw [fx.1, fx.2] at h; exact h
  · have h := vDot_yes r0 r1 r2 p0 p1 p2 w' ok2 ok1
    rw [dc, fx.1, fx.2] at h; exact h
  · have h := vNeg_yes (-c0) (-c1) (-c2) w' okd
    rw [show 0 - -c0 = c0 by omega, show 0 - -c1 = c1 by omega, show 0 - -c2 = c2 by omega, vres_ok' okc] at h; exact h
  · have h := vDot_yes p0 p1 p2 c0 c1 c2 w' ok1 okc
    rw [fo.1, fo.2] at h; exact h
  · have h := vApply_yes 1073741824 0 0 0 1073741824 0 0 0 1073741824 p0 p1 p2 w' (by decide) (by decide) (by decide) ok1
    have r0 : rowQ 1073741824 0 0 p0 p1 p2 = p0 := by unfold rowQ dot3; rw [Int.zero_mul, Int.zero_mul, Int.add_zero, Int.add_zero, w0]
    have r1 : rowQ 0 1073741824 0 p0 p1 p2 = p1 := by unfold rowQ dot3; rw [Int.zero_mul, Int.zero_mul, Int.add_zero, Int.zero_add, w0]
    have r2 : rowQ 0 0 1073741824 p0 p1 p2 = p2 := by unfold rowQ dot3; rw [Int.zero_mul, Int.zero_mul, Int.zero_add, Int.zero_add, w0]
    rw [r0, r1, r2, vres_ok' ok1] at h; exact h
theorem norm_unit (u0 u1 u2 : Int) (hu : IsU u0 u1 u2) : ∃ m : Int, m ≤ 1073741825 ∧ 1073741823 ≤ m ∧ Hid (∀ w', Calls Try.prog 12 #[.agg #[.int .i64 u0, .int .i64 u1, .int .i64 u2]] w' fun e w'' => e = .returned (.tuple #[.int .i64 m, .int .i64 0]) ∧ Ext w' w'') := by
  obtain ⟨m, hm⟩ := rootQ_exists (sq3 u0 u1 u2) 1 (by omega)
  have hm' := hm
  obtain ⟨q1, q2, _, _⟩ := hm'
  obtain ⟨s1, s2, _⟩ := hu
  rw [Nat.mul_one] at q1 q2
  have b1 : m ≤ 1073741825 := by
    apply Decidable.byContradiction
    intro hh
    have h3 : 2147483651 * 2147483651 ≤ (2 * m - 1) * (2 * m - 1) := Nat.mul_le_mul (by omega) (by omega)
    omega
  have b2 : 1073741823 ≤ m := by
    apply Decidable.byContradiction
    intro hh
    have h3 : (2 * m + 1) * (2 * m + 1) ≤ 2147483645 * 2147483645 := Nat.mul_le_mul (by omega) (by omega)
    omega
  have f := fit_ok (okW_small (z := (m : Int)) (by omega))
  refine ⟨m, Int.ofNat_le.2 b1, Int.ofNat_le.2 b2, fun w' => ?_⟩
  have h := vNorm_yes u0 u1 u2 m w' (IsU.ok ⟨s1, s2, by assumption⟩) hm
  rw [f.1, f.2] at h
  exact h
end Go.Proofs.Ytllgknodgmgemaa
