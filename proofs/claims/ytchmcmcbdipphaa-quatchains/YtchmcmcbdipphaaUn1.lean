/- QuatUnits: what is told of two quaternions of words that are not 0. -/
import Derived.Test.YtchmcmcbdipphaaUn0
import Derived.Test.YtchmcmcbdipphaaQ8
namespace Go.Proofs.Ytchmcmcbdipphaa
open Go.RowKit Go.Shelf

theorem okW_abs {v : Int} (h : v.natAbs < 35184372088832) : okW v = true := by unfold okW; simp; omega
theorem sgd_sq (v : Int) (k : Nat) : sgd v k * sgd v k = ((k * k : Nat) : Int) := by
  have h := sgd_le (v := v) (k := k)
  rw [← Int.natAbs_mul_self' (sgd v k), h, Int.natCast_mul]
/-- what is told of a unit -/
theorem unit_told (a b c d : Int) (h : ok4 a b c d = true) (hq : ¬ (a = 0 ∧ b = 0 ∧ c = 0 ∧ d = 0)) : ∃ A0 A1 A2 A3 : Int,
    (∀ w', Calls Try.prog 22 #[.agg #[.int .i64 a, .int .i64 b, .int .i64 c, .int .i64 d]] w' fun e w'' => e = .returned (.tuple #[.agg #[.int .i64 A0, .int .i64 A1, .int .i64 A2, .int .i64 A3], .int .i64 0]) ∧ Ext w' w'') ∧
    (A0.natAbs ≤ 1073741824 ∧ A1.natAbs ≤ 1073741824 ∧ A2.natAbs ≤ 1073741824 ∧ A3.natAbs ≤ 1073741824) ∧
    1152921504606846976 - 2147483657 ≤ A0 * A0 + A1 * A1 + A2 * A2 + A3 * A3 ∧ A0 * A0 + A1 * A1 + A2 * A2 + A3 * A3 ≤ 1152921504606846976 + 2147483656 := by
  have n0 := sq4_pos hq
  obtain ⟨k0, q0⟩ := rootq_ex (a.natAbs * a.natAbs * 1152921504606846976) (sq4 a b c d) n0
  obtain ⟨k1, q1⟩ := rootq_ex (b.natAbs * b.natAbs * 1152921504606846976) (sq4 a b c d) n0
  obtain ⟨k2, q2⟩ := rootq_ex (c.natAbs * c.natAbs * 1152921504606846976) (sq4 a b c d) n0
  obtain ⟨k3, q3⟩ := rootq_ex (d.natAbs * d.natAbs * 1152921504606846976) (sq4 a b c d) n0
  obtain ⟨l0, l1, l2, l3⟩ := le_sq4 a b c d
  have m0 := unit_k_le n0 l0 q0; have m1 := unit_k_le n0 l1 q1; have m2 := unit_k_le n0 l2 q2; have m3 := unit_k_le n0 l3 q3
  have s := unit_sum (sq4 a b c d) _ _ _ _ k0 k1 k2 k3 n0 (by unfold sq4; rfl) q0 q1 q2 q3
  refine ⟨sgd a k0, sgd b k1, sgd c k2, sgd d k3, fun w' => qUnit_yes a b c d k0 k1 k2 k3 w' h hq q0 q1 q2 q3, ⟨?_, ?_, ?_, ?_⟩, ?_, ?_⟩
  · rw [sgd_le]; exact m0
  · rw [sgd_le]; exact m1
  · rw [sgd_le]; exact m2
  · rw [sgd_le]; exact m3
  · rw [sgd_sq, sgd_sq, sgd_sq, sgd_sq]; omega
  · rw [sgd_sq, sgd_sq, sgd_sq, sgd_sq]; omega
theorem norm_told (a b c d : Int) (h : ok4 a b c d = true) (hs : a * a + b * b + c * c + d * d ≤ 1152921504606846976 + 6442451000) :
    (∀ w', Calls Try.prog 23 #[.agg #[.int .i64 a, .int .i64 b, .int .i64 c, .int .i64 d]] w' fun e w'' => e = .returned (.tuple #[.int .i64 (nearQ (a * a + b * b + c * c + d * d)), .int .i64 0]) ∧ Ext w' w'') := by
  intro w'
  have H := qNorm_yes a b c d w' h
  rw [← sq4_int] at H
  have q0 := sq_nonneg a; have q1 := sq_nonneg b; have q2 := sq_nonneg c; have q3 := sq_nonneg d
  have e : fitR (nearQ (a * a + b * b + c * c + d * d)) = (nearQ (a * a + b * b + c * c + d * d), 0) := fit4_yes (okW_abs (by unfold nearQ oddQ; omega))
  rw [e] at H
  exact H
theorem le_of_sq4 {a s b c d : Int} (h : a * a + b * b + c * c + d * d ≤ s) (hs : s < 4611686018427387904) : a.natAbs < 2147483648 := by
  have q1 := sq_nonneg b; have q2 := sq_nonneg c; have q3 := sq_nonneg d
  have := lt_of_sq (p := a) (m := 2147483648) (by omega)
  omega
/-- what is told of a product of two units -/
theorem mul_told (a b c d x y z t : Int) (h : ok4 a b c d = true) (k : ok4 x y z t = true)
    (hA : 1152921504606846976 - 2147483657 ≤ a * a + b * b + c * c + d * d ∧ a * a + b * b + c * c + d * d ≤ 1152921504606846976 + 2147483656) (hB : 1152921504606846976 - 2147483657 ≤ x * x + y * y + z * z + t * t ∧ x * x + y * y + z * z + t * t ≤ 1152921504606846976 + 2147483656) :
    ∃ C0 C1 C2 C3 : Int, (∀ w', Calls Try.prog 8 #[.agg #[.int .i64 a, .int .i64 b, .int .i64 c, .int .i64 d], .agg #[.int .i64 x, .int .i64 y, .int .i64 z, .int .i64 t]] w' fun e w'' => e = .returned (.tuple #[.agg #[.int .i64 C0, .int .i64 C1, .int .i64 C2, .int .i64 C3], .int .i64 0]) ∧ Ext w' w'') ∧
    C0 = nearQ (qw a b c d x y z t) ∧ C1 = nearQ (qx a b c d x y z t) ∧ C2 = nearQ (qy a b c d x y z t) ∧ C3 = nearQ (qz a b c d x y z t) ∧ (C0.natAbs < 2147483648 ∧ C1.natAbs < 2147483648 ∧ C2.natAbs < 2147483648 ∧ C3.natAbs < 2147483648) ∧
    1152921504606846976 - 6442451000 ≤ C0 * C0 + C1 * C1 + C2 * C2 + C3 * C3 ∧ C0 * C0 + C1 * C1 + C2 * C2 + C3 * C3 ≤ 1152921504606846976 + 6442451000 := by
  have s := mul_sum _ _ _ _ _ _ _ _ _ _ hA hB (quat_sq a b c d x y z t) (nearQ_IsNear _) (nearQ_IsNear _) (nearQ_IsNear _) (nearQ_IsNear _)
  have w0 := le_of_sq4 s.2 (by omega)
  have w1 : (nearQ (qx a b c d x y z t)).natAbs < 2147483648 := le_of_sq4 (a := nearQ (qx a b c d x y z t)) (b := nearQ (qw a b c d x y z t)) (c := nearQ (qy a b c d x y z t)) (d := nearQ (qz a b c d x y z t)) (s := 1152921504606846976 + 6442451000) (by omega) (by omega)
  have w2 : (nearQ (qy a b c d x y z t)).natAbs < 2147483648 := le_of_sq4 (a := nearQ (qy a b c d x y z t)) (b := nearQ (qw a b c d x y z t)) (c := nearQ (qx a b c d x y z t)) (d := nearQ (qz a b c d x y z t)) (s := 1152921504606846976 + 6442451000) (by omega) (by omega)
  have w3 : (nearQ (qz a b c d x y z t)).natAbs < 2147483648 := le_of_sq4 (a := nearQ (qz a b c d x y z t)) (b := nearQ (qw a b c d x y z t)) (c := nearQ (qx a b c d x y z t)) (d := nearQ (qy a b c d x y z t)) (s := 1152921504606846976 + 6442451000) (by omega) (by omega)
  have M := fun w' => qMul_any a b c d x y z t w'
  unfold qmulR at M
  rw [h, k, if_pos (show (true && true) = true from rfl)] at M
  unfold qres ok4 at M
  rw [okW_abs (v := nearQ (qw a b c d x y z t)) (by omega), okW_abs (v := nearQ (qx a b c d x y z t)) (by omega), okW_abs (v := nearQ (qy a b c d x y z t)) (by omega), okW_abs (v := nearQ (qz a b c d x y z t)) (by omega), if_pos (show (true && (true && (true && true))) = true from rfl)] at M
  exact ⟨_, _, _, _, M, rfl, rfl, rfl, rfl, ⟨w0, w1, w2, w3⟩, s⟩
theorem ok4_abs {a b c d : Int} (ha : a.natAbs < 35184372088832) (hb : b.natAbs < 35184372088832) (hc : c.natAbs < 35184372088832) (hd : d.natAbs < 35184372088832) : ok4 a b c d = true := by
  unfold ok4; rw [okW_abs ha, okW_abs hb, okW_abs hc, okW_abs hd]; rfl
theorem units_told (a b c d x y z t : Int) (h : ok4 a b c d = true) (k : ok4 x y z t = true) (hq : ¬ (a = 0 ∧ b = 0 ∧ c = 0 ∧ d = 0)) (kq : ¬ (x = 0 ∧ y = 0 ∧ z = 0 ∧ t = 0)) : ∃ A0 A1 A2 A3 B0 B1 B2 B3 C0 C1 C2 C3 n m : Int,
    (∀ w', Calls Try.prog 22 #[.agg #[.int .i64 a, .int .i64 b, .int .i64 c, .int .i64 d]] w' fun e w'' => e = .returned (.tuple #[.agg #[.int .i64 A0, .int .i64 A1, .int .i64 A2, .int .i64 A3], .int .i64 0]) ∧ Ext w' w'') ∧
    (∀ w', Calls Try.prog 22 #[.agg #[.int .i64 x, .int .i64 y, .int .i64 z, .int .i64 t]] w' fun e w'' => e = .returned (.tuple #[.agg #[.int .i64 B0, .int .i64 B1, .int .i64 B2, .int .i64 B3], .int .i64 0]) ∧ Ext w' w'') ∧
    (∀ w', Calls Try.prog 8 #[.agg #[.int .i64 A0, .int .i64 A1, .int .i64 A2, .int .i64 A3], .agg #[.int .i64 B0, .int .i64 B1, .int .i64 B2, .int .i64 B3]] w' fun e w'' => e = .returned (.tuple #[.agg #[.int .i64 C0, .int .i64 C1, .int .i64 C2, .int .i64 C3], .int .i64 0]) ∧ Ext w' w'') ∧
    (∀ w', Calls Try.prog 23 #[.agg #[.int .i64 A0, .int .i64 A1, .int .i64 A2, .int .i64 A3]] w' fun e w'' => e = .returned (.tuple #[.int .i64 n, .int .i64 0]) ∧ Ext w' w'') ∧
    (∀ w', Calls Try.prog 23 #[.agg #[.int .i64 C0, .int .i64 C1, .int .i64 C2, .int .i64 C3]] w' fun e w'' => e = .returned (.tuple #[.int .i64 m, .int .i64 0]) ∧ Ext w' w'') ∧
    (∀ w', Calls Try.prog 12 #[.agg #[.int .i64 A0, .int .i64 A1, .int .i64 A2, .int .i64 A3]] w' fun e w'' => e = .returned (.tuple #[.agg #[.int .i64 A0, .int .i64 (-A1), .int .i64 (-A2), .int .i64 (-A3)], .int .i64 0]) ∧ Ext w' w'') ∧
    (∀ w', Calls Try.prog 8 #[.agg #[.int .i64 A0, .int .i64 A1, .int .i64 A2, .int .i64 A3], .agg #[.int .i64 A0, .int .i64 (-A1), .int .i64 (-A2), .int .i64 (-A3)]] w' fun e w'' => e = .returned (.tuple #[.agg #[.int .i64 n, .int .i64 0, .int .i64 0, .int .i64 0], .int .i64 0]) ∧ Ext w' w'') ∧
    (1073741821 ≤ n ∧ n ≤ 1073741827) ∧ (1073741812 ≤ m ∧ m ≤ 1073741836) := by
  obtain ⟨A0, A1, A2, A3, uA, ⟨a0, a1, a2, a3⟩, sA1, sA2⟩ := unit_told a b c d h hq
  obtain ⟨B0, B1, B2, B3, uB, ⟨b0, b1, b2, b3⟩, sB1, sB2⟩ := unit_told x y z t k kq
  have oA : ok4 A0 A1 A2 A3 = true := ok4_abs (by omega) (by omega) (by omega) (by omega)
  have oB : ok4 B0 B1 B2 B3 = true := ok4_abs (by omega) (by omega) (by omega) (by omega)
  have oN : ok4 A0 (-A1) (-A2) (-A3) = true := ok4_abs (by omega) (by omega) (by omega) (by omega)
  obtain ⟨C0, C1, C2, C3, mC, _, _, _, _, ⟨c0, c1, c2, c3⟩, sC1, sC2⟩ := mul_told A0 A1 A2 A3 B0 B1 B2 B3 oA oB ⟨sA1, sA2⟩ ⟨sB1, sB2⟩
  have oC : ok4 C0 C1 C2 C3 = true := ok4_abs (by omega) (by omega) (by omega) (by omega)
  have nA := norm_told A0 A1 A2 A3 oA (by omega)
  have nC := norm_told C0 C1 C2 C3 oC (by omega)
  have cj := fun w' => qConj_any A0 A1 A2 A3 w'
  unfold conjR at cj
  rw [oA, if_pos rfl] at cj
  have sN : A0 * A0 + -A1 * -A1 + -A2 * -A2 + -A3 * -A3 = A0 * A0 + A1 * A1 + A2 * A2 + A3 * A3 := by grind
  obtain ⟨D0, D1, D2, D3, mD, e0, e1, e2, e3, _, _⟩ := mul_told A0 A1 A2 A3 A0 (-A1) (-A2) (-A3) oA oN ⟨sA1, sA2⟩ ⟨by omega, by omega⟩
  have z0 : qw A0 A1 A2 A3 A0 (-A1) (-A2) (-A3) = A0 * A0 + A1 * A1 + A2 * A2 + A3 * A3 := by unfold qw; grind
  have z1 : qx A0 A1 A2 A3 A0 (-A1) (-A2) (-A3) = 0 := by unfold qx; grind
  have z2 : qy A0 A1 A2 A3 A0 (-A1) (-A2) (-A3) = 0 := by unfold qy; grind
  have z3 : qz A0 A1 A2 A3 A0 (-A1) (-A2) (-A3) = 0 := by unfold qz; grind
  have zz : nearQ 0 = 0 := by decide
  rw [z0] at e0; rw [z1, zz] at e1; rw [z2, zz] at e2; rw [z3, zz] at e3
  rw [e0, e1, e2, e3] at mD
  refine ⟨A0, A1, A2, A3, B0, B1, B2, B3, C0, C1, C2, C3, _, _, uA, uB, mC, nA, nC, cj, mD, ?_, ?_⟩
  · generalize A0 * A0 + A1 * A1 + A2 * A2 + A3 * A3 = S at *
    unfold nearQ oddQ; omega
  · generalize C0 * C0 + C1 * C1 + C2 * C2 + C3 * C3 = S at *
    unfold nearQ oddQ; omega
end Go.Proofs.Ytchmcmcbdipphaa
