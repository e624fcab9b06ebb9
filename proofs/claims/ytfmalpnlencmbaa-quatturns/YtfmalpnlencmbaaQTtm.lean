/- QuatTurns: what is told of one entry, and its walk. -/
import Derived.Test.YtfmalpnlencmbaaQTnm
import Derived.Deep.Cut
import Derived.Deep.DeepCutAuto
namespace Go.Proofs.Ytfmalpnlencmbaa
open Go.RowKit Go.Shelf
theorem wrap_neg' {b : Int} (h : okW b = true) : wrap64 (-b) = -b := by
  have := okW_bounds h; unfold wrap64; omega
theorem root_small {S m : Nat} (h : RootQ S 1 m) (hS : 4 * (S : Int) ≤ 295147905179352825856) : m ≤ 8589934592 := by
  apply Classical.byContradiction
  intro hc
  rcases root_lo h with h0 | h0
  · omega
  · have a := Int.mul_le_mul_of_nonneg_right (a := 17179869185) (b := 2 * (m : Int) - 1) (c := 17179869185) (by omega) (by omega)
    have b := Int.mul_le_mul_of_nonneg_left (a := 17179869185) (b := 2 * (m : Int) - 1) (c := 2 * (m : Int) - 1) (by omega) (by omega)
    generalize (2 * (m : Int) - 1) * (2 * (m : Int) - 1) = T at *
    generalize (2 * (m : Int) - 1) * 17179869185 = R at *
    omega
theorem sq3_le {x y z B : Int} (hB : 0 ≤ B) (hx : -B ≤ x ∧ x ≤ B) (hy : -B ≤ y ∧ y ≤ B) (hz : -B ≤ z ∧ z ≤ B) : x * x + y * y + z * z ≤ 3 * (B * B) := by
  have a := sq_le_of hx hB; have b := sq_le_of hy hB; have c := sq_le_of hz hB
  omega
theorem norm_of {a b c : Int} (ha : -4294967296 ≤ a ∧ a ≤ 4294967296) (hb : -4294967296 ≤ b ∧ b ≤ 4294967296) (hc : -4294967296 ≤ c ∧ c ≤ 4294967296) : ∃ k : Nat, RootQ (sq3 a b c) 1 k ∧ k ≤ 8589934592 ∧ (∀ w, Calls Try.prog 17 #[.agg #[.int .i64 a, .int .i64 b, .int .i64 c]] w fun e w' => e = .returned (.tuple #[.int .i64 (k : Int), .int .i64 0]) ∧ Ext w w') := by
  obtain ⟨k, hk⟩ := rootQ_exists (sq3 a b c) 1 (by decide)
  have s := sq3_le (B := 4294967296) (by decide) ha hb hc
  have e := sq3_int a b c
  have l := root_small hk (by rw [e]; generalize a * a + b * b + c * c = S at *; omega)
  have o : okW (k : Int) = true := okW_abs (by omega)
  have o3 : ok3 a b c = true := by unfold ok3; rw [okW_abs (v := a) (by omega), okW_abs (v := b) (by omega), okW_abs (v := c) (by omega)]; rfl
  have H := fun w => vNorm_yes a b c k w o3 hk
  have ef : fitR (k : Int) = ((k : Int), 0) := by unfold fitR; rw [if_pos o]
  rw [ef] at H
  exact ⟨k, hk, l, H⟩
theorem nearQ_le {p B : Int} (h : -(1073741824 * B) ≤ p ∧ p ≤ 1073741824 * B) : -(B + 1) ≤ nearQ p ∧ nearQ p ≤ B + 1 := by
  have s := nearQ_IsNear p
  have s1 := s.1; have s2 := s.2.1
  omega
theorem dot_of {a b c x y z : Int} (ha : -4294967296 ≤ a ∧ a ≤ 4294967296) (hb : -4294967296 ≤ b ∧ b ≤ 4294967296) (hc : -4294967296 ≤ c ∧ c ≤ 4294967296) (hx : -4294967296 ≤ x ∧ x ≤ 4294967296) (hy : -4294967296 ≤ y ∧ y ≤ 4294967296) (hz : -4294967296 ≤ z ∧ z ≤ 4294967296) : (-1099511627776 ≤ nearQ (a * x + b * y + c * z) ∧ nearQ (a * x + b * y + c * z) ≤ 1099511627776) ∧ (∀ w, Calls Try.prog 18 #[.agg #[.int .i64 a, .int .i64 b, .int .i64 c], .agg #[.int .i64 x, .int .i64 y, .int .i64 z]] w fun e w' => e = .returned (.tuple #[.int .i64 (nearQ (a * x + b * y + c * z)), .int .i64 0]) ∧ Ext w w') := by
  have p0 := mul_bounds_abs (A := 4294967296) (B := 4294967296) (by decide) (by decide) ha hx
  have p1 := mul_bounds_abs (A := 4294967296) (B := 4294967296) (by decide) (by decide) hb hy
  have p2 := mul_bounds_abs (A := 4294967296) (B := 4294967296) (by decide) (by decide) hc hz
  have o3 : ok3 a b c = true := by unfold ok3; rw [okW_abs (v := a) (by omega), okW_abs (v := b) (by omega), okW_abs (v := c) (by omega)]; rfl
  have k3 : ok3 x y z = true := by unfold ok3; rw [okW_abs (v := x) (by omega), okW_abs (v := y) (by omega), okW_abs (v := z) (by omega)]; rfl
  have H := fun w => vDot_yes a b c x y z w o3 k3
  have ed : dot3 a b c x y z = a * x + b * y + c * z := rfl
  rw [ed] at H
  have l := nearQ_le (p := a * x + b * y + c * z) (B := 51539607552) (by generalize a * x = P at *; generalize b * y = Q at *; generalize c * z = R at *; omega)
  generalize nearQ (a * x + b * y + c * z) = g at *
  have o : okW g = true := okW_abs (by omega)
  have ef : fitR g = (g, 0) := by unfold fitR; rw [if_pos o]
  rw [ef] at H
  exact ⟨by omega, H⟩
theorem tn_bnd {N S t M : Int} (hN : 0 < N) (hM : 0 ≤ M) (h : t * t ≤ N * N * S) (hS : S ≤ M * M) : -(N * M) ≤ t ∧ t ≤ N * M := by
  refine abs_of_sq (Int.mul_nonneg (Int.le_of_lt hN) hM) ?_
  have e : N * M * (N * M) = N * N * (M * M) := by grind
  rw [e]
  exact Int.le_trans h (Int.mul_le_mul_of_nonneg_left hS (sq_nonneg N))
theorem dot_round {p r : Int} (h : p - r ≤ 12884901889 ∧ -12884901889 ≤ p - r) : nearQ r - nearQ p ≤ 16 ∧ nearQ p - nearQ r ≤ 16 := by
  have s := nearQ_IsNear p
  have k := nearQ_IsNear r
  have s1 := s.1; have s2 := s.2.1; have k1 := k.1; have k2 := k.2.1
  omega
set_option maxHeartbeats 4000000 in
/-- all that is told of one entry -/
theorem turns_told (q0 q1 q2 q3 v0 v1 v2 u0 u1 u2 : Int) (hq0 : -2147483648 ≤ q0 ∧ q0 ≤ 2147483648) (hq1 : -2147483648 ≤ q1 ∧ q1 ≤ 2147483648) (hq2 : -2147483648 ≤ q2 ∧ q2 ≤ 2147483648) (hq3 : -2147483648 ≤ q3 ∧ q3 ≤ 2147483648) (hv0 : -2147483648 ≤ v0 ∧ v0 ≤ 2147483648) (hv1 : -2147483648 ≤ v1 ∧ v1 ≤ 2147483648) (hv2 : -2147483648 ≤ v2 ∧ v2 ≤ 2147483648) (hu0 : -2147483648 ≤ u0 ∧ u0 ≤ 2147483648) (hu1 : -2147483648 ≤ u1 ∧ u1 ≤ 2147483648) (hu2 : -2147483648 ≤ u2 ∧ u2 ≤ 2147483648) (hz : ¬ (q0 = 0 ∧ q1 = 0 ∧ q2 = 0 ∧ q3 = 0)) : ∃ X0 X1 X2 Y0 Y1 Y2 Z0 Z1 Z2 m n x y : Int, (∀ w, Calls Try.prog 14 #[.agg #[.int .i64 q0, .int .i64 q1, .int .i64 q2, .int .i64 q3], .agg #[.int .i64 v0, .int .i64 v1, .int .i64 v2]] w fun e w' => e = .returned (.tuple #[.agg #[.int .i64 X0, .int .i64 X1, .int .i64 X2], .int .i64 0]) ∧ Ext w w') ∧ (∀ w, Calls Try.prog 15 #[.agg #[.int .i64 q0, .int .i64 q1, .int .i64 q2, .int .i64 q3], .agg #[.int .i64 X0, .int .i64 X1, .int .i64 X2]] w fun e w' => e = .returned (.tuple #[.agg #[.int .i64 Y0, .int .i64 Y1, .int .i64 Y2], .int .i64 0]) ∧ Ext w w') ∧ (∀ w, Calls Try.prog 14 #[.agg #[.int .i64 (-2 * q0), .int .i64 (-2 * q1), .int .i64 (-2 * q2), .int .i64 (-2 * q3)], .agg #[.int .i64 v0, .int .i64 v1, .int .i64 v2]] w fun e w' => e = .returned (.tuple #[.agg #[.int .i64 X0, .int .i64 X1, .int .i64 X2], .int .i64 0]) ∧ Ext w w') ∧ (∀ w, Calls Try.prog 16 #[.agg #[.int .i64 Y0, .int .i64 Y1, .int .i64 Y2], .agg #[.int .i64 v0, .int .i64 v1, .int .i64 v2], .int .i64 2] w fun e w' => e = .returned (.bool true) ∧ Ext w w') ∧ (∀ w, Calls Try.prog 17 #[.agg #[.int .i64 v0, .int .i64 v1, .int .i64 v2]] w fun e w' => e = .returned (.tuple #[.int .i64 m, .int .i64 0]) ∧ Ext w w') ∧ (∀ w, Calls Try.prog 17 #[.agg #[.int .i64 X0, .int .i64 X1, .int .i64 X2]] w fun e w' => e = .returned (.tuple #[.int .i64 n, .int .i64 0]) ∧ Ext w w') ∧ (∀ w, Calls Try.prog 14 #[.agg #[.int .i64 q0, .int .i64 q1, .int .i64 q2, .int .i64 q3], .agg #[.int .i64 u0, .int .i64 u1, .int .i64 u2]] w fun e w' => e = .returned (.tuple #[.agg #[.int .i64 Z0, .int .i64 Z1, .int .i64 Z2], .int .i64 0]) ∧ Ext w w') ∧ (∀ w, Calls Try.prog 18 #[.agg #[.int .i64 v0, .int .i64 v1, .int .i64 v2], .agg #[.int .i64 u0, .int .i64 u1, .int .i64 u2]] w fun e w' => e = .returned (.tuple #[.int .i64 x, .int .i64 0]) ∧ Ext w w') ∧ (∀ w, Calls Try.prog 18 #[.agg #[.int .i64 X0, .int .i64 X1, .int .i64 X2], .agg #[.int .i64 Z0, .int .i64 Z1, .int .i64 Z2]] w fun e w' => e = .returned (.tuple #[.int .i64 y, .int .i64 0]) ∧ Ext w w') ∧ (0 ≤ m ∧ m ≤ 8589934592 ∧ 0 ≤ n ∧ n ≤ 8589934592 ∧ m - n ≤ 2 ∧ n - m ≤ 2) ∧ (-1099511627776 ≤ x ∧ x ≤ 1099511627776 ∧ -1099511627776 ≤ y ∧ y ≤ 1099511627776 ∧ x - y ≤ 16 ∧ y - x ≤ 16) := by
  have oq : ∀ {w : Int}, -4294967296 ≤ w ∧ w ≤ 4294967296 → okW w = true := fun h => okW_abs (by omega)
  have a4 : ok4 q0 q1 q2 q3 = true := by unfold ok4; rw [oq (w := q0) (by omega), oq (w := q1) (by omega), oq (w := q2) (by omega), oq (w := q3) (by omega)]; rfl
  have b4 : ok4 q0 (-q1) (-q2) (-q3) = true := by unfold ok4; rw [oq (w := q0) (by omega), oq (w := -q1) (by omega), oq (w := -q2) (by omega), oq (w := -q3) (by omega)]; rfl
  have c4 : ok4 (-2 * q0) (-2 * q1) (-2 * q2) (-2 * q3) = true := by unfold ok4; rw [oq (w := -2 * q0) (by omega), oq (w := -2 * q1) (by omega), oq (w := -2 * q2) (by omega), oq (w := -2 * q3) (by omega)]; rfl
  have n0 := sq4_pos hz
  have nb : 0 < sq4 q0 (-q1) (-q2) (-q3) := sq4_pos (by omega)
  have nc : 0 < sq4 (-2 * q0) (-2 * q1) (-2 * q2) (-2 * q3) := sq4_pos (by omega)
  obtain ⟨X0, X1, X2, T1, E1, i0, i1, i2, b0, b1, b2⟩ := turn_told q0 q1 q2 q3 v0 v1 v2 2147483648 a4 n0 (by decide) (by decide) hv0 hv1 hv2
  obtain ⟨Z0, Z1, Z2, T4, E4, j0, j1, j2, d0, d1, d2⟩ := turn_told q0 q1 q2 q3 u0 u1 u2 2147483648 a4 n0 (by decide) (by decide) hu0 hu1 hu2
  obtain ⟨C0, C1, C2, T3, E3, k0, k1, k2, _, _, _⟩ := turn_told (-2 * q0) (-2 * q1) (-2 * q2) (-2 * q3) v0 v1 v2 2147483648 c4 nc (by decide) (by decide) hv0 hv1 hv2
  obtain ⟨Y0, Y1, Y2, T2, E2, l0, l1, l2, e0, e1, e2⟩ := turn_told q0 (-q1) (-q2) (-q3) X0 X1 X2 4294967296 b4 nb (by decide) (by decide) (by omega) (by omega) (by omega)
  have eN := sq4_int q0 q1 q2 q3
  have hN : 0 < (q0 * q0 + q1 * q1 + q2 * q2 + q3 * q3) := by rw [eN]; omega
  have eb : q0 * q0 + -q1 * -q1 + -q2 * -q2 + -q3 * -q3 = (q0 * q0 + q1 * q1 + q2 * q2 + q3 * q3) := by simp only [Int.neg_mul_neg]
  have ec : -2 * q0 * (-2 * q0) + -2 * q1 * (-2 * q1) + -2 * q2 * (-2 * q2) + -2 * q3 * (-2 * q3) = 4 * (q0 * q0 + q1 * q1 + q2 * q2 + q3 * q3) := by grind
  rw [eb] at l0 l1 l2
  rw [ec, tnx_scale] at k0
  rw [ec, tny_scale] at k1
  rw [ec, tnz_scale] at k2
  have h4 : (-2 : Int) * -2 = 4 := by decide
  rw [h4] at k0 k1 k2
  have x0 : C0 = X0 := k0.unique (by omega) (i0.scale (g := 4) (by decide))
  have x1 : C1 = X1 := k1.unique (by omega) (i1.scale (g := 4) (by decide))
  have x2 : C2 = X2 := k2.unique (by omega) (i2.scale (g := 4) (by decide))
  subst x0 x1 x2
  have BK := fun w => qBack_any q0 q1 q2 q3 C0 C1 C2 w
  rw [wrap_neg' (oq (w := q1) (by omega)), wrap_neg' (oq (w := q2) (by omega)), wrap_neg' (oq (w := q3) (by omega)), E2] at BK
  obtain ⟨m, hm, lm, N1⟩ := norm_of (a := v0) (b := v1) (c := v2) (by omega) (by omega) (by omega)
  obtain ⟨n, hn, ln, N2⟩ := norm_of (a := C0) (b := C1) (c := C2) (by omega) (by omega) (by omega)
  obtain ⟨o1, D1⟩ := dot_of (a := v0) (b := v1) (c := v2) (x := u0) (y := u1) (z := u2) (by omega) (by omega) (by omega) (by omega) (by omega) (by omega)
  obtain ⟨o2, D2⟩ := dot_of (a := C0) (b := C1) (c := C2) (x := Z0) (y := Z1) (z := Z2) (by omega) (by omega) (by omega) (by omega) (by omega) (by omega)
  have g0 := near_left i0; have g1 := near_left i1; have g2 := near_left i2
  have r0 := near_left j0; have r1 := near_left j1; have r2 := near_left j2
  have tl := tn_le q0 q1 q2 q3 v0 v1 v2
  have ul := tn_le q0 q1 q2 q3 u0 u1 u2
  have sv := sq3_le (B := 2147483648) (by decide) hv0 hv1 hv2
  have su := sq3_le (B := 2147483648) (by decide) hu0 hu1 hu2
  have td := tn_dot q0 q1 q2 q3 v0 v1 v2 u0 u1 u2
  have ts := tn_sq q0 q1 q2 q3 v0 v1 v2
  have tb := tn_back q0 q1 q2 q3 v0 v1 v2
  have NC := norms_close hN ts g0 g1 g2 hm hn
  have DC := dots_close (M := 4294967296) hN (by decide) td rfl g0 g1 g2 r0 r1 r2 (tn_bnd hN (by decide) tl.1 (by omega)) (tn_bnd hN (by decide) tl.2.1 (by omega)) (tn_bnd hN (by decide) tl.2.2 (by omega)) (tn_bnd hN (by decide) ul.1 (by omega)) (tn_bnd hN (by decide) ul.2.1 (by omega)) (tn_bnd hN (by decide) ul.2.2 (by omega))
  have DR := dot_round (p := C0 * Z0 + C1 * Z1 + C2 * Z2) (r := v0 * u0 + v1 * u1 + v2 * u2) (by omega)
  have cl_ := tn_le q0 (-q1) (-q2) (-q3) (C0 * (q0 * q0 + q1 * q1 + q2 * q2 + q3 * q3) - tnx q0 q1 q2 q3 v0 v1 v2) (C1 * (q0 * q0 + q1 * q1 + q2 * q2 + q3 * q3) - tny q0 q1 q2 q3 v0 v1 v2) (C2 * (q0 * q0 + q1 * q1 + q2 * q2 + q3 * q3) - tnz q0 q1 q2 q3 v0 v1 v2)
  rw [eb] at cl_
  have z0 := tnx_lin q0 (-q1) (-q2) (-q3) (q0 * q0 + q1 * q1 + q2 * q2 + q3 * q3) C0 C1 C2 (tnx q0 q1 q2 q3 v0 v1 v2) (tny q0 q1 q2 q3 v0 v1 v2) (tnz q0 q1 q2 q3 v0 v1 v2)
  have z1 := tny_lin q0 (-q1) (-q2) (-q3) (q0 * q0 + q1 * q1 + q2 * q2 + q3 * q3) C0 C1 C2 (tnx q0 q1 q2 q3 v0 v1 v2) (tny q0 q1 q2 q3 v0 v1 v2) (tnz q0 q1 q2 q3 v0 v1 v2)
  have z2 := tnz_lin q0 (-q1) (-q2) (-q3) (q0 * q0 + q1 * q1 + q2 * q2 + q3 * q3) C0 C1 C2 (tnx q0 q1 q2 q3 v0 v1 v2) (tny q0 q1 q2 q3 v0 v1 v2) (tnz q0 q1 q2 q3 v0 v1 v2)
  rw [tb.1] at z0
  rw [tb.2.1] at z1
  rw [tb.2.2] at z2
  have w0 := back_close hN (Int.sub_eq_iff_eq_add'.1 z0) ⟨l0.1, l0.2.1⟩ (left_close _ _ _ _ _ _ hN g0 g1 g2 hN cl_.1)
  have w1 := back_close hN (Int.sub_eq_iff_eq_add'.1 z1) ⟨l1.1, l1.2.1⟩ (left_close _ _ _ _ _ _ hN g0 g1 g2 hN cl_.2.1)
  have w2 := back_close hN (Int.sub_eq_iff_eq_add'.1 z2) ⟨l2.1, l2.2.1⟩ (left_close _ _ _ _ _ _ hN g0 g1 g2 hN cl_.2.2)
  refine ⟨C0, C1, C2, Y0, Y1, Y2, Z0, Z1, Z2, m, n, _, _, T1, BK, T3, fun w => ?_, N1, N2, T4, D1, D2, ⟨by omega, by omega, by omega, by omega, by omega, by omega⟩, ⟨o1.1, o1.2, o2.1, o2.2, DR.1, DR.2⟩⟩
  exact near_any Y0 Y1 Y2 v0 v1 v2 2 w (by omega) (by omega) (by omega) (by omega) (by omega) (by omega) (by omega) (by omega) (by omega)
end Go.Proofs.Ytfmalpnlencmbaa
