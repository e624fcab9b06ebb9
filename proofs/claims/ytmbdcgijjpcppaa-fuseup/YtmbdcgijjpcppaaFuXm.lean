/- FuseUp: what is told of its calls. -/
import Derived.Test.YtmbdcgijjpcppaaFuWm
import Derived.Test.YtmbdcgijjpcppaaFl0m
import Derived.Test.YtmbdcgijjpcppaaV7m
import Derived.Deep.Cut
import Derived.Deep.DeepCutAuto
namespace Go.Proofs.Ytmbdcgijjpcppaa
open Go.RowKit Go.Shelf
/-- what is measured: a vector as long as gravity, and its unit -/
def Meas (g0 g1 g2 m0 m1 m2 : Int) : Prop := (-19613300 ≤ g0 ∧ g0 ≤ 19613300) ∧ (-19613300 ≤ g1 ∧ g1 ≤ 19613300) ∧ (-19613300 ≤ g2 ∧ g2 ≤ 19613300) ∧ ¬ (g0 = 0 ∧ g1 = 0 ∧ g2 = 0) ∧ 96170344995900 ≤ g0 * g0 + g1 * g1 + g2 * g2 ∧ g0 * g0 + g1 * g1 + g2 * g2 ≤ 96170423449100 ∧ UnitV g0 g1 g2 m0 m1 m2
theorem sq3_int (a b c : Int) : ((sq3 a b c : Nat) : Int) = a * a + b * b + c * c := by
  have h := sq3_dot a b c
  unfold dot3 at h
  omega
theorem rootQ_small {n k : Nat} (h : RootQ n 1 k) (hn : n ≤ 1125899906842624) : k ≤ 33554432 := rootQ_le h (by decide) (by omega)
theorem dot_fit {s0 s1 s2 m0 m1 m2 : Int} (hs0 : -1073741824 ≤ s0 ∧ s0 ≤ 1073741824) (hs1 : -1073741824 ≤ s1 ∧ s1 ≤ 1073741824) (hs2 : -1073741824 ≤ s2 ∧ s2 ≤ 1073741824) (hm0 : -1073741824 ≤ m0 ∧ m0 ≤ 1073741824) (hm1 : -1073741824 ≤ m1 ∧ m1 ≤ 1073741824) (hm2 : -1073741824 ≤ m2 ∧ m2 ≤ 1073741824) : -4294967296 ≤ nearQ (dot3 s0 s1 s2 m0 m1 m2) ∧ nearQ (dot3 s0 s1 s2 m0 m1 m2) ≤ 4294967296 := by
  have a := prod_in hs0 hm0; have b := prod_in hs1 hm1; have c := prod_in hs2 hm2
  exact nearQ_abs (B := 4294967296) (by unfold dot3; omega) (by unfold dot3; omega)
theorem dot_told {s0 s1 s2 m0 m1 m2 : Int} (w : World) (hs0 : -1073741824 ≤ s0 ∧ s0 ≤ 1073741824) (hs1 : -1073741824 ≤ s1 ∧ s1 ≤ 1073741824) (hs2 : -1073741824 ≤ s2 ∧ s2 ≤ 1073741824) (hm0 : -1073741824 ≤ m0 ∧ m0 ≤ 1073741824) (hm1 : -1073741824 ≤ m1 ∧ m1 ≤ 1073741824) (hm2 : -1073741824 ≤ m2 ∧ m2 ≤ 1073741824) :
    Calls Try.prog 12 #[.agg #[.int .i64 s0, .int .i64 s1, .int .i64 s2], .agg #[.int .i64 m0, .int .i64 m1, .int .i64 m2]] w fun e w' => e = .returned (.tuple #[.int .i64 (nearQ (dot3 s0 s1 s2 m0 m1 m2)), .int .i64 0]) ∧ Ext w w' := by
  have H := vDot_yes s0 s1 s2 m0 m1 m2 w (ok3_of (by omega) (by omega) (by omega)) (ok3_of (by omega) (by omega) (by omega))
  have hf := dot_fit hs0 hs1 hs2 hm0 hm1 hm2
  rw [fit_yes' (okW_of (by omega) (by omega))] at H
  exact H
/-- all that is told of one correction -/
theorem up_step {a b c d g0 g1 g2 m0 m1 m2 : Int} (h : okO a b c d = true) (hM : Meas g0 g1 g2 m0 m1 m2) : ∃ n0 n1 n2 n3 bf bh d0 d1 d2 fr : Int, okO n0 n1 n2 n3 = true ∧
    (∀ w, Calls Try.prog 11 #[.agg #[.int .i64 a, .int .i64 b, .int .i64 c, .int .i64 d], .agg #[.int .i64 g0, .int .i64 g1, .int .i64 g2]] w fun e w' => e = .returned (.tuple #[.agg #[.int .i64 n0, .int .i64 n1, .int .i64 n2, .int .i64 n3], .int .i64 0]) ∧ Ext w w') ∧ (∀ w, Calls Try.prog 10 #[.agg #[.int .i64 n0, .int .i64 n1, .int .i64 n2, .int .i64 n3], .agg #[.int .i64 0, .int .i64 0, .int .i64 1073741824]] w fun e w' => e = .returned (.tuple #[.agg #[.int .i64 (sh0 n0 n1 n2 n3), .int .i64 (sh1 n0 n1 n2 n3), .int .i64 (sh2 n0 n1 n2 n3)], .int .i64 0]) ∧ Ext w w') ∧ (∀ w, Calls Try.prog 12 #[.agg #[.int .i64 (sh0 a b c d), .int .i64 (sh1 a b c d), .int .i64 (sh2 a b c d)], .agg #[.int .i64 m0, .int .i64 m1, .int .i64 m2]] w fun e w' => e = .returned (.tuple #[.int .i64 bf, .int .i64 0]) ∧ Ext w w') ∧ (∀ w, Calls Try.prog 12 #[.agg #[.int .i64 (sh0 n0 n1 n2 n3), .int .i64 (sh1 n0 n1 n2 n3), .int .i64 (sh2 n0 n1 n2 n3)], .agg #[.int .i64 m0, .int .i64 m1, .int .i64 m2]] w fun e w' => e = .returned (.tuple #[.int .i64 bh, .int .i64 0]) ∧ Ext w w') ∧ (∀ w, Calls Try.prog 13 #[.agg #[.int .i64 (sh0 n0 n1 n2 n3), .int .i64 (sh1 n0 n1 n2 n3), .int .i64 (sh2 n0 n1 n2 n3)], .agg #[.int .i64 (sh0 a b c d), .int .i64 (sh1 a b c d), .int .i64 (sh2 a b c d)]] w fun e w' => e = .returned (.tuple #[.agg #[.int .i64 d0, .int .i64 d1, .int .i64 d2], .int .i64 0]) ∧ Ext w w') ∧ (∀ w, Calls Try.prog 14 #[.agg #[.int .i64 d0, .int .i64 d1, .int .i64 d2]] w fun e w' => e = .returned (.tuple #[.int .i64 fr, .int .i64 0]) ∧ Ext w w') ∧ (-4294967296 ≤ bf ∧ bf ≤ 4294967296) ∧ ¬ bh < bf - 1024 ∧ ¬ 33554432 < fr := by
  obtain ⟨bg0, bg1, bg2, hz, q1, q2, hm⟩ := hM
  obtain ⟨k, hk⟩ := rootQ_exists (sq3 g0 g1 g2) 1 (by decide)
  have e3 := sq3_int g0 g1 g2
  have hg : gat k = true := gat_yes (n := sq3 g0 g1 g2) (by omega) (by omega) hk
  obtain ⟨l0, l1, l2⟩ := unitv_le hz hm
  obtain ⟨s0, s1, s2⟩ := sh_le h
  have hc : UpC a b c d g0 g1 g2 _ _ _ := ⟨m0, m1, m2, hm, rfl, rfl, rfl⟩
  have w0 := lean_part (near_off (m1 * sh2 a b c d - m2 * sh1 a b c d)) (near_off (of0 m1 m2 (sh1 a b c d) (sh2 a b c d) * 8388608))
  have w1 := lean_part (near_off (m2 * sh0 a b c d - m0 * sh2 a b c d)) (near_off (of0 m2 m0 (sh2 a b c d) (sh0 a b c d) * 8388608))
  have w2 := lean_part (near_off (m0 * sh1 a b c d - m1 * sh0 a b c d)) (near_off (of0 m0 m1 (sh0 a b c d) (sh1 a b c d) * 8388608))
  have hl := upC_le h hz hc
  obtain ⟨x, hx⟩ : ∃ x, x = lean (of0 m1 m2 (sh1 a b c d) (sh2 a b c d)) := ⟨_, rfl⟩
  obtain ⟨y, hy⟩ : ∃ y, y = lean (of0 m2 m0 (sh2 a b c d) (sh0 a b c d)) := ⟨_, rfl⟩
  obtain ⟨z, hzz⟩ : ∃ z, z = lean (of0 m0 m1 (sh0 a b c d) (sh1 a b c d)) := ⟨_, rfl⟩
  rw [← hx, ← hy, ← hzz] at hc hl
  unfold lean at hx hy hzz
  rw [← hx] at w0
  rw [← hy] at w1
  rw [← hzz] at w2
  clear hx hy hzz
  obtain ⟨c0, c1, c2⟩ := hl
  obtain ⟨n0, n1, n2, n3, hu⟩ := unitq_ex (lean_prod h c0 c1 c2).2
  have hO := unitq_okO (lean_prod h c0 c1 c2).2 hu
  have hU := unitq_isU (lean_prod h c0 c1 c2).2 hu
  obtain ⟨t0, t1, t2⟩ := sh_le hO
  obtain ⟨d0, d1, d2⟩ := shown_near h c0 c1 c2 hu hU
  have hdot := up_dot s0 s1 s2 l0 l1 l2 w0 w1 w2 d0 d1 d2
  have hM := unitv_sq hz hm
  have hfar := up_far (sh_sq h) (by omega) w0 w1 w2 d0 d1 d2
  have hUp : UpD a b c d g0 g1 g2 n0 n1 n2 n3 := ⟨k, hk, .inr ⟨hg, x, y, z, hc, hu⟩⟩
  clear d0 d1 d2 w0 w1 w2 hU
  obtain ⟨kf, hkf⟩ := rootQ_exists (sq3 (sh0 n0 n1 n2 n3 - sh0 a b c d) (sh1 n0 n1 n2 n3 - sh1 a b c d) (sh2 n0 n1 n2 n3 - sh2 a b c d)) 1 (by decide)
  have f3 := sq3_int (sh0 n0 n1 n2 n3 - sh0 a b c d) (sh1 n0 n1 n2 n3 - sh1 a b c d) (sh2 n0 n1 n2 n3 - sh2 a b c d)
  have hkl := rootQ_small hkf (by omega)
  have k3 : ok3 (sh0 n0 n1 n2 n3 - sh0 a b c d) (sh1 n0 n1 n2 n3 - sh1 a b c d) (sh2 n0 n1 n2 n3 - sh2 a b c d) = true := ok3_of (by omega) (by omega) (by omega)
  refine ⟨n0, n1, n2, n3, nearQ (dot3 (sh0 a b c d) (sh1 a b c d) (sh2 a b c d) m0 m1 m2), nearQ (dot3 (sh0 n0 n1 n2 n3) (sh1 n0 n1 n2 n3) (sh2 n0 n1 n2 n3) m0 m1 m2), sh0 n0 n1 n2 n3 - sh0 a b c d, sh1 n0 n1 n2 n3 - sh1 a b c d, sh2 n0 n1 n2 n3 - sh2 a b c d, kf, hO, fun w => up_told w h (ok3_of (by omega) (by omega) (by omega)) hUp, fun w => back_told w hO, fun w => dot_told w s0 s1 s2 l0 l1 l2, fun w => dot_told w t0 t1 t2 l0 l1 l2, fun w => ?_, fun w => ?_, dot_fit s0 s1 s2 l0 l1 l2, ?_, by omega⟩
  · have H := vSub_yes (sh0 n0 n1 n2 n3) (sh1 n0 n1 n2 n3) (sh2 n0 n1 n2 n3) (sh0 a b c d) (sh1 a b c d) (sh2 a b c d) w (ok3_of (by omega) (by omega) (by omega)) (ok3_of (by omega) (by omega) (by omega))
    unfold vres at H
    rw [if_pos k3] at H
    exact H
  · have H := vNorm_yes _ _ _ kf w k3 hkf
    rw [fit_yes' (okW_of (by omega) (by omega))] at H
    exact H
  · have e1 : dot3 (sh0 a b c d) (sh1 a b c d) (sh2 a b c d) m0 m1 m2 = m0 * sh0 a b c d + m1 * sh1 a b c d + m2 * sh2 a b c d := by unfold dot3; rw [Int.mul_comm, Int.mul_comm (sh1 a b c d), Int.mul_comm (sh2 a b c d)]
    have e2 : dot3 (sh0 n0 n1 n2 n3) (sh1 n0 n1 n2 n3) (sh2 n0 n1 n2 n3) m0 m1 m2 = m0 * sh0 n0 n1 n2 n3 + m1 * sh1 n0 n1 n2 n3 + m2 * sh2 n0 n1 n2 n3 := by unfold dot3; rw [Int.mul_comm, Int.mul_comm (sh1 n0 n1 n2 n3), Int.mul_comm (sh2 n0 n1 n2 n3)]
    rw [e1, e2]
    have a1 := near_off (m0 * sh0 a b c d + m1 * sh1 a b c d + m2 * sh2 a b c d)
    have a2 := near_off (m0 * sh0 n0 n1 n2 n3 + m1 * sh1 n0 n1 n2 n3 + m2 * sh2 n0 n1 n2 n3)
    generalize m0 * sh0 a b c d + m1 * sh1 a b c d + m2 * sh2 a b c d = p at *
    generalize m0 * sh0 n0 n1 n2 n3 + m1 * sh1 n0 n1 n2 n3 + m2 * sh2 n0 n1 n2 n3 = p' at *
    clear e1 e2 f3 e3 hM hfar
    omega
/-- twice gravity is beyond the gate -/
theorem up_twice {a b c d g0 g1 g2 m0 m1 m2 : Int} (w : World) (h : okO a b c d = true) (hM : Meas g0 g1 g2 m0 m1 m2) :
    Calls Try.prog 11 #[.agg #[.int .i64 a, .int .i64 b, .int .i64 c, .int .i64 d], .agg #[.int .i64 (2 * g0), .int .i64 (2 * g1), .int .i64 (2 * g2)]] w fun e w' => e = .returned (.tuple #[.agg #[.int .i64 a, .int .i64 b, .int .i64 c, .int .i64 d], .int .i64 0]) ∧ Ext w w' := by
  obtain ⟨bg0, bg1, bg2, hz, q1, q2, hm⟩ := hM
  obtain ⟨k, hk⟩ := rootQ_exists (sq3 (2 * g0) (2 * g1) (2 * g2)) 1 (by decide)
  have e3 := sq3_int (2 * g0) (2 * g1) (2 * g2)
  have e4 : ∀ v : Int, 2 * v * (2 * v) = 4 * (v * v) := fun v => by grind
  rw [e4, e4, e4] at e3
  have hg : gat k = false := gat_no (n := sq3 (2 * g0) (2 * g1) (2 * g2)) (by omega) hk
  exact up_told w h (ok3_of (by omega) (by omega) (by omega)) ⟨k, hk, .inl ⟨hg, rfl, rfl, rfl, rfl⟩⟩
theorem twice_told {g0 g1 g2 m0 m1 m2 : Int} (w : World) (hM : Meas g0 g1 g2 m0 m1 m2) :
    Calls Try.prog 9 #[.agg #[.int .i64 g0, .int .i64 g1, .int .i64 g2], .int .i64 2147483648] w fun e w' => e = .returned (.tuple #[.agg #[.int .i64 (2 * g0), .int .i64 (2 * g1), .int .i64 (2 * g2)], .int .i64 0]) ∧ Ext w w' := by
  obtain ⟨bg0, bg1, bg2, _⟩ := hM
  have H := vScale_yes g0 g1 g2 2147483648 w (ok3_of (by omega) (by omega) (by omega)) (by decide)
  rw [nearQ_two, nearQ_two, nearQ_two] at H
  unfold vres at H
  rw [if_pos (ok3_of (by omega) (by omega) (by omega))] at H
  exact H
/-- what is measured, from any vector but 0 -/
theorem meas_told {x y z : Int} (hx : -9806650 ≤ x ∧ x ≤ 9806650) (hy : -9806650 ≤ y ∧ y ≤ 9806650) (hz : -9806650 ≤ z ∧ z ≤ 9806650) (h0 : ¬ (x = 0 ∧ y = 0 ∧ z = 0)) : ∃ u0 u1 u2 g0 g1 g2 m0 m1 m2 : Int, Meas g0 g1 g2 m0 m1 m2 ∧
    (∀ w, Calls Try.prog 7 #[.agg #[.int .i64 x, .int .i64 y, .int .i64 z]] w fun e w' => e = .returned (.tuple #[.agg #[.int .i64 u0, .int .i64 u1, .int .i64 u2], .int .i64 0]) ∧ Ext w w') ∧ (∀ w, Calls Try.prog 9 #[.agg #[.int .i64 u0, .int .i64 u1, .int .i64 u2], .int .i64 9806650] w fun e w' => e = .returned (.tuple #[.agg #[.int .i64 g0, .int .i64 g1, .int .i64 g2], .int .i64 0]) ∧ Ext w w') ∧ (∀ w, Calls Try.prog 7 #[.agg #[.int .i64 g0, .int .i64 g1, .int .i64 g2]] w fun e w' => e = .returned (.tuple #[.agg #[.int .i64 m0, .int .i64 m1, .int .i64 m2], .int .i64 0]) ∧ Ext w w') := by
  obtain ⟨u0, u1, u2, hu⟩ := unitv_ex h0
  obtain ⟨l0, l1, l2⟩ := unitv_le h0 hu
  have hs := unitv_sq h0 hu
  obtain ⟨q1, q2⟩ := grav_sq hs l0 l1 l2
  have b0 := nearQ_abs (p := u0 * 9806650) (B := 19613300) (by omega) (by omega)
  have b1 := nearQ_abs (p := u1 * 9806650) (B := 19613300) (by omega) (by omega)
  have b2 := nearQ_abs (p := u2 * 9806650) (B := 19613300) (by omega) (by omega)
  have hz' : ¬ (nearQ (u0 * 9806650) = 0 ∧ nearQ (u1 * 9806650) = 0 ∧ nearQ (u2 * 9806650) = 0) := by
    rintro ⟨e0, e1, e2⟩
    rw [e0, e1, e2] at q1
    omega
  obtain ⟨m0, m1, m2, hm⟩ := unitv_ex hz'
  refine ⟨u0, u1, u2, nearQ (u0 * 9806650), nearQ (u1 * 9806650), nearQ (u2 * 9806650), m0, m1, m2, ⟨b0, b1, b2, hz', q1, q2, hm⟩, fun w => vunit_told w (ok3_of (by omega) (by omega) (by omega)) h0 hu, fun w => ?_, fun w => vunit_told w (ok3_of (by omega) (by omega) (by omega)) hz' hm⟩
  have H := vScale_yes u0 u1 u2 9806650 w (ok3_of (by omega) (by omega) (by omega)) (by decide)
  unfold vres at H
  rw [if_pos (ok3_of (by omega) (by omega) (by omega))] at H
  exact H
end Go.Proofs.Ytmbdcgijjpcppaa
