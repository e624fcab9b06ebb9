/- gimbalref10: low, Low. -/
import Derived.Test.YtbbnbpghhdmhaaaLoCM
import Derived.Test.YtbbnbpghhdmhaaaRef1
namespace Go.Proofs.Ytbbnbpghhdmhaaa
open Go.RowKit Go.Shelf
theorem pw_nat (n : Nat) : pw (n : Int) = 2 ^ n := by unfold pw; rw [Int.toNat_natCast]
theorem isI_shape {w : World} {r : Value} {z : Int} (h : IsI w r z) : ∃ b a l c, r = .agg #[.bool b, .slice a l c] := by
  obtain ⟨u, rfl, hu⟩ := h
  obtain ⟨a, cap, rfl, gx⟩ := Row.shape hu
  exact ⟨_, _, _, _, rfl⟩
set_option maxRecDepth 20000 in
set_option maxHeartbeats 8000000 in
theorem rlow_any (y v : Int) (n : Nat) (w : World) (hn : n ≤ 15) (hy : okW y = true) (hv : okW v = true) :
    Calls Try.prog 15 #[.int .i64 y, .int .i64 (n : Int), .int .i64 v] w fun e w' => e = .returned (.int .i64 (lw n y v)) ∧ Ext w w' := by
  have k0 := okW_bounds hy
  have k1 := okW_bounds hv
  have hsh : okSh (n : Int) = true := okSh_iff.2 ⟨by omega, by omega⟩
  have k2 := pw_bounds (s := (n : Int)) (by omega) (by omega)
  have hzo := okW_bounds (lw_ok n y v hsh hy hv)
  have hz : IsNear ((pw n - 1) * y + v) (pw n) (lw n y v) := lw_near n y v (by omega) (by omega)
  have b1 : (pw n - 1) * y ≤ 32767 * 35184372088832 := by
    have m1 : (pw n - 1) * y ≤ (pw n - 1) * 35184372088832 := Int.mul_le_mul_of_nonneg_left (by omega) (by omega)
    omega
  have b2 : -(32767 * 35184372088832) ≤ (pw n - 1) * y := by
    have m1 : (pw n - 1) * (-35184372088832) ≤ (pw n - 1) * y := Int.mul_le_mul_of_nonneg_left (by omega) (by omega)
    omega
  generalize lw n y v = z at *
  have ep : pw n = ((2 ^ n : Nat) : Int) := by rw [pw_nat]; simp
  have e0 : ((2 : Int) ^ n) = ((2 ^ n : Nat) : Int) := by simp
  have HU : Hid (∀ u w, IsN w u 1 → Calls Try.prog 28 #[u, .int .i64 (n : Int)] w fun e w' => (∃ v', e = .returned v' ∧ IsN w' v' (2 ^ n)) ∧ Ext w w') := fun u w hu => by
    have h := up2_any 1 n u w hu (by have := (fit_word 1 (by decide) (by decide)).small (by omega); exact this) (by omega)
    rw [Nat.one_mul] at h
    exact h
  rw [ep] at k2 hz b1 b2
  clear ep hsh hy hv
  generalize (2 ^ n : Nat) = p at *
  have e1 : wrap64 (2 ^ n) = (p : Int) := by rw [e0]; exact wrap_le _ (by omega) (by omega)
  obtain ⟨p1, e2, f2⟩ : ∃ p1, wrap64 ((p : Int) - 1) = p1 ∧ p1 = (p : Int) - 1 := ⟨_, wrap_le _ (by omega) (by omega), rfl⟩
  rw [← f2] at hz b1 b2
  have F1 : Fit 64 p1 := fit_word p1 (by omega) (by omega)
  have F2 : Fit 64 y := fit_word y (by omega) (by omega)
  have F3 : Fit 64 v := fit_word v (by omega) (by omega)
  have F4 : Fit 64 (p1 * y) := fit_word _ (by omega) (by omega)
  have F5 : Fit 64 (p1 * y + v) := fit_word _ (by omega) (by omega)
  have fd : Fit 64 (p : Int) := fit_word _ (by omega) (by omega)
  have fz : SmallI z := (fit_word z (by omega) (by omega)).small (by omega)
  have HF1 : Hid (∀ w, Calls Try.prog 24 #[.int .i64 p1] w fun e w' => (∃ r, e = .returned r ∧ IsI w' r p1) ∧ Ext w w') := fun w => from_any p1 w (by omega) (by omega)
  have HF2 : Hid (∀ w, Calls Try.prog 24 #[.int .i64 y] w fun e w' => (∃ r, e = .returned r ∧ IsI w' r y) ∧ Ext w w') := fun w => from_any y w (by omega) (by omega)
  have HF3 : Hid (∀ w, Calls Try.prog 24 #[.int .i64 v] w fun e w' => (∃ r, e = .returned r ∧ IsI w' r v) ∧ Ext w w') := fun w => from_any v w (by omega) (by omega)
  have HT : Hid (∀ r1 r2 w, IsI w r1 p1 → IsI w r2 y → Calls Try.prog 23 #[r1, r2] w fun e w' => (∃ r', e = .returned r' ∧ IsI w' r' (p1 * y)) ∧ Ext w w') := fun r1 r2 w i1 i2 => times_isI p1 y r1 r2 w i1 i2 (F1.small (by omega)) (F2.small (by omega)) (F4.small (by omega))
  have HP : Hid (∀ r1 r2 w, IsI w r1 (p1 * y) → IsI w r2 v → Calls Try.prog 22 #[r1, r2] w fun e w' => (∃ r', e = .returned r' ∧ IsI w' r' (p1 * y + v)) ∧ Ext w w') := fun r1 r2 w i1 i2 => plus_isI (p1 * y) v r1 r2 w i1 i2 (F4.small (by omega)) (F3.small (by omega)) (F5.small (by omega))
  have HO : Hid (∀ w, Calls Try.prog 29 #[.int .u64 1] w fun e w' => (∃ v', e = .returned v' ∧ IsN w' v' 1) ∧ Ext w w') := fun w => nof_any 1 (by omega) w
  have hpp : 0 < p := by omega
  generalize p1 * y + v = s at *
  have hlow := near_lowest s p (by omega) z hz
  have hg : 0 < Nat.gcd s.natAbs p := Nat.gcd_pos_of_pos_right _ hpp
  have hgd : Nat.gcd s.natAbs p ≤ p := Nat.le_of_dvd hpp (Nat.gcd_dvd_right _ _)
  have hd0 : p / Nat.gcd s.natAbs p ≠ 0 := by
    have := Nat.div_pos hgd hg
    omega
  have hdp : (0 : Int) < ((p / Nat.gcd s.natAbs p : Nat) : Int) := Int.natCast_pos.2 (Nat.div_pos hgd hg)
  have HM : Hid (∀ r u w, IsI w r s → IsN w u p → Calls Try.prog 27 #[r, u] w fun e w' => (∃ q, e = .returned q ∧ IsQ w' q (s / (Nat.gcd s.natAbs p : Int)) (p / Nat.gcd s.natAbs p)) ∧ Ext w w') := fun r u w k1 k2 => make_isQ s p 64 r u w k1 k2 (by omega) (by omega) F5 fd
  have HN : Hid (∀ q w, IsQ w q (s / (Nat.gcd s.natAbs p : Int)) (p / Nat.gcd s.natAbs p) → Calls Try.prog 26 #[q] w fun e w' => (∃ r, e = .returned r ∧ IsI w' r z) ∧ Ext w w') := fun q w hq => by
    have h := near_isI _ _ 64 q w hq hd0 (by omega) (F5.of_le (natAbs_ediv_le _ _ (by omega))) (fd.of_le (by rw [Int.natAbs_natCast, Int.natAbs_natCast]; exact Nat.div_le_self _ _))
    rw [((nearI_spec _ _ hdp).unique hdp hlow)] at h
    exact h
  have es : smallR z = (z, true) := by unfold smallR; rw [if_pos (by omega)]
  have HS : Hid (∀ r w, IsI w r z → Calls Try.prog 25 #[r] w fun e w' => e = .returned (.tuple #[.int .i64 z, .bool true]) ∧ Ext w w') := fun r w hr => by
    have h := small_any z r w hr fz
    rw [es] at h
    exact h
  clear hz fd fz hlow hg hgd hd0 hdp es F1 F2 F3 F4 F5 e0 k0 k1 k2 hzo b1 b2 f2 hpp
  generalize s / (Nat.gcd s.natAbs p : Int) = c at *
  generalize p / Nat.gcd s.natAbs p = d at *
  generalize p1 * y = py at *
  have hnn : ((n : Int) < 0) = False := by simp
  go_enter Try.func15, Try.ntmps15
  go_wp2_with fail
  refine (HF1.out _).mono ?_
  rintro e w1 ⟨⟨r1, rfl, i1⟩, x1⟩
  have i1 : Hid (IsI w1 r1 p1) := i1
  obtain ⟨r1b, r1a, r1l, r1c, e1x⟩ := isI_shape i1.out
  subst e1x
  go_wp2_with fail
  refine (HF2.out _).mono ?_
  rintro e w2 ⟨⟨r2, rfl, i2⟩, x2⟩
  have i2 : Hid (IsI w2 r2 y) := i2
  obtain ⟨r2b, r2a, r2l, r2c, e2x⟩ := isI_shape i2.out
  subst e2x
  go_wp2_with fail
  refine (HT.out _ _ _ (i1.out.ext x2) i2.out).mono ?_
  rintro e w3 ⟨⟨r3, rfl, i3⟩, x3⟩
  have i3 : Hid (IsI w3 r3 py) := i3
  obtain ⟨r3b, r3a, r3l, r3c, e3x⟩ := isI_shape i3.out
  subst e3x
  have X3 : Hid (Ext w w3) := (x1.trans x2).trans x3
  clear x1 x2 x3 i1 i2 HF1 HF2 HT
  go_wp2_with fail
  refine (HF3.out _).mono ?_
  rintro e w4 ⟨⟨r4, rfl, i4⟩, x4⟩
  have i4 : Hid (IsI w4 r4 v) := i4
  obtain ⟨r4b, r4a, r4l, r4c, e4x⟩ := isI_shape i4.out
  subst e4x
  go_wp2_with fail
  refine (HP.out _ _ _ (i3.out.ext x4) i4.out).mono ?_
  rintro e w5 ⟨⟨r5, rfl, i5⟩, x5⟩
  have i5 : Hid (IsI w5 r5 s) := i5
  obtain ⟨r5b, r5a, r5l, r5c, e5x⟩ := isI_shape i5.out
  subst e5x
  have X5 : Hid (Ext w w5) := (X3.out.trans x4).trans x5
  clear x4 x5 X3 i3 i4 HF3 HP
  go_upto_region 2 with fail
  have V : Hid (HV (w5.alloc (.cells #[.bool r5b, .slice r5a r5l r5c] 54)) w5.heap.size [.bool r5b, .slice r5a r5l r5c]) := hv_at rfl
  have X6 : Hid (Ext w (w5.alloc (.cells #[.bool r5b, .slice r5a r5l r5c] 54))) := X5.out.alloc _
  have i6 : Hid (IsI (w5.alloc (.cells #[.bool r5b, .slice r5a r5l r5c] 54)) (.agg #[.bool r5b, .slice r5a r5l r5c]) s) := i5.out.ext ((Ext.refl _).alloc _)
  clear i5 X5
  generalize (w5.alloc (.cells #[.bool r5b, .slice r5a r5l r5c] 54)) = wa at *
  generalize w5.heap.size = nv at *
  have q0 : wa.cell? ⟨nv, 0, none⟩ = some (.bool r5b) := V.out.c 0 rfl
  have q1 : wa.cell? ⟨nv, 1, none⟩ = some (.slice r5a r5l r5c) := V.out.c 1 rfl
  go_region_held3 (fun w' => w'.cell? ⟨nv, 0, none⟩ = some (.bool r5b) ∧ w'.cell? ⟨nv, 1, none⟩ = some (.slice r5a r5l r5c)) (first | (go_keep; done) | skip) (first | (go_at_call 29; refine (HO.out _).mono ?_; rintro e m1 ⟨⟨t1, rfl, j1⟩, zm1⟩; have J1 : Hid (IsN m1 t1 1) := j1; have Ym1 : Ext wa m1 := Ext.trans (by repeat (first | with_reducible assumption | with_reducible exact Ext.refl _ | with_reducible refine Ext.drew ?_ | with_reducible refine Ext.drewN ?_ _ | with_reducible refine Ext.alloc ?_ _ | with_reducible refine Ext.set ?_ (by first | exact Nat.le_refl _ | (dsimp only; omega) | (simp; done)) _)) zm1; have am1 : m1.cell? ⟨nv, 0, none⟩ = some (.bool r5b) := (V.out.ext Ym1).c 0 rfl; have bm1 : m1.cell? ⟨nv, 1, none⟩ = some (.slice r5a r5l r5c) := (V.out.ext Ym1).c 1 rfl) | (go_at_call 28; refine (HU.out _ _ (J1.out.ext (by repeat (first | with_reducible assumption | with_reducible exact Ext.refl _ | with_reducible refine Ext.drew ?_ | with_reducible refine Ext.drewN ?_ _ | with_reducible refine Ext.alloc ?_ _ | with_reducible refine Ext.set ?_ (by first | exact Nat.le_refl _ | (dsimp only; omega) | (simp; done)) _)))).mono ?_; rintro e m2 ⟨⟨t2, rfl, j2⟩, zm2⟩; have J2 : Hid (IsN m2 t2 p) := j2; have Ym2 : Ext wa m2 := Ext.trans (by repeat (first | with_reducible assumption | with_reducible exact Ext.refl _ | with_reducible refine Ext.drew ?_ | with_reducible refine Ext.drewN ?_ _ | with_reducible refine Ext.alloc ?_ _ | with_reducible refine Ext.set ?_ (by first | exact Nat.le_refl _ | (dsimp only; omega) | (simp; done)) _)) zm2; have am2 : m2.cell? ⟨nv, 0, none⟩ = some (.bool r5b) := (V.out.ext Ym2).c 0 rfl; have bm2 : m2.cell? ⟨nv, 1, none⟩ = some (.slice r5a r5l r5c) := (V.out.ext Ym2).c 1 rfl) | (go_at_call 27; refine (HM.out _ _ _ (i6.out.ext (Ext.trans Ym2 (by repeat (first | with_reducible assumption | with_reducible exact Ext.refl _ | with_reducible refine Ext.drew ?_ | with_reducible refine Ext.drewN ?_ _ | with_reducible refine Ext.alloc ?_ _ | with_reducible refine Ext.set ?_ (by first | exact Nat.le_refl _ | (dsimp only; omega) | (simp; done)) _)))) (J2.out.ext (by repeat (first | with_reducible assumption | with_reducible exact Ext.refl _ | with_reducible refine Ext.drew ?_ | with_reducible refine Ext.drewN ?_ _ | with_reducible refine Ext.alloc ?_ _ | with_reducible refine Ext.set ?_ (by first | exact Nat.le_refl _ | (dsimp only; omega) | (simp; done)) _)))).mono ?_; rintro e m3 ⟨⟨t3, rfl, j3⟩, zm3⟩; have J3 : Hid (IsQ m3 t3 c d) := j3; have Ym3 : Ext wa m3 := Ext.trans (by repeat (first | with_reducible assumption | with_reducible exact Ext.refl _ | with_reducible refine Ext.drew ?_ | with_reducible refine Ext.drewN ?_ _ | with_reducible refine Ext.alloc ?_ _ | with_reducible refine Ext.set ?_ (by first | exact Nat.le_refl _ | (dsimp only; omega) | (simp; done)) _)) zm3; have am3 : m3.cell? ⟨nv, 0, none⟩ = some (.bool r5b) := (V.out.ext Ym3).c 0 rfl; have bm3 : m3.cell? ⟨nv, 1, none⟩ = some (.slice r5a r5l r5c) := (V.out.ext Ym3).c 1 rfl) | (go_at_call 26; refine (HN.out _ _ (J3.out.ext (by repeat (first | with_reducible assumption | with_reducible exact Ext.refl _ | with_reducible refine Ext.drew ?_ | with_reducible refine Ext.drewN ?_ _ | with_reducible refine Ext.alloc ?_ _ | with_reducible refine Ext.set ?_ (by first | exact Nat.le_refl _ | (dsimp only; omega) | (simp; done)) _)))).mono ?_; rintro e m4 ⟨⟨t4, rfl, j4⟩, zm4⟩; have J4 : Hid (IsI m4 t4 z) := j4; have Ym4 : Ext wa m4 := Ext.trans (by repeat (first | with_reducible assumption | with_reducible exact Ext.refl _ | with_reducible refine Ext.drew ?_ | with_reducible refine Ext.drewN ?_ _ | with_reducible refine Ext.alloc ?_ _ | with_reducible refine Ext.set ?_ (by first | exact Nat.le_refl _ | (dsimp only; omega) | (simp; done)) _)) zm4; have am4 : m4.cell? ⟨nv, 0, none⟩ = some (.bool r5b) := (V.out.ext Ym4).c 0 rfl; have bm4 : m4.cell? ⟨nv, 1, none⟩ = some (.slice r5a r5l r5c) := (V.out.ext Ym4).c 1 rfl) | (go_at_call 25; refine (HS.out _ _ (J4.out.ext (by repeat (first | with_reducible assumption | with_reducible exact Ext.refl _ | with_reducible refine Ext.drew ?_ | with_reducible refine Ext.drewN ?_ _ | with_reducible refine Ext.alloc ?_ _ | with_reducible refine Ext.set ?_ (by first | exact Nat.le_refl _ | (dsimp only; omega) | (simp; done)) _)))).mono ?_; rintro e m5 ⟨rfl, zm5⟩; have Ym5 : Ext wa m5 := Ext.trans (by repeat (first | with_reducible assumption | with_reducible exact Ext.refl _ | with_reducible refine Ext.drew ?_ | with_reducible refine Ext.drewN ?_ _ | with_reducible refine Ext.alloc ?_ _ | with_reducible refine Ext.set ?_ (by first | exact Nat.le_refl _ | (dsimp only; omega) | (simp; done)) _)) zm5; have am5 : m5.cell? ⟨nv, 0, none⟩ = some (.bool r5b) := (V.out.ext Ym5).c 0 rfl; have bm5 : m5.cell? ⟨nv, 1, none⟩ = some (.slice r5a r5l r5c) := (V.out.ext Ym5).c 1 rfl))
  all_goals
    have X7 : Hid (Ext w m5) := X6.out.trans Ym5
    go_wp2_with fail
    go_ret
    exact ⟨rfl, X7.out⟩
/-- what Low tells of what may be -/
def lowR (on : Bool) (y0 y1 y2 s v0 v1 v2 : Int) : Value := if on then .agg #[.bool true, .int .i64 (lw s y0 v0), .int .i64 (lw s y1 v1), .int .i64 (lw s y2 v2)] else .agg #[.bool true, .int .i64 v0, .int .i64 v1, .int .i64 v2]
set_option maxRecDepth 20000 in
set_option maxHeartbeats 8000000 in
theorem rLow_any (on : Bool) (y0 y1 y2 : Int) (n : Nat) (v0 v1 v2 : Int) (w : World) (hn : n ≤ 15) (hy : ok3 y0 y1 y2 = true) (hv : ok3 v0 v1 v2 = true) :
    Calls Try.prog 7 #[.agg #[.bool on, .int .i64 y0, .int .i64 y1, .int .i64 y2], .int .i64 (n : Int), .agg #[.int .i64 v0, .int .i64 v1, .int .i64 v2]] w fun e w' => e = .returned (lowR on y0 y1 y2 n v0 v1 v2) ∧ Ext w w' := by
  obtain ⟨k0, k1, k2⟩ := ok3_parts hy
  obtain ⟨l0, l1, l2⟩ := ok3_parts hv
  have H0 : Hid (∀ w, Calls Try.prog 15 #[.int .i64 y0, .int .i64 (n : Int), .int .i64 v0] w fun e w' => e = .returned (.int .i64 (lw n y0 v0)) ∧ Ext w w') := fun w => rlow_any y0 v0 n w hn k0 l0
  have H1 : Hid (∀ w, Calls Try.prog 15 #[.int .i64 y1, .int .i64 (n : Int), .int .i64 v1] w fun e w' => e = .returned (.int .i64 (lw n y1 v1)) ∧ Ext w w') := fun w => rlow_any y1 v1 n w hn k1 l1
  have H2 : Hid (∀ w, Calls Try.prog 15 #[.int .i64 y2, .int .i64 (n : Int), .int .i64 v2] w fun e w' => e = .returned (.int .i64 (lw n y2 v2)) ∧ Ext w w') := fun w => rlow_any y2 v2 n w hn k2 l2
  have ex : Hid (lowR on y0 y1 y2 n v0 v1 v2 = if on then .agg #[.bool true, .int .i64 (lw n y0 v0), .int .i64 (lw n y1 v1), .int .i64 (lw n y2 v2)] else .agg #[.bool true, .int .i64 v0, .int .i64 v1, .int .i64 v2]) := rfl
  generalize lowR on y0 y1 y2 n v0 v1 v2 = R at *
  generalize lw n y0 v0 = r0 at *
  generalize lw n y1 v1 = r1 at *
  generalize lw n y2 v2 = r2 at *
  have lt2 : Hid (w.heap.size ≤ w.heap.size + 2) := Nat.le_add_right _ _
  clear hn hy hv k0 k1 k2 l0 l1 l2
  cases on
  · have ef : R = .agg #[.bool true, .int .i64 v0, .int .i64 v1, .int .i64 v2] := ex.out
    subst ef
    clear ex H0 H1 H2
    have B1 : Hid (HV (((w.alloc (.cells #[.bool false, .int .i64 y0, .int .i64 y1, .int .i64 y2] 26)).alloc (.cells #[.int .i64 v0, .int .i64 v1, .int .i64 v2] 24)).alloc (.cells #[.bool false, .int .i64 0, .int .i64 0, .int .i64 0] 26)) w.heap.size [.bool false, .int .i64 y0, .int .i64 y1, .int .i64 y2]) := ((hv_at rfl).alloc _).alloc _
    have B2 : Hid (HV (((w.alloc (.cells #[.bool false, .int .i64 y0, .int .i64 y1, .int .i64 y2] 26)).alloc (.cells #[.int .i64 v0, .int .i64 v1, .int .i64 v2] 24)).alloc (.cells #[.bool false, .int .i64 0, .int .i64 0, .int .i64 0] 26)) (w.heap.size + 1) [.int .i64 v0, .int .i64 v1, .int .i64 v2]) := (hv_at (by simp)).alloc _
    have B3 : Hid (HV (((w.alloc (.cells #[.bool false, .int .i64 y0, .int .i64 y1, .int .i64 y2] 26)).alloc (.cells #[.int .i64 v0, .int .i64 v1, .int .i64 v2] 24)).alloc (.cells #[.bool false, .int .i64 0, .int .i64 0, .int .i64 0] 26)) (w.heap.size + 2) [.bool false, .int .i64 0, .int .i64 0, .int .i64 0]) := hv_at (by simp)
    have HX : Hid (Ext w (((w.alloc (.cells #[.bool false, .int .i64 y0, .int .i64 y1, .int .i64 y2] 26)).alloc (.cells #[.int .i64 v0, .int .i64 v1, .int .i64 v2] 24)).alloc (.cells #[.bool false, .int .i64 0, .int .i64 0, .int .i64 0] 26))) := (((Ext.refl w).alloc _).alloc _).alloc _
    go_enter Try.func7, Try.ntmps7
    go_upto_region 1 with fail
    generalize (((w.alloc (.cells #[.bool false, .int .i64 y0, .int .i64 y1, .int .i64 y2] 26)).alloc (.cells #[.int .i64 v0, .int .i64 v1, .int .i64 v2] 24)).alloc (.cells #[.bool false, .int .i64 0, .int .i64 0, .int .i64 0] 26)) = wa at *
    have c0 : wa.cell? ⟨w.heap.size, 0, none⟩ = some (.bool false) := B1.out.c 0 rfl
    have d0 : wa.cell? ⟨w.heap.size + 1, 0, none⟩ = some (.int .i64 v0) := B2.out.c 0 rfl
    have d1 : wa.cell? ⟨w.heap.size + 1, 1, none⟩ = some (.int .i64 v1) := B2.out.c 1 rfl
    have d2 : wa.cell? ⟨w.heap.size + 1, 2, none⟩ = some (.int .i64 v2) := B2.out.c 2 rfl
    have o0 : wa.cell? ⟨w.heap.size + 2, 0, none⟩ = some (.bool false) := B3.out.c 0 rfl
    have o1 : wa.cell? ⟨w.heap.size + 2, 1, none⟩ = some (.int .i64 0) := B3.out.c 1 rfl
    have o2 : wa.cell? ⟨w.heap.size + 2, 2, none⟩ = some (.int .i64 0) := B3.out.c 2 rfl
    have o3 : wa.cell? ⟨w.heap.size + 2, 3, none⟩ = some (.int .i64 0) := B3.out.c 3 rfl
    have z0 : wa.frozen? ⟨w.heap.size + 2, 0, none⟩ = false := B3.out.f 0 rfl
    have z1 : wa.frozen? ⟨w.heap.size + 2, 1, none⟩ = false := B3.out.f 1 rfl
    have z2 : wa.frozen? ⟨w.heap.size + 2, 2, none⟩ = false := B3.out.f 2 rfl
    have z3 : wa.frozen? ⟨w.heap.size + 2, 3, none⟩ = false := B3.out.f 3 rfl
    go_wp2_with fail
    refine bodyPost_ret (v := .agg #[.bool true, .int .i64 v0, .int .i64 v1, .int .i64 v2]) (by simp [results, Try.results7, go_sem, o0, o1, o2, o3]) rfl ⟨rfl, ?_⟩
    exact (Ext.set (Ext.set (Ext.set (Ext.set HX.out lt2.out _) lt2.out _) lt2.out _) lt2.out _)
  · have ef : R = .agg #[.bool true, .int .i64 r0, .int .i64 r1, .int .i64 r2] := ex.out
    subst ef
    clear ex
    have B1 : Hid (HV (((w.alloc (.cells #[.bool true, .int .i64 y0, .int .i64 y1, .int .i64 y2] 26)).alloc (.cells #[.int .i64 v0, .int .i64 v1, .int .i64 v2] 24)).alloc (.cells #[.bool false, .int .i64 0, .int .i64 0, .int .i64 0] 26)) w.heap.size [.bool true, .int .i64 y0, .int .i64 y1, .int .i64 y2]) := ((hv_at rfl).alloc _).alloc _
    have B2 : Hid (HV (((w.alloc (.cells #[.bool true, .int .i64 y0, .int .i64 y1, .int .i64 y2] 26)).alloc (.cells #[.int .i64 v0, .int .i64 v1, .int .i64 v2] 24)).alloc (.cells #[.bool false, .int .i64 0, .int .i64 0, .int .i64 0] 26)) (w.heap.size + 1) [.int .i64 v0, .int .i64 v1, .int .i64 v2]) := (hv_at (by simp)).alloc _
    have B3 : Hid (HV (((w.alloc (.cells #[.bool true, .int .i64 y0, .int .i64 y1, .int .i64 y2] 26)).alloc (.cells #[.int .i64 v0, .int .i64 v1, .int .i64 v2] 24)).alloc (.cells #[.bool false, .int .i64 0, .int .i64 0, .int .i64 0] 26)) (w.heap.size + 2) [.bool false, .int .i64 0, .int .i64 0, .int .i64 0]) := hv_at (by simp)
    have HX : Hid (Ext w (((w.alloc (.cells #[.bool true, .int .i64 y0, .int .i64 y1, .int .i64 y2] 26)).alloc (.cells #[.int .i64 v0, .int .i64 v1, .int .i64 v2] 24)).alloc (.cells #[.bool false, .int .i64 0, .int .i64 0, .int .i64 0] 26))) := (((Ext.refl w).alloc _).alloc _).alloc _
    go_enter Try.func7, Try.ntmps7
    go_upto_region 1 with fail
    generalize (((w.alloc (.cells #[.bool true, .int .i64 y0, .int .i64 y1, .int .i64 y2] 26)).alloc (.cells #[.int .i64 v0, .int .i64 v1, .int .i64 v2] 24)).alloc (.cells #[.bool false, .int .i64 0, .int .i64 0, .int .i64 0] 26)) = wa at *
    have c0 : wa.cell? ⟨w.heap.size, 0, none⟩ = some (.bool true) := B1.out.c 0 rfl
    go_upto_region 3 with fail
    clear c0
    have c1 : wa.cell? ⟨w.heap.size, 1, none⟩ = some (.int .i64 y0) := B1.out.c 1 rfl
    have c2 : wa.cell? ⟨w.heap.size, 2, none⟩ = some (.int .i64 y1) := B1.out.c 2 rfl
    have c3 : wa.cell? ⟨w.heap.size, 3, none⟩ = some (.int .i64 y2) := B1.out.c 3 rfl
    have d0 : wa.cell? ⟨w.heap.size + 1, 0, none⟩ = some (.int .i64 v0) := B2.out.c 0 rfl
    have d1 : wa.cell? ⟨w.heap.size + 1, 1, none⟩ = some (.int .i64 v1) := B2.out.c 1 rfl
    have d2 : wa.cell? ⟨w.heap.size + 1, 2, none⟩ = some (.int .i64 v2) := B2.out.c 2 rfl
    have o0 : wa.cell? ⟨w.heap.size + 2, 0, none⟩ = some (.bool false) := B3.out.c 0 rfl
    have o1 : wa.cell? ⟨w.heap.size + 2, 1, none⟩ = some (.int .i64 0) := B3.out.c 1 rfl
    have o2 : wa.cell? ⟨w.heap.size + 2, 2, none⟩ = some (.int .i64 0) := B3.out.c 2 rfl
    have o3 : wa.cell? ⟨w.heap.size + 2, 3, none⟩ = some (.int .i64 0) := B3.out.c 3 rfl
    have z0 : wa.frozen? ⟨w.heap.size + 2, 0, none⟩ = false := B3.out.f 0 rfl
    have z1 : wa.frozen? ⟨w.heap.size + 2, 1, none⟩ = false := B3.out.f 1 rfl
    have z2 : wa.frozen? ⟨w.heap.size + 2, 2, none⟩ = false := B3.out.f 2 rfl
    have z3 : wa.frozen? ⟨w.heap.size + 2, 3, none⟩ = false := B3.out.f 3 rfl
    go_region_held3 (fun w' => w'.cell? ⟨w.heap.size, 1, none⟩ = some (.int .i64 y0) ∧ w'.cell? ⟨w.heap.size, 2, none⟩ = some (.int .i64 y1) ∧ w'.cell? ⟨w.heap.size, 3, none⟩ = some (.int .i64 y2) ∧ w'.cell? ⟨w.heap.size + 1, 0, none⟩ = some (.int .i64 v0) ∧ w'.cell? ⟨w.heap.size + 1, 1, none⟩ = some (.int .i64 v1) ∧ w'.cell? ⟨w.heap.size + 1, 2, none⟩ = some (.int .i64 v2)) (first | (simp [*]; done) | (refine ⟨?_, ?_, ?_, ?_, ?_, ?_⟩ <;> (rw [World.cell?_setCell_far _ _ _ _ (by dsimp only; omega), World.cell?_setCell_far _ _ _ _ (by dsimp only; omega), World.cell?_setCell_far _ _ _ _ (by dsimp only; omega), World.cell?_setCell_far _ _ _ _ (by dsimp only; omega)]; with_reducible assumption)) | skip) (first | (go_at_call_of 15 (Value.int IntKind.i64 y0); refine (H0.out _).mono ?_; rintro e m0 ⟨rfl, zm0⟩; have Ym0 : Ext wa m0 := Ext.trans (by repeat (first | with_reducible assumption | with_reducible exact Ext.refl _ | with_reducible refine Ext.drew ?_ | with_reducible refine Ext.drewN ?_ _ | with_reducible refine Ext.alloc ?_ _ | with_reducible refine Ext.set ?_ (by first | exact Nat.le_refl _ | (dsimp only; omega) | (simp; done)) _)) zm0; have cm01 : m0.cell? ⟨w.heap.size, 1, none⟩ = some (.int .i64 y0) := (B1.out.ext Ym0).c 1 rfl; have cm02 : m0.cell? ⟨w.heap.size, 2, none⟩ = some (.int .i64 y1) := (B1.out.ext Ym0).c 2 rfl; have cm03 : m0.cell? ⟨w.heap.size, 3, none⟩ = some (.int .i64 y2) := (B1.out.ext Ym0).c 3 rfl; have dm00 : m0.cell? ⟨w.heap.size + 1, 0, none⟩ = some (.int .i64 v0) := (B2.out.ext Ym0).c 0 rfl; have dm01 : m0.cell? ⟨w.heap.size + 1, 1, none⟩ = some (.int .i64 v1) := (B2.out.ext Ym0).c 1 rfl; have dm02 : m0.cell? ⟨w.heap.size + 1, 2, none⟩ = some (.int .i64 v2) := (B2.out.ext Ym0).c 2 rfl; have om00 : m0.cell? ⟨w.heap.size + 2, 0, none⟩ = some (.bool false) := (B3.out.ext Ym0).c 0 rfl; have om01 : m0.cell? ⟨w.heap.size + 2, 1, none⟩ = some (.int .i64 0) := (B3.out.ext Ym0).c 1 rfl; have om02 : m0.cell? ⟨w.heap.size + 2, 2, none⟩ = some (.int .i64 0) := (B3.out.ext Ym0).c 2 rfl; have om03 : m0.cell? ⟨w.heap.size + 2, 3, none⟩ = some (.int .i64 0) := (B3.out.ext Ym0).c 3 rfl; have pm00 : m0.frozen? ⟨w.heap.size + 2, 0, none⟩ = false := (B3.out.ext Ym0).f 0 rfl; have pm01 : m0.frozen? ⟨w.heap.size + 2, 1, none⟩ = false := (B3.out.ext Ym0).f 1 rfl; have pm02 : m0.frozen? ⟨w.heap.size + 2, 2, none⟩ = false := (B3.out.ext Ym0).f 2 rfl; have pm03 : m0.frozen? ⟨w.heap.size + 2, 3, none⟩ = false := (B3.out.ext Ym0).f 3 rfl) | (go_at_call_of 15 (Value.int IntKind.i64 y1); refine (H1.out _).mono ?_; rintro e m1 ⟨rfl, zm1⟩; have Ym1 : Ext wa m1 := Ext.trans (by repeat (first | with_reducible assumption | with_reducible exact Ext.refl _ | with_reducible refine Ext.drew ?_ | with_reducible refine Ext.drewN ?_ _ | with_reducible refine Ext.alloc ?_ _ | with_reducible refine Ext.set ?_ (by first | exact Nat.le_refl _ | (dsimp only; omega) | (simp; done)) _)) zm1; have cm11 : m1.cell? ⟨w.heap.size, 1, none⟩ = some (.int .i64 y0) := (B1.out.ext Ym1).c 1 rfl; have cm12 : m1.cell? ⟨w.heap.size, 2, none⟩ = some (.int .i64 y1) := (B1.out.ext Ym1).c 2 rfl; have cm13 : m1.cell? ⟨w.heap.size, 3, none⟩ = some (.int .i64 y2) := (B1.out.ext Ym1).c 3 rfl; have dm10 : m1.cell? ⟨w.heap.size + 1, 0, none⟩ = some (.int .i64 v0) := (B2.out.ext Ym1).c 0 rfl; have dm11 : m1.cell? ⟨w.heap.size + 1, 1, none⟩ = some (.int .i64 v1) := (B2.out.ext Ym1).c 1 rfl; have dm12 : m1.cell? ⟨w.heap.size + 1, 2, none⟩ = some (.int .i64 v2) := (B2.out.ext Ym1).c 2 rfl; have om10 : m1.cell? ⟨w.heap.size + 2, 0, none⟩ = some (.bool false) := (B3.out.ext Ym1).c 0 rfl; have om11 : m1.cell? ⟨w.heap.size + 2, 1, none⟩ = some (.int .i64 0) := (B3.out.ext Ym1).c 1 rfl; have om12 : m1.cell? ⟨w.heap.size + 2, 2, none⟩ = some (.int .i64 0) := (B3.out.ext Ym1).c 2 rfl; have om13 : m1.cell? ⟨w.heap.size + 2, 3, none⟩ = some (.int .i64 0) := (B3.out.ext Ym1).c 3 rfl; have pm10 : m1.frozen? ⟨w.heap.size + 2, 0, none⟩ = false := (B3.out.ext Ym1).f 0 rfl; have pm11 : m1.frozen? ⟨w.heap.size + 2, 1, none⟩ = false := (B3.out.ext Ym1).f 1 rfl; have pm12 : m1.frozen? ⟨w.heap.size + 2, 2, none⟩ = false := (B3.out.ext Ym1).f 2 rfl; have pm13 : m1.frozen? ⟨w.heap.size + 2, 3, none⟩ = false := (B3.out.ext Ym1).f 3 rfl) | (go_at_call_of 15 (Value.int IntKind.i64 y2); refine (H2.out _).mono ?_; rintro e m2 ⟨rfl, zm2⟩; have Ym2 : Ext wa m2 := Ext.trans (by repeat (first | with_reducible assumption | with_reducible exact Ext.refl _ | with_reducible refine Ext.drew ?_ | with_reducible refine Ext.drewN ?_ _ | with_reducible refine Ext.alloc ?_ _ | with_reducible refine Ext.set ?_ (by first | exact Nat.le_refl _ | (dsimp only; omega) | (simp; done)) _)) zm2; have cm21 : m2.cell? ⟨w.heap.size, 1, none⟩ = some (.int .i64 y0) := (B1.out.ext Ym2).c 1 rfl; have cm22 : m2.cell? ⟨w.heap.size, 2, none⟩ = some (.int .i64 y1) := (B1.out.ext Ym2).c 2 rfl; have cm23 : m2.cell? ⟨w.heap.size, 3, none⟩ = some (.int .i64 y2) := (B1.out.ext Ym2).c 3 rfl; have dm20 : m2.cell? ⟨w.heap.size + 1, 0, none⟩ = some (.int .i64 v0) := (B2.out.ext Ym2).c 0 rfl; have dm21 : m2.cell? ⟨w.heap.size + 1, 1, none⟩ = some (.int .i64 v1) := (B2.out.ext Ym2).c 1 rfl; have dm22 : m2.cell? ⟨w.heap.size + 1, 2, none⟩ = some (.int .i64 v2) := (B2.out.ext Ym2).c 2 rfl; have om20 : m2.cell? ⟨w.heap.size + 2, 0, none⟩ = some (.bool false) := (B3.out.ext Ym2).c 0 rfl; have om21 : m2.cell? ⟨w.heap.size + 2, 1, none⟩ = some (.int .i64 0) := (B3.out.ext Ym2).c 1 rfl; have om22 : m2.cell? ⟨w.heap.size + 2, 2, none⟩ = some (.int .i64 0) := (B3.out.ext Ym2).c 2 rfl; have om23 : m2.cell? ⟨w.heap.size + 2, 3, none⟩ = some (.int .i64 0) := (B3.out.ext Ym2).c 3 rfl; have pm20 : m2.frozen? ⟨w.heap.size + 2, 0, none⟩ = false := (B3.out.ext Ym2).f 0 rfl; have pm21 : m2.frozen? ⟨w.heap.size + 2, 1, none⟩ = false := (B3.out.ext Ym2).f 1 rfl; have pm22 : m2.frozen? ⟨w.heap.size + 2, 2, none⟩ = false := (B3.out.ext Ym2).f 2 rfl; have pm23 : m2.frozen? ⟨w.heap.size + 2, 3, none⟩ = false := (B3.out.ext Ym2).f 3 rfl))
    all_goals
      go_wp2_with fail
      refine bodyPost_ret (v := .agg #[.bool true, .int .i64 r0, .int .i64 r1, .int .i64 r2]) (by simp [results, Try.results7, go_sem, *]) rfl ⟨rfl, ?_⟩
      exact (Ext.set (Ext.set (Ext.set (Ext.set (HX.out.trans Ym2) lt2.out _) lt2.out _) lt2.out _) lt2.out _)
end Go.Proofs.Ytbbnbpghhdmhaaa
