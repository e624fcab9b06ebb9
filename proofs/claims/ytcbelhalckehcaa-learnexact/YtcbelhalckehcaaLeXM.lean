/- gimbalref10: what layer 11 needs, in one text. -/
import Derived.Test.YtcbelhalckehcaaLe4M
import Derived.Test.YtcbelhalckehcaaRef1
namespace Go.Proofs.Ytcbelhalckehcaa
open Go.RowKit Go.Shelf
set_option maxHeartbeats 4000000 in
theorem rnear32 (s : Int) (w : World) (h1 : -4503599627370496 ≤ s) (h2 : s ≤ 4503599627370496) :
    Calls Try.prog 30 #[.int .i64 s, .int .i64 32] w fun e w' => e = .returned (.int .i64 (nr s)) ∧ Ext w w' := by
  have hz : IsNear s ((32 : Nat) : Int) (nr s) := nearI_spec s 32 (by decide)
  have hb : -1125899906842624 ≤ nr s ∧ nr s ≤ 1125899906842624 := by unfold nr nearI; omega
  have fs : Fit 64 s := fit_word s (by omega) (by omega)
  have fd : Fit 64 ((32 : Nat) : Int) := fit_word _ (by decide) (by decide)
  have fz : SmallI (nr s) := (fit_word (nr s) (by omega) (by omega)).small (by omega)
  have HF : Hid (∀ w, Calls Try.prog 40 #[.int .i64 s] w fun e w' => (∃ r, e = .returned r ∧ IsI w' r s) ∧ Ext w w') := fun w => from_any s w (by omega) (by omega)
  have HO : Hid (∀ w, Calls Try.prog 41 #[.int .u64 32] w fun e w' => (∃ v', e = .returned v' ∧ IsN w' v' 32) ∧ Ext w w') := fun w => nof_any 32 (by omega) w
  have hlow := near_lowest s 32 (by decide) (nr s) hz
  have hg : 0 < Nat.gcd s.natAbs 32 := Nat.gcd_pos_of_pos_right _ (by decide)
  have hgd : Nat.gcd s.natAbs 32 ≤ 32 := Nat.le_of_dvd (by decide) (Nat.gcd_dvd_right _ _)
  have hd0 : 32 / Nat.gcd s.natAbs 32 ≠ 0 := by
    have := Nat.div_pos hgd hg
    omega
  have hdp : (0 : Int) < ((32 / Nat.gcd s.natAbs 32 : Nat) : Int) := Int.natCast_pos.2 (Nat.div_pos hgd hg)
  have HM : Hid (∀ r u w, IsI w r s → IsN w u 32 → Calls Try.prog 39 #[r, u] w fun e w' => (∃ q, e = .returned q ∧ IsQ w' q (s / (Nat.gcd s.natAbs 32 : Int)) (32 / Nat.gcd s.natAbs 32)) ∧ Ext w w') := fun r u w k1 k2 => make_isQ s 32 64 r u w k1 k2 (by decide) (by omega) fs fd
  have HN : Hid (∀ q w, IsQ w q (s / (Nat.gcd s.natAbs 32 : Int)) (32 / Nat.gcd s.natAbs 32) → Calls Try.prog 38 #[q] w fun e w' => (∃ r, e = .returned r ∧ IsI w' r (nr s)) ∧ Ext w w') := fun q w hq => by
    have h := near_isI _ _ 64 q w hq hd0 (by omega) (fs.of_le (natAbs_ediv_le _ _ (by omega))) (fd.of_le (by rw [Int.natAbs_natCast, Int.natAbs_natCast]; exact Nat.div_le_self _ _))
    rw [((nearI_spec _ _ hdp).unique hdp hlow)] at h
    exact h
  have es : smallR (nr s) = (nr s, true) := by unfold smallR; rw [if_pos (by omega)]
  have HS : Hid (∀ r w, IsI w r (nr s) → Calls Try.prog 37 #[r] w fun e w' => e = .returned (.tuple #[.int .i64 (nr s), .bool true]) ∧ Ext w w') := fun r w hr => by
    have h := small_any (nr s) r w hr fz
    rw [es] at h
    exact h
  clear hz hb fs fd fz hlow hg hgd hd0 hdp es
  generalize nr s = z at *
  generalize s / (Nat.gcd s.natAbs 32 : Int) = c at *
  generalize 32 / Nat.gcd s.natAbs 32 = d at *
  go_enter Try.func30, Try.ntmps30
  go_wp2_with fail
  refine (HF.out _).mono ?_
  rintro e w1 ⟨⟨r1, rfl, i1⟩, x1⟩
  have i1 : Hid (IsI w1 r1 s) := i1
  obtain ⟨r1b, r1u, e1⟩ : ∃ b u, r1 = .agg #[.bool b, u] := by obtain ⟨u, e, _⟩ := i1.out; exact ⟨_, u, e⟩
  subst e1
  go_wp2_with fail
  refine (HO.out _).mono ?_
  rintro e w2 ⟨⟨v2, rfl, i2⟩, x2⟩
  have i2 : Hid (IsN w2 v2 32) := i2
  go_wp2_with fail
  refine (HM.out _ _ _ (i1.out.ext x2) i2.out).mono ?_
  rintro e w3 ⟨⟨q3, rfl, i3⟩, x3⟩
  have i3 : Hid (IsQ w3 q3 c d) := i3
  go_wp2_with fail
  refine (HN.out _ _ i3.out).mono ?_
  rintro e w4 ⟨⟨r4, rfl, i4⟩, x4⟩
  have i4 : Hid (IsI w4 r4 z) := i4
  go_wp2_with fail
  refine (HS.out _ _ i4.out).mono ?_
  rintro e w5 ⟨rfl, x5⟩
  have X5 : Hid (Ext w w5) := (((x1.trans x2).trans x3).trans x4).trans x5
  clear x1 x2 x3 x4 x5
  go_wp2_with fail
  go_ret
  exact ⟨rfl, X5.out⟩
set_option maxRecDepth 20000 in
set_option maxHeartbeats 8000000 in
theorem rmean_any (s0 s1 s2 : Int) (w : World) (h0 : -4503599627370496 ≤ s0 ∧ s0 ≤ 4503599627370496) (h1 : -4503599627370496 ≤ s1 ∧ s1 ≤ 4503599627370496) (h2 : -4503599627370496 ≤ s2 ∧ s2 ≤ 4503599627370496) :
    Calls Try.prog 19 #[.agg #[.int .i64 s0, .int .i64 s1, .int .i64 s2], .int .i64 32] w fun e w' => e = .returned (.agg #[.int .i64 (nr s0), .int .i64 (nr s1), .int .i64 (nr s2)]) ∧ Ext w w' := by
  have B0 : Hid (∀ w, Calls Try.prog 30 #[.int .i64 s0, .int .i64 32] w fun e w' => e = .returned (.int .i64 (nr s0)) ∧ Ext w w') := fun w => rnear32 s0 w h0.1 h0.2
  have B1 : Hid (∀ w, Calls Try.prog 30 #[.int .i64 s1, .int .i64 32] w fun e w' => e = .returned (.int .i64 (nr s1)) ∧ Ext w w') := fun w => rnear32 s1 w h1.1 h1.2
  have B2 : Hid (∀ w, Calls Try.prog 30 #[.int .i64 s2, .int .i64 32] w fun e w' => e = .returned (.int .i64 (nr s2)) ∧ Ext w w') := fun w => rnear32 s2 w h2.1 h2.2
  have C1 : Hid (HV ((w.alloc (.cells #[.int .i64 s0, .int .i64 s1, .int .i64 s2] 24)).alloc (.cells #[.int .i64 0, .int .i64 0, .int .i64 0] 24)) w.heap.size [.int .i64 s0, .int .i64 s1, .int .i64 s2]) := (hv_at rfl).alloc _
  have C2 : Hid (HV ((w.alloc (.cells #[.int .i64 s0, .int .i64 s1, .int .i64 s2] 24)).alloc (.cells #[.int .i64 0, .int .i64 0, .int .i64 0] 24)) (w.heap.size + 1) [.int .i64 0, .int .i64 0, .int .i64 0]) := hv_at (by simp)
  have HX : Hid (Ext w ((w.alloc (.cells #[.int .i64 s0, .int .i64 s1, .int .i64 s2] 24)).alloc (.cells #[.int .i64 0, .int .i64 0, .int .i64 0] 24))) := ((Ext.refl w).alloc _).alloc _
  have lt1 : Hid (w.heap.size ≤ w.heap.size + 1) := Nat.le_add_right _ _
  clear h0 h1 h2
  generalize nr s0 = r0 at *
  generalize nr s1 = r1 at *
  generalize nr s2 = r2 at *
  go_enter Try.func19, Try.ntmps19
  go_upto_region 1 with fail
  generalize ((w.alloc (.cells #[.int .i64 s0, .int .i64 s1, .int .i64 s2] 24)).alloc (.cells #[.int .i64 0, .int .i64 0, .int .i64 0] 24)) = wa at *
  obtain ⟨c0, c1, c2⟩ := C1.out.k3
  obtain ⟨z0, z1, z2⟩ := C2.out.k3
  obtain ⟨f0, f1, f2⟩ := C2.out.z3
  go_region_held3 (fun w' => w'.cell? ⟨w.heap.size, 0, none⟩ = some (.int .i64 s0) ∧ w'.cell? ⟨w.heap.size, 1, none⟩ = some (.int .i64 s1) ∧ w'.cell? ⟨w.heap.size, 2, none⟩ = some (.int .i64 s2)) (first | (simp [*]; done) | (refine ⟨?_, ?_, ?_⟩ <;> (rw [World.cell?_setCell_far _ _ _ _ (by dsimp only; omega), World.cell?_setCell_far _ _ _ _ (by dsimp only; omega), World.cell?_setCell_far _ _ _ _ (by dsimp only; omega)]; with_reducible assumption)) | skip) (first | (go_at_call_of 30 (Value.int IntKind.i64 s0); refine (B0.out _).mono ?_; rintro e m0 ⟨rfl, q0⟩; have Y0 : Ext wa m0 := Ext.trans (by repeat (first | with_reducible assumption | with_reducible exact Ext.refl _ | with_reducible refine Ext.drew ?_ | with_reducible refine Ext.drewN ?_ _ | with_reducible refine Ext.alloc ?_ _ | with_reducible refine Ext.set ?_ (by first | exact Nat.le_refl _ | (dsimp only; omega) | (simp; done)) _)) q0; obtain ⟨a00, a01, a02⟩ := (C1.out.ext Y0).k3; obtain ⟨d00, d01, d02⟩ := (C2.out.ext Y0).k3; obtain ⟨g00, g01, g02⟩ := (C2.out.ext Y0).z3) | (go_at_call_of 30 (Value.int IntKind.i64 s1); refine (B1.out _).mono ?_; rintro e m1 ⟨rfl, q1⟩; have Y1 : Ext wa m1 := Ext.trans (by repeat (first | with_reducible assumption | with_reducible exact Ext.refl _ | with_reducible refine Ext.drew ?_ | with_reducible refine Ext.drewN ?_ _ | with_reducible refine Ext.alloc ?_ _ | with_reducible refine Ext.set ?_ (by first | exact Nat.le_refl _ | (dsimp only; omega) | (simp; done)) _)) q1; obtain ⟨a10, a11, a12⟩ := (C1.out.ext Y1).k3; obtain ⟨d10, d11, d12⟩ := (C2.out.ext Y1).k3; obtain ⟨g10, g11, g12⟩ := (C2.out.ext Y1).z3) | (go_at_call_of 30 (Value.int IntKind.i64 s2); refine (B2.out _).mono ?_; rintro e m2 ⟨rfl, q2⟩; have Y2 : Ext wa m2 := Ext.trans (by repeat (first | with_reducible assumption | with_reducible exact Ext.refl _ | with_reducible refine Ext.drew ?_ | with_reducible refine Ext.drewN ?_ _ | with_reducible refine Ext.alloc ?_ _ | with_reducible refine Ext.set ?_ (by first | exact Nat.le_refl _ | (dsimp only; omega) | (simp; done)) _)) q2; obtain ⟨a20, a21, a22⟩ := (C1.out.ext Y2).k3; obtain ⟨d20, d21, d22⟩ := (C2.out.ext Y2).k3; obtain ⟨g20, g21, g22⟩ := (C2.out.ext Y2).z3))
  all_goals
    go_wp2_with fail
    refine bodyPost_ret (v := .agg #[.int .i64 r0, .int .i64 r1, .int .i64 r2]) (by simp [results, Try.results19, go_sem, *]) rfl ⟨rfl, ?_⟩
    first | exact Ext.set (Ext.set (Ext.set (HX.out.trans Y2) lt1.out _) lt1.out _) lt1.out _ | exact Ext.set (Ext.set (Ext.set (HX.out.trans Y1) lt1.out _) lt1.out _) lt1.out _ | exact Ext.set (Ext.set (Ext.set (HX.out.trans Y0) lt1.out _) lt1.out _) lt1.out _
set_option maxHeartbeats 400000 in
theorem close_any (a b : Int) (w : World) (ha : okW a = true) (hb : okW b = true) : Calls Try.prog 17 #[.int .i64 a, .int .i64 b] w fun e w' => e = .returned (.bool (gte (a - b))) ∧ w' = w := by
  have g0 := okW_bounds ha
  have g1 := okW_bounds hb
  clear ha hb
  by_cases h1 : a - b ≤ 1048576
  · by_cases h2 : b - a ≤ 1048576
    · have e : Hid (gte (a - b) = true) := gte_iff.2 ⟨by omega, h1⟩
      go_enter Try.func17, Try.ntmps17
      go_wp2_with fail
      go_ret
      rw [e.out]; exact ⟨rfl, rfl⟩
    · have e : Hid (gte (a - b) = false) := Bool.eq_false_iff.2 (fun h => by have := gte_iff.1 h; omega)
      go_enter Try.func17, Try.ntmps17
      go_wp2_with fail
      go_ret
      rw [e.out]; exact ⟨rfl, rfl⟩
  · have e : Hid (gte (a - b) = false) := Bool.eq_false_iff.2 (fun h => by have := gte_iff.1 h; omega)
    go_enter Try.func17, Try.ntmps17
    go_wp2_with fail
    go_ret
    rw [e.out]; exact ⟨rfl, rfl⟩
set_option maxHeartbeats 400000 in
theorem rwithin_any (x : Int) (w : World) : Calls Try.prog 29 #[.int .i64 x, .int .i64 2251799813685248] w fun e w' => e = .returned (.bool (okS x)) ∧ w' = w := by
  by_cases h1 : -2251799813685248 < x
  · by_cases h2 : x < 2251799813685248
    · have e : Hid (okS x = true) := okS_iff.2 ⟨h1, h2⟩
      go_enter Try.func29, Try.ntmps29
      go_wp2_with fail
      go_ret
      rw [e.out]; exact ⟨rfl, rfl⟩
    · have e : Hid (okS x = false) := Bool.eq_false_iff.2 (fun h => h2 (okS_iff.1 h).2)
      go_enter Try.func29, Try.ntmps29
      go_wp2_with fail
      go_ret
      rw [e.out]; exact ⟨rfl, rfl⟩
  · have e : Hid (okS x = false) := Bool.eq_false_iff.2 (fun h => h1 (okS_iff.1 h).1)
    go_enter Try.func29, Try.ntmps29
    go_wp2_with fail
    go_ret
    rw [e.out]; exact ⟨rfl, rfl⟩
set_option maxRecDepth 20000 in
set_option maxHeartbeats 4000000 in
theorem rall_any (x y z : Int) (w : World) : Calls Try.prog 15 #[.agg #[.int .i64 x, .int .i64 y, .int .i64 z], .int .i64 2251799813685248] w fun e w' => e = .returned (.bool (okS3 x y z)) ∧ Ext w w' := by
  have HX : Hid (∀ w, Calls Try.prog 29 #[.int .i64 x, .int .i64 2251799813685248] w fun e w' => e = .returned (.bool (okS x)) ∧ w' = w) := rwithin_any x
  have HY : Hid (∀ w, Calls Try.prog 29 #[.int .i64 y, .int .i64 2251799813685248] w fun e w' => e = .returned (.bool (okS y)) ∧ w' = w) := rwithin_any y
  have HZ : Hid (∀ w, Calls Try.prog 29 #[.int .i64 z, .int .i64 2251799813685248] w fun e w' => e = .returned (.bool (okS z)) ∧ w' = w) := rwithin_any z
  have ex : Hid (okS3 x y z = (okS x && okS y && okS z)) := rfl
  generalize okS x = p1 at *
  generalize okS y = p2 at *
  generalize okS z = p3 at *
  generalize okS3 x y z = R at *
  have hx : Ext w (w.alloc (.cells #[.int .i64 x, .int .i64 y, .int .i64 z] 24)) := (Ext.refl w).alloc _
  cases p1 <;> cases p2 <;> cases p3
  all_goals
    go_enter Try.func15, Try.ntmps15
    go_wp2_with (first | (go_at_call_of 29 (Value.int IntKind.i64 x); refine (HX.out _).mono ?_; rintro e wx ⟨rfl, hwx⟩; have hwy := hwx.symm; clear hwx; subst hwy) | (go_at_call_of 29 (Value.int IntKind.i64 y); refine (HY.out _).mono ?_; rintro e wx ⟨rfl, hwx⟩; have hwy := hwx.symm; clear hwx; subst hwy) | (go_at_call_of 29 (Value.int IntKind.i64 z); refine (HZ.out _).mono ?_; rintro e wx ⟨rfl, hwx⟩; have hwy := hwx.symm; clear hwx; subst hwy))
    go_ret
    rw [ex.out]
    exact ⟨by first | rfl | simp, hx⟩
set_option maxRecDepth 20000 in
set_option maxHeartbeats 4000000 in
theorem rplus_any (a0 a1 a2 b0 b1 b2 : Int) (w : World) (h0 : -4503599627370496 ≤ a0 + b0 ∧ a0 + b0 ≤ 4503599627370496) (h1 : -4503599627370496 ≤ a1 + b1 ∧ a1 + b1 ≤ 4503599627370496) (h2 : -4503599627370496 ≤ a2 + b2 ∧ a2 + b2 ≤ 4503599627370496) :
    Calls Try.prog 18 #[.agg #[.int .i64 a0, .int .i64 a1, .int .i64 a2], .agg #[.int .i64 b0, .int .i64 b1, .int .i64 b2]] w fun e w' => e = .returned (.agg #[.int .i64 (a0 + b0), .int .i64 (a1 + b1), .int .i64 (a2 + b2)]) ∧ Ext w w' := by
  obtain ⟨h01, h02⟩ := h0
  obtain ⟨h11, h12⟩ := h1
  obtain ⟨h21, h22⟩ := h2
  go_enter Try.func18, Try.ntmps18
  go_wp2_with fail
  exact bodyPost_ret (v := .agg #[.int .i64 (a0 + b0), .int .i64 (a1 + b1), .int .i64 (a2 + b2)]) (by simp [results, Try.results18, go_sem]) rfl ⟨rfl, by repeat (first | with_reducible assumption | with_reducible exact Ext.refl _ | with_reducible refine Ext.drew ?_ | with_reducible refine Ext.drewN ?_ _ | with_reducible refine Ext.alloc ?_ _ | with_reducible refine Ext.set ?_ (by first | exact Nat.le_refl _ | (dsimp only; omega) | (simp; done)) _)⟩

set_option maxRecDepth 20000 in
set_option maxHeartbeats 8000000 in
theorem maylearn_any (b0 b1 b2 s0 s1 s2 n : Int) (w : World) : Calls Try.prog 6 #[.agg #[.int .i64 b0, .int .i64 b1, .int .i64 b2, .int .i64 s0, .int .i64 s1, .int .i64 s2, .int .i64 n]] w fun e w' => e = .returned (.bool (okLn b0 b1 b2 s0 s1 s2 n)) ∧ Ext w w' := by
  have HM : Hid (∀ w, Calls Try.prog 7 #[.agg #[.int .i64 b0, .int .i64 b1, .int .i64 b2]] w fun e w' => e = .returned (.bool (ok3 b0 b1 b2)) ∧ Ext w w') := mayv_any b0 b1 b2
  have HA : Hid (∀ w, Calls Try.prog 15 #[.agg #[.int .i64 s0, .int .i64 s1, .int .i64 s2], .int .i64 2251799813685248] w fun e w' => e = .returned (.bool (okS3 s0 s1 s2)) ∧ Ext w w') := rall_any s0 s1 s2
  have B1 : Hid (HV (w.alloc (.cells #[.int .i64 b0, .int .i64 b1, .int .i64 b2, .int .i64 s0, .int .i64 s1, .int .i64 s2, .int .i64 n] 26)) w.heap.size [.int .i64 b0, .int .i64 b1, .int .i64 b2, .int .i64 s0, .int .i64 s1, .int .i64 s2, .int .i64 n]) := hv_at rfl
  have HX : Hid (Ext w (w.alloc (.cells #[.int .i64 b0, .int .i64 b1, .int .i64 b2, .int .i64 s0, .int .i64 s1, .int .i64 s2, .int .i64 n] 26))) := (Ext.refl w).alloc _
  have ex : Hid (okLn b0 b1 b2 s0 s1 s2 n = (opn s0 s1 s2 n && okS3 s0 s1 s2 && ok3 b0 b1 b2)) := rfl
  have eo : Hid (opn s0 s1 s2 n = if n = 0 then decide (s0 = 0 ∧ s1 = 0 ∧ s2 = 0) else decide (0 < n ∧ n < 32)) := rfl
  generalize okLn b0 b1 b2 s0 s1 s2 n = R at *
  generalize opn s0 s1 s2 n = O at *
  generalize okS3 s0 s1 s2 = p2 at *
  generalize ok3 b0 b1 b2 = p3 at *
  cases p3
  · skip
    have er : R = false := by rw [ex.out]; simp
    subst er
    clear ex eo
    go_enter Try.func6, Try.ntmps6
    go_wp2_with fail
    generalize (w.alloc (.cells #[.int .i64 b0, .int .i64 b1, .int .i64 b2, .int .i64 s0, .int .i64 s1, .int .i64 s2, .int .i64 n] 26)) = wa at *
    refine (HM.out _).mono ?_
    rintro e w1 ⟨rfl, x1⟩
    have HX : Hid (Ext w w1) := HX.out.trans x1
    have B1 : Hid (HV w1 w.heap.size [.int .i64 b0, .int .i64 b1, .int .i64 b2, .int .i64 s0, .int .i64 s1, .int .i64 s2, .int .i64 n]) := B1.out.ext x1
    clear x1
    have c0 : w1.cell? ⟨w.heap.size, 0, none⟩ = some (.int .i64 b0) := B1.out.c 0 rfl
    have c1 : w1.cell? ⟨w.heap.size, 1, none⟩ = some (.int .i64 b1) := B1.out.c 1 rfl
    have c2 : w1.cell? ⟨w.heap.size, 2, none⟩ = some (.int .i64 b2) := B1.out.c 2 rfl
    have c3 : w1.cell? ⟨w.heap.size, 3, none⟩ = some (.int .i64 s0) := B1.out.c 3 rfl
    have c4 : w1.cell? ⟨w.heap.size, 4, none⟩ = some (.int .i64 s1) := B1.out.c 4 rfl
    have c5 : w1.cell? ⟨w.heap.size, 5, none⟩ = some (.int .i64 s2) := B1.out.c 5 rfl
    have c6 : w1.cell? ⟨w.heap.size, 6, none⟩ = some (.int .i64 n) := B1.out.c 6 rfl
    go_wp2_with fail
    go_ret
    exact ⟨rfl, HX.out⟩
  · by_cases n0 : 0 ≤ n
    · by_cases n1 : n < 32
      · cases p2
        · skip
          have er : R = false := by rw [ex.out]; simp
          subst er
          clear ex eo
          go_enter Try.func6, Try.ntmps6
          go_wp2_with fail
          generalize (w.alloc (.cells #[.int .i64 b0, .int .i64 b1, .int .i64 b2, .int .i64 s0, .int .i64 s1, .int .i64 s2, .int .i64 n] 26)) = wa at *
          refine (HM.out _).mono ?_
          rintro e w1 ⟨rfl, x1⟩
          have HX : Hid (Ext w w1) := HX.out.trans x1
          have B1 : Hid (HV w1 w.heap.size [.int .i64 b0, .int .i64 b1, .int .i64 b2, .int .i64 s0, .int .i64 s1, .int .i64 s2, .int .i64 n]) := B1.out.ext x1
          clear x1
          have c0 : w1.cell? ⟨w.heap.size, 0, none⟩ = some (.int .i64 b0) := B1.out.c 0 rfl
          have c1 : w1.cell? ⟨w.heap.size, 1, none⟩ = some (.int .i64 b1) := B1.out.c 1 rfl
          have c2 : w1.cell? ⟨w.heap.size, 2, none⟩ = some (.int .i64 b2) := B1.out.c 2 rfl
          have c3 : w1.cell? ⟨w.heap.size, 3, none⟩ = some (.int .i64 s0) := B1.out.c 3 rfl
          have c4 : w1.cell? ⟨w.heap.size, 4, none⟩ = some (.int .i64 s1) := B1.out.c 4 rfl
          have c5 : w1.cell? ⟨w.heap.size, 5, none⟩ = some (.int .i64 s2) := B1.out.c 5 rfl
          have c6 : w1.cell? ⟨w.heap.size, 6, none⟩ = some (.int .i64 n) := B1.out.c 6 rfl
          go_wp2_with fail
          refine (HA.out _).mono ?_
          rintro e w2 ⟨rfl, x2⟩
          have HX : Hid (Ext w w2) := HX.out.trans x2
          have B1 : Hid (HV w2 w.heap.size [.int .i64 b0, .int .i64 b1, .int .i64 b2, .int .i64 s0, .int .i64 s1, .int .i64 s2, .int .i64 n]) := B1.out.ext x2
          clear x2 c0 c1 c2 c3 c4 c5 c6
          have c0 : w2.cell? ⟨w.heap.size, 0, none⟩ = some (.int .i64 b0) := B1.out.c 0 rfl
          have c1 : w2.cell? ⟨w.heap.size, 1, none⟩ = some (.int .i64 b1) := B1.out.c 1 rfl
          have c2 : w2.cell? ⟨w.heap.size, 2, none⟩ = some (.int .i64 b2) := B1.out.c 2 rfl
          have c3 : w2.cell? ⟨w.heap.size, 3, none⟩ = some (.int .i64 s0) := B1.out.c 3 rfl
          have c4 : w2.cell? ⟨w.heap.size, 4, none⟩ = some (.int .i64 s1) := B1.out.c 4 rfl
          have c5 : w2.cell? ⟨w.heap.size, 5, none⟩ = some (.int .i64 s2) := B1.out.c 5 rfl
          have c6 : w2.cell? ⟨w.heap.size, 6, none⟩ = some (.int .i64 n) := B1.out.c 6 rfl
          go_wp2_with fail
          go_ret
          exact ⟨rfl, HX.out⟩
        · by_cases n2 : 0 < n
          · skip
            have er : R = true := by rw [ex.out, eo.out, if_neg (by omega)]; simp; omega
            subst er
            clear ex eo
            go_enter Try.func6, Try.ntmps6
            go_wp2_with fail
            generalize (w.alloc (.cells #[.int .i64 b0, .int .i64 b1, .int .i64 b2, .int .i64 s0, .int .i64 s1, .int .i64 s2, .int .i64 n] 26)) = wa at *
            refine (HM.out _).mono ?_
            rintro e w1 ⟨rfl, x1⟩
            have HX : Hid (Ext w w1) := HX.out.trans x1
            have B1 : Hid (HV w1 w.heap.size [.int .i64 b0, .int .i64 b1, .int .i64 b2, .int .i64 s0, .int .i64 s1, .int .i64 s2, .int .i64 n]) := B1.out.ext x1
            clear x1
            have c0 : w1.cell? ⟨w.heap.size, 0, none⟩ = some (.int .i64 b0) := B1.out.c 0 rfl
            have c1 : w1.cell? ⟨w.heap.size, 1, none⟩ = some (.int .i64 b1) := B1.out.c 1 rfl
            have c2 : w1.cell? ⟨w.heap.size, 2, none⟩ = some (.int .i64 b2) := B1.out.c 2 rfl
            have c3 : w1.cell? ⟨w.heap.size, 3, none⟩ = some (.int .i64 s0) := B1.out.c 3 rfl
            have c4 : w1.cell? ⟨w.heap.size, 4, none⟩ = some (.int .i64 s1) := B1.out.c 4 rfl
            have c5 : w1.cell? ⟨w.heap.size, 5, none⟩ = some (.int .i64 s2) := B1.out.c 5 rfl
            have c6 : w1.cell? ⟨w.heap.size, 6, none⟩ = some (.int .i64 n) := B1.out.c 6 rfl
            go_wp2_with fail
            refine (HA.out _).mono ?_
            rintro e w2 ⟨rfl, x2⟩
            have HX : Hid (Ext w w2) := HX.out.trans x2
            have B1 : Hid (HV w2 w.heap.size [.int .i64 b0, .int .i64 b1, .int .i64 b2, .int .i64 s0, .int .i64 s1, .int .i64 s2, .int .i64 n]) := B1.out.ext x2
            clear x2 c0 c1 c2 c3 c4 c5 c6
            have c0 : w2.cell? ⟨w.heap.size, 0, none⟩ = some (.int .i64 b0) := B1.out.c 0 rfl
            have c1 : w2.cell? ⟨w.heap.size, 1, none⟩ = some (.int .i64 b1) := B1.out.c 1 rfl
            have c2 : w2.cell? ⟨w.heap.size, 2, none⟩ = some (.int .i64 b2) := B1.out.c 2 rfl
            have c3 : w2.cell? ⟨w.heap.size, 3, none⟩ = some (.int .i64 s0) := B1.out.c 3 rfl
            have c4 : w2.cell? ⟨w.heap.size, 4, none⟩ = some (.int .i64 s1) := B1.out.c 4 rfl
            have c5 : w2.cell? ⟨w.heap.size, 5, none⟩ = some (.int .i64 s2) := B1.out.c 5 rfl
            have c6 : w2.cell? ⟨w.heap.size, 6, none⟩ = some (.int .i64 n) := B1.out.c 6 rfl
            go_wp2_with fail
            go_ret
            exact ⟨rfl, HX.out⟩
          · have n3 : n = 0 := by omega
            subst n3
            have er : Hid (R = decide (s0 = 0 ∧ s1 = 0 ∧ s2 = 0)) := by show _ = _; rw [ex.out, eo.out]; simp
            clear ex eo
            go_enter Try.func6, Try.ntmps6
            go_wp2_with fail
            generalize (w.alloc (.cells #[.int .i64 b0, .int .i64 b1, .int .i64 b2, .int .i64 s0, .int .i64 s1, .int .i64 s2, .int .i64 0] 26)) = wa at *
            refine (HM.out _).mono ?_
            rintro e w1 ⟨rfl, x1⟩
            have HX : Hid (Ext w w1) := HX.out.trans x1
            have B1 : Hid (HV w1 w.heap.size [.int .i64 b0, .int .i64 b1, .int .i64 b2, .int .i64 s0, .int .i64 s1, .int .i64 s2, .int .i64 0]) := B1.out.ext x1
            clear x1
            have c0 : w1.cell? ⟨w.heap.size, 0, none⟩ = some (.int .i64 b0) := B1.out.c 0 rfl
            have c1 : w1.cell? ⟨w.heap.size, 1, none⟩ = some (.int .i64 b1) := B1.out.c 1 rfl
            have c2 : w1.cell? ⟨w.heap.size, 2, none⟩ = some (.int .i64 b2) := B1.out.c 2 rfl
            have c3 : w1.cell? ⟨w.heap.size, 3, none⟩ = some (.int .i64 s0) := B1.out.c 3 rfl
            have c4 : w1.cell? ⟨w.heap.size, 4, none⟩ = some (.int .i64 s1) := B1.out.c 4 rfl
            have c5 : w1.cell? ⟨w.heap.size, 5, none⟩ = some (.int .i64 s2) := B1.out.c 5 rfl
            have c6 : w1.cell? ⟨w.heap.size, 6, none⟩ = some (.int .i64 0) := B1.out.c 6 rfl
            go_wp2_with fail
            refine (HA.out _).mono ?_
            rintro e w2 ⟨rfl, x2⟩
            have HX : Hid (Ext w w2) := HX.out.trans x2
            have B1 : Hid (HV w2 w.heap.size [.int .i64 b0, .int .i64 b1, .int .i64 b2, .int .i64 s0, .int .i64 s1, .int .i64 s2, .int .i64 0]) := B1.out.ext x2
            clear x2 c0 c1 c2 c3 c4 c5 c6
            have c0 : w2.cell? ⟨w.heap.size, 0, none⟩ = some (.int .i64 b0) := B1.out.c 0 rfl
            have c1 : w2.cell? ⟨w.heap.size, 1, none⟩ = some (.int .i64 b1) := B1.out.c 1 rfl
            have c2 : w2.cell? ⟨w.heap.size, 2, none⟩ = some (.int .i64 b2) := B1.out.c 2 rfl
            have c3 : w2.cell? ⟨w.heap.size, 3, none⟩ = some (.int .i64 s0) := B1.out.c 3 rfl
            have c4 : w2.cell? ⟨w.heap.size, 4, none⟩ = some (.int .i64 s1) := B1.out.c 4 rfl
            have c5 : w2.cell? ⟨w.heap.size, 5, none⟩ = some (.int .i64 s2) := B1.out.c 5 rfl
            have c6 : w2.cell? ⟨w.heap.size, 6, none⟩ = some (.int .i64 0) := B1.out.c 6 rfl
            go_wp2_with fail
            all_goals
              go_ret
              exact ⟨by rw [er.out]; simp [*], HX.out⟩
      · skip
        have er : R = false := by rw [ex.out, eo.out, if_neg (by omega)]; simp; omega
        subst er
        clear ex eo
        go_enter Try.func6, Try.ntmps6
        go_wp2_with fail
        generalize (w.alloc (.cells #[.int .i64 b0, .int .i64 b1, .int .i64 b2, .int .i64 s0, .int .i64 s1, .int .i64 s2, .int .i64 n] 26)) = wa at *
        refine (HM.out _).mono ?_
        rintro e w1 ⟨rfl, x1⟩
        have HX : Hid (Ext w w1) := HX.out.trans x1
        have B1 : Hid (HV w1 w.heap.size [.int .i64 b0, .int .i64 b1, .int .i64 b2, .int .i64 s0, .int .i64 s1, .int .i64 s2, .int .i64 n]) := B1.out.ext x1
        clear x1
        have c0 : w1.cell? ⟨w.heap.size, 0, none⟩ = some (.int .i64 b0) := B1.out.c 0 rfl
        have c1 : w1.cell? ⟨w.heap.size, 1, none⟩ = some (.int .i64 b1) := B1.out.c 1 rfl
        have c2 : w1.cell? ⟨w.heap.size, 2, none⟩ = some (.int .i64 b2) := B1.out.c 2 rfl
        have c3 : w1.cell? ⟨w.heap.size, 3, none⟩ = some (.int .i64 s0) := B1.out.c 3 rfl
        have c4 : w1.cell? ⟨w.heap.size, 4, none⟩ = some (.int .i64 s1) := B1.out.c 4 rfl
        have c5 : w1.cell? ⟨w.heap.size, 5, none⟩ = some (.int .i64 s2) := B1.out.c 5 rfl
        have c6 : w1.cell? ⟨w.heap.size, 6, none⟩ = some (.int .i64 n) := B1.out.c 6 rfl
        go_wp2_with fail
        go_ret
        exact ⟨rfl, HX.out⟩
    · skip
      have er : R = false := by rw [ex.out, eo.out, if_neg (by omega)]; simp; omega
      subst er
      clear ex eo
      go_enter Try.func6, Try.ntmps6
      go_wp2_with fail
      generalize (w.alloc (.cells #[.int .i64 b0, .int .i64 b1, .int .i64 b2, .int .i64 s0, .int .i64 s1, .int .i64 s2, .int .i64 n] 26)) = wa at *
      refine (HM.out _).mono ?_
      rintro e w1 ⟨rfl, x1⟩
      have HX : Hid (Ext w w1) := HX.out.trans x1
      have B1 : Hid (HV w1 w.heap.size [.int .i64 b0, .int .i64 b1, .int .i64 b2, .int .i64 s0, .int .i64 s1, .int .i64 s2, .int .i64 n]) := B1.out.ext x1
      clear x1
      have c0 : w1.cell? ⟨w.heap.size, 0, none⟩ = some (.int .i64 b0) := B1.out.c 0 rfl
      have c1 : w1.cell? ⟨w.heap.size, 1, none⟩ = some (.int .i64 b1) := B1.out.c 1 rfl
      have c2 : w1.cell? ⟨w.heap.size, 2, none⟩ = some (.int .i64 b2) := B1.out.c 2 rfl
      have c3 : w1.cell? ⟨w.heap.size, 3, none⟩ = some (.int .i64 s0) := B1.out.c 3 rfl
      have c4 : w1.cell? ⟨w.heap.size, 4, none⟩ = some (.int .i64 s1) := B1.out.c 4 rfl
      have c5 : w1.cell? ⟨w.heap.size, 5, none⟩ = some (.int .i64 s2) := B1.out.c 5 rfl
      have c6 : w1.cell? ⟨w.heap.size, 6, none⟩ = some (.int .i64 n) := B1.out.c 6 rfl
      go_wp2_with fail
      go_ret
      exact ⟨rfl, HX.out⟩
set_option maxRecDepth 20000 in
set_option maxHeartbeats 16000000 in
theorem rlearn_any (b0 b1 b2 s0 s1 s2 n v0 v1 v2 : Int) (w : World) (h1 : okLn b0 b1 b2 s0 s1 s2 n = true) (h2 : ok3 v0 v1 v2 = true) : Calls Try.prog 8 #[.agg #[.int .i64 b0, .int .i64 b1, .int .i64 b2, .int .i64 s0, .int .i64 s1, .int .i64 s2, .int .i64 n], .agg #[.int .i64 v0, .int .i64 v1, .int .i64 v2]] w fun e w' => e = .returned (takeL b0 b1 b2 s0 s1 s2 n v0 v1 v2) ∧ Ext w w' := by
  obtain ⟨ho, hb, hn, hs0, hs1, hs2⟩ := okLn_parts h1
  obtain ⟨k0, k1, k2⟩ := ok3_parts h2
  obtain ⟨j0, j1, j2⟩ := ok3_parts hb
  have g0 := okW_bounds k0
  have g1 := okW_bounds k1
  have g2 := okW_bounds k2
  have H0 : Hid (∀ w, Calls Try.prog 17 #[.int .i64 v0, .int .i64 b0] w fun e w' => e = .returned (.bool (gte (v0 - b0))) ∧ w' = w) := fun w => close_any v0 b0 w k0 j0
  have H1 : Hid (∀ w, Calls Try.prog 17 #[.int .i64 v1, .int .i64 b1] w fun e w' => e = .returned (.bool (gte (v1 - b1))) ∧ w' = w) := fun w => close_any v1 b1 w k1 j1
  have H2 : Hid (∀ w, Calls Try.prog 17 #[.int .i64 v2, .int .i64 b2] w fun e w' => e = .returned (.bool (gte (v2 - b2))) ∧ w' = w) := fun w => close_any v2 b2 w k2 j2
  have HP : Hid (∀ w, Calls Try.prog 18 #[.agg #[.int .i64 s0, .int .i64 s1, .int .i64 s2], .agg #[.int .i64 v0, .int .i64 v1, .int .i64 v2]] w fun e w' => e = .returned (.agg #[.int .i64 (s0 + v0), .int .i64 (s1 + v1), .int .i64 (s2 + v2)]) ∧ Ext w w') := fun w => rplus_any _ _ _ _ _ _ w (by omega) (by omega) (by omega)
  have HM : Hid (∀ w, Calls Try.prog 19 #[.agg #[.int .i64 (s0 + v0), .int .i64 (s1 + v1), .int .i64 (s2 + v2)], .int .i64 32] w fun e w' => e = .returned (.agg #[.int .i64 (nr (s0 + v0)), .int .i64 (nr (s1 + v1)), .int .i64 (nr (s2 + v2))]) ∧ Ext w w') := fun w => rmean_any _ _ _ w (by omega) (by omega) (by omega)
  have er : Hid (takeL b0 b1 b2 s0 s1 s2 n v0 v1 v2 = if gte (v0 - b0) && gte (v1 - b1) && gte (v2 - b2) then (if n + 1 < 32 then .tuple #[.agg #[.int .i64 b0, .int .i64 b1, .int .i64 b2, .int .i64 (s0 + v0), .int .i64 (s1 + v1), .int .i64 (s2 + v2), .int .i64 (n + 1)], .bool false, .int .i64 0] else if ok3 (nr (s0 + v0)) (nr (s1 + v1)) (nr (s2 + v2)) then .tuple #[.agg #[.int .i64 (nr (s0 + v0)), .int .i64 (nr (s1 + v1)), .int .i64 (nr (s2 + v2)), .int .i64 0, .int .i64 0, .int .i64 0, .int .i64 0], .bool true, .int .i64 0] else .tuple #[.agg #[.int .i64 0, .int .i64 0, .int .i64 0, .int .i64 0, .int .i64 0, .int .i64 0, .int .i64 0], .bool false, .int .i64 2]) else .tuple #[.agg #[.int .i64 b0, .int .i64 b1, .int .i64 b2, .int .i64 0, .int .i64 0, .int .i64 0, .int .i64 0], .bool false, .int .i64 0]) := by show _ = _; unfold takeL; rw [h1, h2]; rfl
  have B1 : Hid (HV (((w.alloc (.cells #[.int .i64 b0, .int .i64 b1, .int .i64 b2, .int .i64 s0, .int .i64 s1, .int .i64 s2, .int .i64 n] 26)).alloc (.cells #[.int .i64 v0, .int .i64 v1, .int .i64 v2] 24)).alloc (.cells #[.int .i64 0, .int .i64 0, .int .i64 0, .int .i64 0, .int .i64 0, .int .i64 0, .int .i64 0] 26)) w.heap.size [.int .i64 b0, .int .i64 b1, .int .i64 b2, .int .i64 s0, .int .i64 s1, .int .i64 s2, .int .i64 n]) := ((hv_at rfl).alloc _).alloc _
  have B2 : Hid (HV (((w.alloc (.cells #[.int .i64 b0, .int .i64 b1, .int .i64 b2, .int .i64 s0, .int .i64 s1, .int .i64 s2, .int .i64 n] 26)).alloc (.cells #[.int .i64 v0, .int .i64 v1, .int .i64 v2] 24)).alloc (.cells #[.int .i64 0, .int .i64 0, .int .i64 0, .int .i64 0, .int .i64 0, .int .i64 0, .int .i64 0] 26)) (w.heap.size + 1) [.int .i64 v0, .int .i64 v1, .int .i64 v2]) := (hv_at (by simp)).alloc _
  have B3 : Hid (HV (((w.alloc (.cells #[.int .i64 b0, .int .i64 b1, .int .i64 b2, .int .i64 s0, .int .i64 s1, .int .i64 s2, .int .i64 n] 26)).alloc (.cells #[.int .i64 v0, .int .i64 v1, .int .i64 v2] 24)).alloc (.cells #[.int .i64 0, .int .i64 0, .int .i64 0, .int .i64 0, .int .i64 0, .int .i64 0, .int .i64 0] 26)) (w.heap.size + 2) [.int .i64 0, .int .i64 0, .int .i64 0, .int .i64 0, .int .i64 0, .int .i64 0, .int .i64 0]) := hv_at (by simp)
  have lt0 : Hid (w.heap.size ≤ w.heap.size) := Nat.le_refl _
  have lt2 : Hid (w.heap.size ≤ w.heap.size + 2) := Nat.le_add_right _ _
  have HX : Hid (Ext w (((w.alloc (.cells #[.int .i64 b0, .int .i64 b1, .int .i64 b2, .int .i64 s0, .int .i64 s1, .int .i64 s2, .int .i64 n] 26)).alloc (.cells #[.int .i64 v0, .int .i64 v1, .int .i64 v2] 24)).alloc (.cells #[.int .i64 0, .int .i64 0, .int .i64 0, .int .i64 0, .int .i64 0, .int .i64 0, .int .i64 0] 26))) := (((Ext.refl w).alloc _).alloc _).alloc _
  generalize takeL b0 b1 b2 s0 s1 s2 n v0 v1 v2 = R at *
  clear h1 h2 ho hb k0 k1 k2 j0 j1 j2 g0 g1 g2 hs0 hs1 hs2
  obtain ⟨n0, n1⟩ := hn
  generalize gte (v0 - b0) = q0 at *
  generalize gte (v1 - b1) = q1 at *
  generalize gte (v2 - b2) = q2 at *
  generalize s0 + v0 = t0 at *
  generalize s1 + v1 = t1 at *
  generalize s2 + v2 = t2 at *
  go_enter Try.func8, Try.ntmps8
  go_upto_region 1 with fail
  generalize (((w.alloc (.cells #[.int .i64 b0, .int .i64 b1, .int .i64 b2, .int .i64 s0, .int .i64 s1, .int .i64 s2, .int .i64 n] 26)).alloc (.cells #[.int .i64 v0, .int .i64 v1, .int .i64 v2] 24)).alloc (.cells #[.int .i64 0, .int .i64 0, .int .i64 0, .int .i64 0, .int .i64 0, .int .i64 0, .int .i64 0] 26)) = wa at *
  have c0 : wa.cell? ⟨w.heap.size, 0, none⟩ = some (.int .i64 b0) := B1.out.c 0 rfl
  have c1 : wa.cell? ⟨w.heap.size, 1, none⟩ = some (.int .i64 b1) := B1.out.c 1 rfl
  have c2 : wa.cell? ⟨w.heap.size, 2, none⟩ = some (.int .i64 b2) := B1.out.c 2 rfl
  have c3 : wa.cell? ⟨w.heap.size, 3, none⟩ = some (.int .i64 s0) := B1.out.c 3 rfl
  have c4 : wa.cell? ⟨w.heap.size, 4, none⟩ = some (.int .i64 s1) := B1.out.c 4 rfl
  have c5 : wa.cell? ⟨w.heap.size, 5, none⟩ = some (.int .i64 s2) := B1.out.c 5 rfl
  have c6 : wa.cell? ⟨w.heap.size, 6, none⟩ = some (.int .i64 n) := B1.out.c 6 rfl
  have d0 : wa.cell? ⟨w.heap.size + 1, 0, none⟩ = some (.int .i64 v0) := B2.out.c 0 rfl
  have d1 : wa.cell? ⟨w.heap.size + 1, 1, none⟩ = some (.int .i64 v1) := B2.out.c 1 rfl
  have d2 : wa.cell? ⟨w.heap.size + 1, 2, none⟩ = some (.int .i64 v2) := B2.out.c 2 rfl
  by_cases hq : (q0 && q1 && q2) = true
  · simp only [Bool.and_eq_true] at hq
    obtain ⟨⟨rfl, rfl⟩, rfl⟩ := hq
    go_upto_region 3 with (first | (go_at_call_of 17 (Value.int IntKind.i64 v0); refine (H0.out _).mono ?_; rintro e wx ⟨rfl, hwx⟩; have hwy := hwx.symm; clear hwx; subst hwy) | (go_at_call_of 17 (Value.int IntKind.i64 v1); refine (H1.out _).mono ?_; rintro e wx ⟨rfl, hwx⟩; have hwy := hwx.symm; clear hwx; subst hwy) | (go_at_call_of 17 (Value.int IntKind.i64 v2); refine (H2.out _).mono ?_; rintro e wx ⟨rfl, hwx⟩; have hwy := hwx.symm; clear hwx; subst hwy))
    go_upto_region 4 with (go_at_call 18; refine (HP.out _).mono ?_; rintro e w1 ⟨rfl, x1⟩; have k3 : w1.cell? ⟨w.heap.size, 3, none⟩ = some (.int .i64 s0) := (B1.out.ext x1).c 3 rfl; have k4 : w1.cell? ⟨w.heap.size, 4, none⟩ = some (.int .i64 s1) := (B1.out.ext x1).c 4 rfl; have k5 : w1.cell? ⟨w.heap.size, 5, none⟩ = some (.int .i64 s2) := (B1.out.ext x1).c 5 rfl; have f3 : w1.frozen? ⟨w.heap.size, 3, none⟩ = false := (B1.out.ext x1).f 3 rfl; have f4 : w1.frozen? ⟨w.heap.size, 4, none⟩ = false := (B1.out.ext x1).f 4 rfl; have f5 : w1.frozen? ⟨w.heap.size, 5, none⟩ = false := (B1.out.ext x1).f 5 rfl)
    clear H0 H1 H2 HP c0 c1 c2 c3 c4 c5 c6 d0 d1 d2
    have B1 : Hid (HV w1 w.heap.size [.int .i64 b0, .int .i64 b1, .int .i64 b2, .int .i64 s0, .int .i64 s1, .int .i64 s2, .int .i64 n]) := B1.out.ext x1
    have B2 : Hid (HV w1 (w.heap.size + 1) [.int .i64 v0, .int .i64 v1, .int .i64 v2]) := B2.out.ext x1
    have B3 : Hid (HV w1 (w.heap.size + 2) [.int .i64 0, .int .i64 0, .int .i64 0, .int .i64 0, .int .i64 0, .int .i64 0, .int .i64 0]) := B3.out.ext x1
    have HX : Hid (Ext w w1) := HX.out.trans x1
    clear x1
    clear k3 k4 k5 f3 f4 f5
    have B1 : Hid (HV (((w1.setCell ⟨w.heap.size, 3, none⟩ (.int .i64 t0)).setCell ⟨w.heap.size, 4, none⟩ (.int .i64 t1)).setCell ⟨w.heap.size, 5, none⟩ (.int .i64 t2)) w.heap.size [.int .i64 b0, .int .i64 b1, .int .i64 b2, .int .i64 t0, .int .i64 t1, .int .i64 t2, .int .i64 n]) := (((B1.out.set 3 (.int .i64 t0)).set 4 (.int .i64 t1)).set 5 (.int .i64 t2))
    have B2 : Hid (HV (((w1.setCell ⟨w.heap.size, 3, none⟩ (.int .i64 t0)).setCell ⟨w.heap.size, 4, none⟩ (.int .i64 t1)).setCell ⟨w.heap.size, 5, none⟩ (.int .i64 t2)) (w.heap.size + 1) [.int .i64 v0, .int .i64 v1, .int .i64 v2]) := (((B2.out.far (by omega)).far (by omega)).far (by omega))
    have B3 : Hid (HV (((w1.setCell ⟨w.heap.size, 3, none⟩ (.int .i64 t0)).setCell ⟨w.heap.size, 4, none⟩ (.int .i64 t1)).setCell ⟨w.heap.size, 5, none⟩ (.int .i64 t2)) (w.heap.size + 2) [.int .i64 0, .int .i64 0, .int .i64 0, .int .i64 0, .int .i64 0, .int .i64 0, .int .i64 0]) := (((B3.out.far (by omega)).far (by omega)).far (by omega))
    have HX : Hid (Ext w (((w1.setCell ⟨w.heap.size, 3, none⟩ (.int .i64 t0)).setCell ⟨w.heap.size, 4, none⟩ (.int .i64 t1)).setCell ⟨w.heap.size, 5, none⟩ (.int .i64 t2))) := (((HX.out.set (p := ⟨w.heap.size, 3, none⟩) lt0.out (.int .i64 t0)).set (p := ⟨w.heap.size, 4, none⟩) lt0.out (.int .i64 t1)).set (p := ⟨w.heap.size, 5, none⟩) lt0.out (.int .i64 t2))
    generalize (((w1.setCell ⟨w.heap.size, 3, none⟩ (.int .i64 t0)).setCell ⟨w.heap.size, 4, none⟩ (.int .i64 t1)).setCell ⟨w.heap.size, 5, none⟩ (.int .i64 t2)) = w2 at *
    have c6 : w2.cell? ⟨w.heap.size, 6, none⟩ = some (.int .i64 n) := B1.out.c 6 rfl
    have f6 : w2.frozen? ⟨w.heap.size, 6, none⟩ = false := B1.out.f 6 rfl
    go_upto_region 5 with fail
    clear c6 f6
    have B1 : Hid (HV (w2.setCell ⟨w.heap.size, 6, none⟩ (.int .i64 (n + 1))) w.heap.size [.int .i64 b0, .int .i64 b1, .int .i64 b2, .int .i64 t0, .int .i64 t1, .int .i64 t2, .int .i64 (n + 1)]) := (B1.out.set 6 (.int .i64 (n + 1)))
    have B2 : Hid (HV (w2.setCell ⟨w.heap.size, 6, none⟩ (.int .i64 (n + 1))) (w.heap.size + 1) [.int .i64 v0, .int .i64 v1, .int .i64 v2]) := (B2.out.far (by omega))
    have B3 : Hid (HV (w2.setCell ⟨w.heap.size, 6, none⟩ (.int .i64 (n + 1))) (w.heap.size + 2) [.int .i64 0, .int .i64 0, .int .i64 0, .int .i64 0, .int .i64 0, .int .i64 0, .int .i64 0]) := (B3.out.far (by omega))
    have HX : Hid (Ext w (w2.setCell ⟨w.heap.size, 6, none⟩ (.int .i64 (n + 1)))) := (HX.out.set (p := ⟨w.heap.size, 6, none⟩) lt0.out (.int .i64 (n + 1)))
    generalize (w2.setCell ⟨w.heap.size, 6, none⟩ (.int .i64 (n + 1))) = w3 at *
    have c0 : w3.cell? ⟨w.heap.size, 0, none⟩ = some (.int .i64 b0) := B1.out.c 0 rfl
    have c1 : w3.cell? ⟨w.heap.size, 1, none⟩ = some (.int .i64 b1) := B1.out.c 1 rfl
    have c2 : w3.cell? ⟨w.heap.size, 2, none⟩ = some (.int .i64 b2) := B1.out.c 2 rfl
    have c3 : w3.cell? ⟨w.heap.size, 3, none⟩ = some (.int .i64 t0) := B1.out.c 3 rfl
    have c4 : w3.cell? ⟨w.heap.size, 4, none⟩ = some (.int .i64 t1) := B1.out.c 4 rfl
    have c5 : w3.cell? ⟨w.heap.size, 5, none⟩ = some (.int .i64 t2) := B1.out.c 5 rfl
    have c6 : w3.cell? ⟨w.heap.size, 6, none⟩ = some (.int .i64 (n + 1)) := B1.out.c 6 rfl
    by_cases hl : n + 1 < 32
    · have ef : R = .tuple #[.agg #[.int .i64 b0, .int .i64 b1, .int .i64 b2, .int .i64 t0, .int .i64 t1, .int .i64 t2, .int .i64 (n + 1)], .bool false, .int .i64 0] := er.out.trans (if_pos hl)
      subst ef
      clear er HM
      have o0 : w3.cell? ⟨w.heap.size + 2, 0, none⟩ = some (.int .i64 0) := B3.out.c 0 rfl
      have o1 : w3.cell? ⟨w.heap.size + 2, 1, none⟩ = some (.int .i64 0) := B3.out.c 1 rfl
      have o2 : w3.cell? ⟨w.heap.size + 2, 2, none⟩ = some (.int .i64 0) := B3.out.c 2 rfl
      have o3 : w3.cell? ⟨w.heap.size + 2, 3, none⟩ = some (.int .i64 0) := B3.out.c 3 rfl
      have o4 : w3.cell? ⟨w.heap.size + 2, 4, none⟩ = some (.int .i64 0) := B3.out.c 4 rfl
      have o5 : w3.cell? ⟨w.heap.size + 2, 5, none⟩ = some (.int .i64 0) := B3.out.c 5 rfl
      have o6 : w3.cell? ⟨w.heap.size + 2, 6, none⟩ = some (.int .i64 0) := B3.out.c 6 rfl
      have y0 : w3.frozen? ⟨w.heap.size + 2, 0, none⟩ = false := B3.out.f 0 rfl
      have y1 : w3.frozen? ⟨w.heap.size + 2, 1, none⟩ = false := B3.out.f 1 rfl
      have y2 : w3.frozen? ⟨w.heap.size + 2, 2, none⟩ = false := B3.out.f 2 rfl
      have y3 : w3.frozen? ⟨w.heap.size + 2, 3, none⟩ = false := B3.out.f 3 rfl
      have y4 : w3.frozen? ⟨w.heap.size + 2, 4, none⟩ = false := B3.out.f 4 rfl
      have y5 : w3.frozen? ⟨w.heap.size + 2, 5, none⟩ = false := B3.out.f 5 rfl
      have y6 : w3.frozen? ⟨w.heap.size + 2, 6, none⟩ = false := B3.out.f 6 rfl
      go_wp2_with fail
      refine bodyPost_ret (v := .tuple #[.agg #[.int .i64 b0, .int .i64 b1, .int .i64 b2, .int .i64 t0, .int .i64 t1, .int .i64 t2, .int .i64 (n + 1)], .bool false, .int .i64 0]) (by simp [results, Try.results8, go_sem, o0, o1, o2, o3, o4, o5, o6]) rfl ⟨rfl, ?_⟩
      exact (Ext.set (Ext.set (Ext.set (Ext.set (Ext.set (Ext.set (Ext.set HX.out lt2.out _) lt2.out _) lt2.out _) lt2.out _) lt2.out _) lt2.out _) lt2.out _)
    · have er : Hid (R = if ok3 (nr t0) (nr t1) (nr t2) then .tuple #[.agg #[.int .i64 (nr t0), .int .i64 (nr t1), .int .i64 (nr t2), .int .i64 0, .int .i64 0, .int .i64 0, .int .i64 0], .bool true, .int .i64 0] else .tuple #[.agg #[.int .i64 0, .int .i64 0, .int .i64 0, .int .i64 0, .int .i64 0, .int .i64 0, .int .i64 0], .bool false, .int .i64 2]) := er.out.trans (if_neg hl)
      generalize nr t0 = r0 at *
      generalize nr t1 = r1 at *
      generalize nr t2 = r2 at *
      have HO : Hid (∀ w, Calls Try.prog 7 #[.agg #[.int .i64 r0, .int .i64 r1, .int .i64 r2]] w fun e w' => e = .returned (.bool (ok3 r0 r1 r2)) ∧ Ext w w') := mayv_any r0 r1 r2
      cases hv : ok3 r0 r1 r2
      · rw [hv] at er HO
        have ef : R = .tuple #[.agg #[.int .i64 0, .int .i64 0, .int .i64 0, .int .i64 0, .int .i64 0, .int .i64 0, .int .i64 0], .bool false, .int .i64 2] := er.out
        subst ef
        clear er hv
        go_upto_region 8 with (go_at_call 19; refine (HM.out _).mono ?_; rintro e w4 ⟨rfl, x4⟩)
        clear c0 c1 c2 c3 c4 c5 c6 HM
        have B1 : Hid (HV w4 w.heap.size [.int .i64 b0, .int .i64 b1, .int .i64 b2, .int .i64 t0, .int .i64 t1, .int .i64 t2, .int .i64 (n + 1)]) := B1.out.ext x4
        have B2 : Hid (HV w4 (w.heap.size + 1) [.int .i64 v0, .int .i64 v1, .int .i64 v2]) := B2.out.ext x4
        have B3 : Hid (HV w4 (w.heap.size + 2) [.int .i64 0, .int .i64 0, .int .i64 0, .int .i64 0, .int .i64 0, .int .i64 0, .int .i64 0]) := B3.out.ext x4
        have HX : Hid (Ext w w4) := HX.out.trans x4
        clear x4
        have lt7 : w.heap.size + 2 < w4.heap.size := B3.out.1
        have M : Hid (HV (w4.alloc (.cells #[.int .i64 r0, .int .i64 r1, .int .i64 r2] 24)) w4.heap.size [.int .i64 r0, .int .i64 r1, .int .i64 r2]) := hv_at rfl
        have B3 : Hid (HV (w4.alloc (.cells #[.int .i64 r0, .int .i64 r1, .int .i64 r2] 24)) (w.heap.size + 2) [.int .i64 0, .int .i64 0, .int .i64 0, .int .i64 0, .int .i64 0, .int .i64 0, .int .i64 0]) := B3.out.alloc _
        have HX : Hid (Ext w (w4.alloc (.cells #[.int .i64 r0, .int .i64 r1, .int .i64 r2] 24))) := HX.out.alloc _
        clear B1 B2
        generalize (w4.alloc (.cells #[.int .i64 r0, .int .i64 r1, .int .i64 r2] 24)) = w5 at *
        generalize w4.heap.size = m at *
        have m0 : w5.cell? ⟨m, 0, none⟩ = some (.int .i64 r0) := M.out.c 0 rfl
        have m1 : w5.cell? ⟨m, 1, none⟩ = some (.int .i64 r1) := M.out.c 1 rfl
        have m2 : w5.cell? ⟨m, 2, none⟩ = some (.int .i64 r2) := M.out.c 2 rfl
        go_wp2_with fail
        refine (HO.out _).mono ?_
        rintro e w6 ⟨rfl, x6⟩
        have M : Hid (HV w6 m [.int .i64 r0, .int .i64 r1, .int .i64 r2]) := M.out.ext x6
        have B3 : Hid (HV w6 (w.heap.size + 2) [.int .i64 0, .int .i64 0, .int .i64 0, .int .i64 0, .int .i64 0, .int .i64 0, .int .i64 0]) := B3.out.ext x6
        have HX : Hid (Ext w w6) := HX.out.trans x6
        clear x6 m0 m1 m2
        have m0 : w6.cell? ⟨m, 0, none⟩ = some (.int .i64 r0) := M.out.c 0 rfl
        have m1 : w6.cell? ⟨m, 1, none⟩ = some (.int .i64 r1) := M.out.c 1 rfl
        have m2 : w6.cell? ⟨m, 2, none⟩ = some (.int .i64 r2) := M.out.c 2 rfl
        have o0 : w6.cell? ⟨w.heap.size + 2, 0, none⟩ = some (.int .i64 0) := B3.out.c 0 rfl
        have o1 : w6.cell? ⟨w.heap.size + 2, 1, none⟩ = some (.int .i64 0) := B3.out.c 1 rfl
        have o2 : w6.cell? ⟨w.heap.size + 2, 2, none⟩ = some (.int .i64 0) := B3.out.c 2 rfl
        have o3 : w6.cell? ⟨w.heap.size + 2, 3, none⟩ = some (.int .i64 0) := B3.out.c 3 rfl
        have o4 : w6.cell? ⟨w.heap.size + 2, 4, none⟩ = some (.int .i64 0) := B3.out.c 4 rfl
        have o5 : w6.cell? ⟨w.heap.size + 2, 5, none⟩ = some (.int .i64 0) := B3.out.c 5 rfl
        have o6 : w6.cell? ⟨w.heap.size + 2, 6, none⟩ = some (.int .i64 0) := B3.out.c 6 rfl
        have y0 : w6.frozen? ⟨w.heap.size + 2, 0, none⟩ = false := B3.out.f 0 rfl
        have y1 : w6.frozen? ⟨w.heap.size + 2, 1, none⟩ = false := B3.out.f 1 rfl
        have y2 : w6.frozen? ⟨w.heap.size + 2, 2, none⟩ = false := B3.out.f 2 rfl
        have y3 : w6.frozen? ⟨w.heap.size + 2, 3, none⟩ = false := B3.out.f 3 rfl
        have y4 : w6.frozen? ⟨w.heap.size + 2, 4, none⟩ = false := B3.out.f 4 rfl
        have y5 : w6.frozen? ⟨w.heap.size + 2, 5, none⟩ = false := B3.out.f 5 rfl
        have y6 : w6.frozen? ⟨w.heap.size + 2, 6, none⟩ = false := B3.out.f 6 rfl
        go_wp2_with fail
        refine bodyPost_ret (v := .tuple #[.agg #[.int .i64 0, .int .i64 0, .int .i64 0, .int .i64 0, .int .i64 0, .int .i64 0, .int .i64 0], .bool false, .int .i64 2]) (by simp [results, Try.results8, go_sem, o0, o1, o2, o3, o4, o5, o6]) rfl ⟨rfl, ?_⟩
        exact (Ext.set (Ext.set (Ext.set (Ext.set (Ext.set (Ext.set (Ext.set HX.out lt2.out _) lt2.out _) lt2.out _) lt2.out _) lt2.out _) lt2.out _) lt2.out _)
      · rw [hv] at er HO
        have ef : R = .tuple #[.agg #[.int .i64 r0, .int .i64 r1, .int .i64 r2, .int .i64 0, .int .i64 0, .int .i64 0, .int .i64 0], .bool true, .int .i64 0] := er.out
        subst ef
        clear er hv
        go_upto_region 8 with (go_at_call 19; refine (HM.out _).mono ?_; rintro e w4 ⟨rfl, x4⟩)
        clear c0 c1 c2 c3 c4 c5 c6 HM
        have B1 : Hid (HV w4 w.heap.size [.int .i64 b0, .int .i64 b1, .int .i64 b2, .int .i64 t0, .int .i64 t1, .int .i64 t2, .int .i64 (n + 1)]) := B1.out.ext x4
        have B2 : Hid (HV w4 (w.heap.size + 1) [.int .i64 v0, .int .i64 v1, .int .i64 v2]) := B2.out.ext x4
        have B3 : Hid (HV w4 (w.heap.size + 2) [.int .i64 0, .int .i64 0, .int .i64 0, .int .i64 0, .int .i64 0, .int .i64 0, .int .i64 0]) := B3.out.ext x4
        have HX : Hid (Ext w w4) := HX.out.trans x4
        clear x4
        have lt7 : w.heap.size + 2 < w4.heap.size := B3.out.1
        have M : Hid (HV (w4.alloc (.cells #[.int .i64 r0, .int .i64 r1, .int .i64 r2] 24)) w4.heap.size [.int .i64 r0, .int .i64 r1, .int .i64 r2]) := hv_at rfl
        have B3 : Hid (HV (w4.alloc (.cells #[.int .i64 r0, .int .i64 r1, .int .i64 r2] 24)) (w.heap.size + 2) [.int .i64 0, .int .i64 0, .int .i64 0, .int .i64 0, .int .i64 0, .int .i64 0, .int .i64 0]) := B3.out.alloc _
        have HX : Hid (Ext w (w4.alloc (.cells #[.int .i64 r0, .int .i64 r1, .int .i64 r2] 24))) := HX.out.alloc _
        clear B1 B2
        generalize (w4.alloc (.cells #[.int .i64 r0, .int .i64 r1, .int .i64 r2] 24)) = w5 at *
        generalize w4.heap.size = m at *
        have m0 : w5.cell? ⟨m, 0, none⟩ = some (.int .i64 r0) := M.out.c 0 rfl
        have m1 : w5.cell? ⟨m, 1, none⟩ = some (.int .i64 r1) := M.out.c 1 rfl
        have m2 : w5.cell? ⟨m, 2, none⟩ = some (.int .i64 r2) := M.out.c 2 rfl
        go_wp2_with fail
        refine (HO.out _).mono ?_
        rintro e w6 ⟨rfl, x6⟩
        have M : Hid (HV w6 m [.int .i64 r0, .int .i64 r1, .int .i64 r2]) := M.out.ext x6
        have B3 : Hid (HV w6 (w.heap.size + 2) [.int .i64 0, .int .i64 0, .int .i64 0, .int .i64 0, .int .i64 0, .int .i64 0, .int .i64 0]) := B3.out.ext x6
        have HX : Hid (Ext w w6) := HX.out.trans x6
        clear x6 m0 m1 m2
        have m0 : w6.cell? ⟨m, 0, none⟩ = some (.int .i64 r0) := M.out.c 0 rfl
        have m1 : w6.cell? ⟨m, 1, none⟩ = some (.int .i64 r1) := M.out.c 1 rfl
        have m2 : w6.cell? ⟨m, 2, none⟩ = some (.int .i64 r2) := M.out.c 2 rfl
        have o0 : w6.cell? ⟨w.heap.size + 2, 0, none⟩ = some (.int .i64 0) := B3.out.c 0 rfl
        have o1 : w6.cell? ⟨w.heap.size + 2, 1, none⟩ = some (.int .i64 0) := B3.out.c 1 rfl
        have o2 : w6.cell? ⟨w.heap.size + 2, 2, none⟩ = some (.int .i64 0) := B3.out.c 2 rfl
        have o3 : w6.cell? ⟨w.heap.size + 2, 3, none⟩ = some (.int .i64 0) := B3.out.c 3 rfl
        have o4 : w6.cell? ⟨w.heap.size + 2, 4, none⟩ = some (.int .i64 0) := B3.out.c 4 rfl
        have o5 : w6.cell? ⟨w.heap.size + 2, 5, none⟩ = some (.int .i64 0) := B3.out.c 5 rfl
        have o6 : w6.cell? ⟨w.heap.size + 2, 6, none⟩ = some (.int .i64 0) := B3.out.c 6 rfl
        have y0 : w6.frozen? ⟨w.heap.size + 2, 0, none⟩ = false := B3.out.f 0 rfl
        have y1 : w6.frozen? ⟨w.heap.size + 2, 1, none⟩ = false := B3.out.f 1 rfl
        have y2 : w6.frozen? ⟨w.heap.size + 2, 2, none⟩ = false := B3.out.f 2 rfl
        have y3 : w6.frozen? ⟨w.heap.size + 2, 3, none⟩ = false := B3.out.f 3 rfl
        have y4 : w6.frozen? ⟨w.heap.size + 2, 4, none⟩ = false := B3.out.f 4 rfl
        have y5 : w6.frozen? ⟨w.heap.size + 2, 5, none⟩ = false := B3.out.f 5 rfl
        have y6 : w6.frozen? ⟨w.heap.size + 2, 6, none⟩ = false := B3.out.f 6 rfl
        go_wp2_with fail
        refine bodyPost_ret (v := .tuple #[.agg #[.int .i64 r0, .int .i64 r1, .int .i64 r2, .int .i64 0, .int .i64 0, .int .i64 0, .int .i64 0], .bool true, .int .i64 0]) (by simp [results, Try.results8, go_sem, o0, o1, o2, o3, o4, o5, o6]) rfl ⟨rfl, ?_⟩
        exact (Ext.set (Ext.set (Ext.set (Ext.set (Ext.set (Ext.set (Ext.set HX.out lt2.out _) lt2.out _) lt2.out _) lt2.out _) lt2.out _) lt2.out _) lt2.out _)
  · have ef : R = .tuple #[.agg #[.int .i64 b0, .int .i64 b1, .int .i64 b2, .int .i64 0, .int .i64 0, .int .i64 0, .int .i64 0], .bool false, .int .i64 0] := er.out.trans (if_neg hq)
    subst ef
    clear er
    have o0 : wa.cell? ⟨w.heap.size + 2, 0, none⟩ = some (.int .i64 0) := B3.out.c 0 rfl
    have o1 : wa.cell? ⟨w.heap.size + 2, 1, none⟩ = some (.int .i64 0) := B3.out.c 1 rfl
    have o2 : wa.cell? ⟨w.heap.size + 2, 2, none⟩ = some (.int .i64 0) := B3.out.c 2 rfl
    have o3 : wa.cell? ⟨w.heap.size + 2, 3, none⟩ = some (.int .i64 0) := B3.out.c 3 rfl
    have o4 : wa.cell? ⟨w.heap.size + 2, 4, none⟩ = some (.int .i64 0) := B3.out.c 4 rfl
    have o5 : wa.cell? ⟨w.heap.size + 2, 5, none⟩ = some (.int .i64 0) := B3.out.c 5 rfl
    have o6 : wa.cell? ⟨w.heap.size + 2, 6, none⟩ = some (.int .i64 0) := B3.out.c 6 rfl
    have y0 : wa.frozen? ⟨w.heap.size + 2, 0, none⟩ = false := B3.out.f 0 rfl
    have y1 : wa.frozen? ⟨w.heap.size + 2, 1, none⟩ = false := B3.out.f 1 rfl
    have y2 : wa.frozen? ⟨w.heap.size + 2, 2, none⟩ = false := B3.out.f 2 rfl
    have y3 : wa.frozen? ⟨w.heap.size + 2, 3, none⟩ = false := B3.out.f 3 rfl
    have y4 : wa.frozen? ⟨w.heap.size + 2, 4, none⟩ = false := B3.out.f 4 rfl
    have y5 : wa.frozen? ⟨w.heap.size + 2, 5, none⟩ = false := B3.out.f 5 rfl
    have y6 : wa.frozen? ⟨w.heap.size + 2, 6, none⟩ = false := B3.out.f 6 rfl
    cases q0
    · go_wp2_with (first | (go_at_call_of 17 (Value.int IntKind.i64 v0); refine (H0.out _).mono ?_; rintro e wx ⟨rfl, hwx⟩; have hwy := hwx.symm; clear hwx; subst hwy) | (go_at_call_of 17 (Value.int IntKind.i64 v1); refine (H1.out _).mono ?_; rintro e wx ⟨rfl, hwx⟩; have hwy := hwx.symm; clear hwx; subst hwy) | (go_at_call_of 17 (Value.int IntKind.i64 v2); refine (H2.out _).mono ?_; rintro e wx ⟨rfl, hwx⟩; have hwy := hwx.symm; clear hwx; subst hwy))
      refine bodyPost_ret (v := .tuple #[.agg #[.int .i64 b0, .int .i64 b1, .int .i64 b2, .int .i64 0, .int .i64 0, .int .i64 0, .int .i64 0], .bool false, .int .i64 0]) (by simp [results, Try.results8, go_sem, o0, o1, o2, o3, o4, o5, o6]) rfl ⟨rfl, ?_⟩
      exact (Ext.set (Ext.set (Ext.set (Ext.set (Ext.set (Ext.set (Ext.set HX.out lt2.out _) lt2.out _) lt2.out _) lt2.out _) lt2.out _) lt2.out _) lt2.out _)
    · cases q1
      · go_wp2_with (first | (go_at_call_of 17 (Value.int IntKind.i64 v0); refine (H0.out _).mono ?_; rintro e wx ⟨rfl, hwx⟩; have hwy := hwx.symm; clear hwx; subst hwy) | (go_at_call_of 17 (Value.int IntKind.i64 v1); refine (H1.out _).mono ?_; rintro e wx ⟨rfl, hwx⟩; have hwy := hwx.symm; clear hwx; subst hwy) | (go_at_call_of 17 (Value.int IntKind.i64 v2); refine (H2.out _).mono ?_; rintro e wx ⟨rfl, hwx⟩; have hwy := hwx.symm; clear hwx; subst hwy))
        refine bodyPost_ret (v := .tuple #[.agg #[.int .i64 b0, .int .i64 b1, .int .i64 b2, .int .i64 0, .int .i64 0, .int .i64 0, .int .i64 0], .bool false, .int .i64 0]) (by simp [results, Try.results8, go_sem, o0, o1, o2, o3, o4, o5, o6]) rfl ⟨rfl, ?_⟩
        exact (Ext.set (Ext.set (Ext.set (Ext.set (Ext.set (Ext.set (Ext.set HX.out lt2.out _) lt2.out _) lt2.out _) lt2.out _) lt2.out _) lt2.out _) lt2.out _)
      · cases q2
        · go_wp2_with (first | (go_at_call_of 17 (Value.int IntKind.i64 v0); refine (H0.out _).mono ?_; rintro e wx ⟨rfl, hwx⟩; have hwy := hwx.symm; clear hwx; subst hwy) | (go_at_call_of 17 (Value.int IntKind.i64 v1); refine (H1.out _).mono ?_; rintro e wx ⟨rfl, hwx⟩; have hwy := hwx.symm; clear hwx; subst hwy) | (go_at_call_of 17 (Value.int IntKind.i64 v2); refine (H2.out _).mono ?_; rintro e wx ⟨rfl, hwx⟩; have hwy := hwx.symm; clear hwx; subst hwy))
          refine bodyPost_ret (v := .tuple #[.agg #[.int .i64 b0, .int .i64 b1, .int .i64 b2, .int .i64 0, .int .i64 0, .int .i64 0, .int .i64 0], .bool false, .int .i64 0]) (by simp [results, Try.results8, go_sem, o0, o1, o2, o3, o4, o5, o6]) rfl ⟨rfl, ?_⟩
          exact (Ext.set (Ext.set (Ext.set (Ext.set (Ext.set (Ext.set (Ext.set HX.out lt2.out _) lt2.out _) lt2.out _) lt2.out _) lt2.out _) lt2.out _) lt2.out _)
        · exact absurd rfl hq

end Go.Proofs.Ytcbelhalckehcaa
