/- gimbalref10: what layer 14 needs, in one text. -/
import Derived.Test.YtkcfgkedgjpeoaaTh4M
import Derived.Test.YtkcfgkedgjpeoaaRef1
import Derived.BigRegion
namespace Go.Proofs.Ytkcfgkedgjpeoaa
open Go.RowKit Go.Shelf
theorem near_abs {s k b : Int} (hk : 0 < k) (hb : 0 ≤ b) (h1 : -b ≤ s) (h2 : s ≤ b) : -b ≤ nearI s k ∧ nearI s k ≤ b := by
  obtain ⟨g1, g2, _⟩ := nearI_spec s k hk
  generalize nearI s k = z at *
  refine ⟨?_, ?_⟩
  · by_cases h : -b ≤ z
    · exact h
    · exfalso
      have m : z * k ≤ (-b - 1) * k := Int.mul_le_mul_of_nonneg_right (by omega) (by omega)
      have m2 : b * 1 ≤ b * k := Int.mul_le_mul_of_nonneg_left (by omega) hb
      rw [Int.sub_mul, Int.neg_mul, Int.one_mul] at m
      omega
  · by_cases h : z ≤ b
    · exact h
    · exfalso
      have m : (b + 1) * k ≤ z * k := Int.mul_le_mul_of_nonneg_right (by omega) (by omega)
      have m2 : b * 1 ≤ b * k := Int.mul_le_mul_of_nonneg_left (by omega) hb
      rw [Int.add_mul, Int.one_mul] at m
      omega
set_option maxHeartbeats 4000000 in
theorem rnear_any (s : Int) (m : Nat) (w : World) (hm1 : 1 ≤ m) (hm2 : m ≤ 256) (h1 : -18014398509481984 ≤ s) (h2 : s ≤ 18014398509481984) :
    Calls Try.prog 25 #[.int .i64 s, .int .i64 (m : Int)] w fun e w' => e = .returned (.int .i64 (nearI s m)) ∧ Ext w w' := by
  have hz : IsNear s ((m : Nat) : Int) (nearI s m) := nearI_spec s m (by omega)
  have hb : -18014398509481984 ≤ (nearI s m) ∧ (nearI s m) ≤ 18014398509481984 := near_abs (by omega) (by decide) h1 h2
  have fs : Fit 64 s := fit_word s (by omega) (by omega)
  have fd : Fit 64 ((m : Nat) : Int) := fit_word _ (by omega) (by omega)
  have fz : SmallI (nearI s m) := (fit_word (nearI s m) (by omega) (by omega)).small (by omega)
  have HF : Hid (∀ w, Calls Try.prog 37 #[.int .i64 s] w fun e w' => (∃ r, e = .returned r ∧ IsI w' r s) ∧ Ext w w') := fun w => from_any s w (by omega) (by omega)
  have HO : Hid (∀ w, Calls Try.prog 38 #[.int .u64 (m : Int)] w fun e w' => (∃ v', e = .returned v' ∧ IsN w' v' m) ∧ Ext w w') := fun w => nof_any m (by omega) w
  have hlow := near_lowest s m (by omega) (nearI s m) hz
  have hg : 0 < Nat.gcd s.natAbs m := Nat.gcd_pos_of_pos_right _ (by omega)
  have hgd : Nat.gcd s.natAbs m ≤ m := Nat.le_of_dvd (by omega) (Nat.gcd_dvd_right _ _)
  have hd0 : m / Nat.gcd s.natAbs m ≠ 0 := by
    have := Nat.div_pos hgd hg
    omega
  have hdp : (0 : Int) < ((m / Nat.gcd s.natAbs m : Nat) : Int) := Int.natCast_pos.2 (Nat.div_pos hgd hg)
  have HM : Hid (∀ r u w, IsI w r s → IsN w u m → Calls Try.prog 36 #[r, u] w fun e w' => (∃ q, e = .returned q ∧ IsQ w' q (s / (Nat.gcd s.natAbs m : Int)) (m / Nat.gcd s.natAbs m)) ∧ Ext w w') := fun r u w k1 k2 => make_isQ s m 64 r u w k1 k2 (by omega) (by omega) fs fd
  have HN : Hid (∀ q w, IsQ w q (s / (Nat.gcd s.natAbs m : Int)) (m / Nat.gcd s.natAbs m) → Calls Try.prog 35 #[q] w fun e w' => (∃ r, e = .returned r ∧ IsI w' r (nearI s m)) ∧ Ext w w') := fun q w hq => by
    have h := near_isI _ _ 64 q w hq hd0 (by omega) (fs.of_le (natAbs_ediv_le _ _ (by omega))) (fd.of_le (by rw [Int.natAbs_natCast, Int.natAbs_natCast]; exact Nat.div_le_self _ _))
    rw [((nearI_spec _ _ hdp).unique hdp hlow)] at h
    exact h
  have es : smallR (nearI s m) = (nearI s m, true) := by unfold smallR; rw [if_pos (by omega)]
  have HS : Hid (∀ r w, IsI w r (nearI s m) → Calls Try.prog 34 #[r] w fun e w' => e = .returned (.tuple #[.int .i64 (nearI s m), .bool true]) ∧ Ext w w') := fun r w hr => by
    have h := small_any (nearI s m) r w hr fz
    rw [es] at h
    exact h
  have hw : IntKind.u64.wrap (m : Int) = (m : Int) := by rw [IntKind.wrap_u64]; omega
  clear hz hb fs fd fz hlow hg hgd hd0 hdp es
  generalize nearI s m = z at *
  generalize s / (Nat.gcd s.natAbs m : Int) = c at *
  generalize m / Nat.gcd s.natAbs m = d at *
  go_enter Try.func25, Try.ntmps25
  go_wp2_with fail
  refine (HF.out _).mono ?_
  rintro e w1 ⟨⟨r1, rfl, i1⟩, x1⟩
  have i1 : Hid (IsI w1 r1 s) := i1
  obtain ⟨r1b, r1u, e1⟩ : ∃ b u, r1 = .agg #[.bool b, u] := by obtain ⟨u, e, _⟩ := i1.out; exact ⟨_, u, e⟩
  subst e1
  go_wp2_with fail
  refine (HO.out _).mono ?_
  rintro e w2 ⟨⟨v2, rfl, i2⟩, x2⟩
  have i2 : Hid (IsN w2 v2 m) := i2
  go_wp2_with fail
  refine (HM.out _ _ _ (i1.out.ext x2) i2.out).mono ?_
  rintro e w3 ⟨⟨q3, rfl, i3⟩, x3⟩
  have i3 : Hid (IsQ w3 q3 c d) := i3
  go_wp2_with fail
  refine (HN.out _ _ i3.out).mono ?_
  rintro e w4 ⟨⟨r4, rfl, i4⟩, x4⟩
  have i4 : Hid (IsI w4 r4 z) := i4
  go_wp2_with fail
  refine (HS.out _ _ i4.out).mono ?_
  rintro e w5 ⟨rfl, x5⟩
  have X5 : Hid (Ext w w5) := (((x1.trans x2).trans x3).trans x4).trans x5
  clear x1 x2 x3 x4 x5
  go_wp2_with fail
  go_ret
  exact ⟨rfl, X5.out⟩
set_option maxRecDepth 20000 in
set_option maxHeartbeats 8000000 in
theorem rmean_any (s0 s1 s2 : Int) (m : Nat) (w : World) (hm1 : 1 ≤ m) (hm2 : m ≤ 256) (h0 : -18014398509481984 ≤ s0 ∧ s0 ≤ 18014398509481984) (h1 : -18014398509481984 ≤ s1 ∧ s1 ≤ 18014398509481984) (h2 : -18014398509481984 ≤ s2 ∧ s2 ≤ 18014398509481984) :
    Calls Try.prog 17 #[.agg #[.int .i64 s0, .int .i64 s1, .int .i64 s2], .int .i64 (m : Int)] w fun e w' => e = .returned (.agg #[.int .i64 (nearI s0 m), .int .i64 (nearI s1 m), .int .i64 (nearI s2 m)]) ∧ Ext w w' := by
  have B0 : Hid (∀ w, Calls Try.prog 25 #[.int .i64 s0, .int .i64 (m : Int)] w fun e w' => e = .returned (.int .i64 (nearI s0 m)) ∧ Ext w w') := fun w => rnear_any s0 m w hm1 hm2 h0.1 h0.2
  have B1 : Hid (∀ w, Calls Try.prog 25 #[.int .i64 s1, .int .i64 (m : Int)] w fun e w' => e = .returned (.int .i64 (nearI s1 m)) ∧ Ext w w') := fun w => rnear_any s1 m w hm1 hm2 h1.1 h1.2
  have B2 : Hid (∀ w, Calls Try.prog 25 #[.int .i64 s2, .int .i64 (m : Int)] w fun e w' => e = .returned (.int .i64 (nearI s2 m)) ∧ Ext w w') := fun w => rnear_any s2 m w hm1 hm2 h2.1 h2.2
  have C1 : Hid (HV ((w.alloc (.cells #[.int .i64 s0, .int .i64 s1, .int .i64 s2] 24)).alloc (.cells #[.int .i64 0, .int .i64 0, .int .i64 0] 24)) w.heap.size [.int .i64 s0, .int .i64 s1, .int .i64 s2]) := (hv_at rfl).alloc _
  have C2 : Hid (HV ((w.alloc (.cells #[.int .i64 s0, .int .i64 s1, .int .i64 s2] 24)).alloc (.cells #[.int .i64 0, .int .i64 0, .int .i64 0] 24)) (w.heap.size + 1) [.int .i64 0, .int .i64 0, .int .i64 0]) := hv_at (by simp)
  have HX : Hid (Ext w ((w.alloc (.cells #[.int .i64 s0, .int .i64 s1, .int .i64 s2] 24)).alloc (.cells #[.int .i64 0, .int .i64 0, .int .i64 0] 24))) := ((Ext.refl w).alloc _).alloc _
  have lt1 : Hid (w.heap.size ≤ w.heap.size + 1) := Nat.le_add_right _ _
  clear h0 h1 h2 hm1 hm2
  generalize nearI s0 m = r0 at *
  generalize nearI s1 m = r1 at *
  generalize nearI s2 m = r2 at *
  go_enter Try.func17, Try.ntmps17
  go_upto_region 1 with fail
  generalize ((w.alloc (.cells #[.int .i64 s0, .int .i64 s1, .int .i64 s2] 24)).alloc (.cells #[.int .i64 0, .int .i64 0, .int .i64 0] 24)) = wa at *
  obtain ⟨c0, c1, c2⟩ := C1.out.k3
  obtain ⟨z0, z1, z2⟩ := C2.out.k3
  obtain ⟨f0, f1, f2⟩ := C2.out.z3
  go_region_held3 (fun w' => w'.cell? ⟨w.heap.size, 0, none⟩ = some (.int .i64 s0) ∧ w'.cell? ⟨w.heap.size, 1, none⟩ = some (.int .i64 s1) ∧ w'.cell? ⟨w.heap.size, 2, none⟩ = some (.int .i64 s2)) (first | (simp [*]; done) | (refine ⟨?_, ?_, ?_⟩ <;> (rw [World.cell?_setCell_far _ _ _ _ (by dsimp only; omega), World.cell?_setCell_far _ _ _ _ (by dsimp only; omega), World.cell?_setCell_far _ _ _ _ (by dsimp only; omega)]; with_reducible assumption)) | skip) (first | (go_at_call_of 25 (Value.int IntKind.i64 s0); refine (B0.out _).mono ?_; rintro e m0 ⟨rfl, q0⟩; have Y0 : Ext wa m0 := Ext.trans (by repeat (first | with_reducible assumption | with_reducible exact Ext.refl _ | with_reducible refine Ext.drew ?_ | with_reducible refine Ext.drewN ?_ _ | with_reducible refine Ext.alloc ?_ _ | with_reducible refine Ext.set ?_ (by first | exact Nat.le_refl _ | (dsimp only; omega) | (simp; done)) _)) q0; obtain ⟨a00, a01, a02⟩ := (C1.out.ext Y0).k3; obtain ⟨d00, d01, d02⟩ := (C2.out.ext Y0).k3; obtain ⟨g00, g01, g02⟩ := (C2.out.ext Y0).z3) | (go_at_call_of 25 (Value.int IntKind.i64 s1); refine (B1.out _).mono ?_; rintro e m1 ⟨rfl, q1⟩; have Y1 : Ext wa m1 := Ext.trans (by repeat (first | with_reducible assumption | with_reducible exact Ext.refl _ | with_reducible refine Ext.drew ?_ | with_reducible refine Ext.drewN ?_ _ | with_reducible refine Ext.alloc ?_ _ | with_reducible refine Ext.set ?_ (by first | exact Nat.le_refl _ | (dsimp only; omega) | (simp; done)) _)) q1; obtain ⟨a10, a11, a12⟩ := (C1.out.ext Y1).k3; obtain ⟨d10, d11, d12⟩ := (C2.out.ext Y1).k3; obtain ⟨g10, g11, g12⟩ := (C2.out.ext Y1).z3) | (go_at_call_of 25 (Value.int IntKind.i64 s2); refine (B2.out _).mono ?_; rintro e m2 ⟨rfl, q2⟩; have Y2 : Ext wa m2 := Ext.trans (by repeat (first | with_reducible assumption | with_reducible exact Ext.refl _ | with_reducible refine Ext.drew ?_ | with_reducible refine Ext.drewN ?_ _ | with_reducible refine Ext.alloc ?_ _ | with_reducible refine Ext.set ?_ (by first | exact Nat.le_refl _ | (dsimp only; omega) | (simp; done)) _)) q2; obtain ⟨a20, a21, a22⟩ := (C1.out.ext Y2).k3; obtain ⟨d20, d21, d22⟩ := (C2.out.ext Y2).k3; obtain ⟨g20, g21, g22⟩ := (C2.out.ext Y2).z3))
  all_goals
    go_wp2_with fail
    refine bodyPost_ret (v := .agg #[.int .i64 r0, .int .i64 r1, .int .i64 r2]) (by simp [results, Try.results17, go_sem, *]) rfl ⟨rfl, ?_⟩
    first | exact Ext.set (Ext.set (Ext.set (HX.out.trans Y2) lt1.out _) lt1.out _) lt1.out _ | exact Ext.set (Ext.set (Ext.set (HX.out.trans Y1) lt1.out _) lt1.out _) lt1.out _ | exact Ext.set (Ext.set (Ext.set (HX.out.trans Y0) lt1.out _) lt1.out _) lt1.out _
set_option maxHeartbeats 400000 in
theorem rwithin_any (x : Int) (w : World) : Calls Try.prog 24 #[.int .i64 x, .int .i64 9007199254740992] w fun e w' => e = .returned (.bool (okS x)) ∧ w' = w := by
  by_cases h1 : -9007199254740992 < x
  · by_cases h2 : x < 9007199254740992
    · have e : Hid (okS x = true) := okS_iff.2 ⟨h1, h2⟩
      go_enter Try.func24, Try.ntmps24
      go_wp2_with fail
      go_ret
      rw [e.out]; exact ⟨rfl, rfl⟩
    · have e : Hid (okS x = false) := Bool.eq_false_iff.2 (fun h => h2 (okS_iff.1 h).2)
      go_enter Try.func24, Try.ntmps24
      go_wp2_with fail
      go_ret
      rw [e.out]; exact ⟨rfl, rfl⟩
  · have e : Hid (okS x = false) := Bool.eq_false_iff.2 (fun h => h1 (okS_iff.1 h).1)
    go_enter Try.func24, Try.ntmps24
    go_wp2_with fail
    go_ret
    rw [e.out]; exact ⟨rfl, rfl⟩
set_option maxRecDepth 20000 in
set_option maxHeartbeats 4000000 in
theorem rall_any (x y z : Int) (w : World) : Calls Try.prog 14 #[.agg #[.int .i64 x, .int .i64 y, .int .i64 z], .int .i64 9007199254740992] w fun e w' => e = .returned (.bool (okS3 x y z)) ∧ Ext w w' := by
  have HX : Hid (∀ w, Calls Try.prog 24 #[.int .i64 x, .int .i64 9007199254740992] w fun e w' => e = .returned (.bool (okS x)) ∧ w' = w) := rwithin_any x
  have HY : Hid (∀ w, Calls Try.prog 24 #[.int .i64 y, .int .i64 9007199254740992] w fun e w' => e = .returned (.bool (okS y)) ∧ w' = w) := rwithin_any y
  have HZ : Hid (∀ w, Calls Try.prog 24 #[.int .i64 z, .int .i64 9007199254740992] w fun e w' => e = .returned (.bool (okS z)) ∧ w' = w) := rwithin_any z
  have ex : Hid (okS3 x y z = (okS x && okS y && okS z)) := rfl
  generalize okS x = p1 at *
  generalize okS y = p2 at *
  generalize okS z = p3 at *
  generalize okS3 x y z = R at *
  have hx : Ext w (w.alloc (.cells #[.int .i64 x, .int .i64 y, .int .i64 z] 24)) := (Ext.refl w).alloc _
  cases p1 <;> cases p2 <;> cases p3
  all_goals
    go_enter Try.func14, Try.ntmps14
    go_wp2_with (first | (go_at_call_of 24 (Value.int IntKind.i64 x); refine (HX.out _).mono ?_; rintro e wx ⟨rfl, hwx⟩; have hwy := hwx.symm; clear hwx; subst hwy) | (go_at_call_of 24 (Value.int IntKind.i64 y); refine (HY.out _).mono ?_; rintro e wx ⟨rfl, hwx⟩; have hwy := hwx.symm; clear hwx; subst hwy) | (go_at_call_of 24 (Value.int IntKind.i64 z); refine (HZ.out _).mono ?_; rintro e wx ⟨rfl, hwx⟩; have hwy := hwx.symm; clear hwx; subst hwy))
    go_ret
    rw [ex.out]
    exact ⟨by first | rfl | simp, hx⟩
set_option maxRecDepth 20000 in
set_option maxHeartbeats 4000000 in
theorem rplus_any (a0 a1 a2 b0 b1 b2 : Int) (w : World) (h0 : -18014398509481984 ≤ a0 + b0 ∧ a0 + b0 ≤ 18014398509481984) (h1 : -18014398509481984 ≤ a1 + b1 ∧ a1 + b1 ≤ 18014398509481984) (h2 : -18014398509481984 ≤ a2 + b2 ∧ a2 + b2 ≤ 18014398509481984) :
    Calls Try.prog 16 #[.agg #[.int .i64 a0, .int .i64 a1, .int .i64 a2], .agg #[.int .i64 b0, .int .i64 b1, .int .i64 b2]] w fun e w' => e = .returned (.agg #[.int .i64 (a0 + b0), .int .i64 (a1 + b1), .int .i64 (a2 + b2)]) ∧ Ext w w' := by
  obtain ⟨h01, h02⟩ := h0
  obtain ⟨h11, h12⟩ := h1
  obtain ⟨h21, h22⟩ := h2
  go_enter Try.func16, Try.ntmps16
  go_wp2_with fail
  exact bodyPost_ret (v := .agg #[.int .i64 (a0 + b0), .int .i64 (a1 + b1), .int .i64 (a2 + b2)]) (by simp [results, Try.results16, go_sem]) rfl ⟨rfl, by repeat (first | with_reducible assumption | with_reducible exact Ext.refl _ | with_reducible refine Ext.drew ?_ | with_reducible refine Ext.drewN ?_ _ | with_reducible refine Ext.alloc ?_ _ | with_reducible refine Ext.set ?_ (by first | exact Nat.le_refl _ | (dsimp only; omega) | (simp; done)) _)⟩

set_option maxRecDepth 20000 in
set_option maxHeartbeats 8000000 in
theorem maythin_any (s0 s1 s2 n : Int) (w : World) : Calls Try.prog 6 #[.agg #[.int .i64 s0, .int .i64 s1, .int .i64 s2, .int .i64 n]] w fun e w' => e = .returned (.bool (okT s0 s1 s2 n)) ∧ Ext w w' := by
  have HA : Hid (∀ w, Calls Try.prog 14 #[.agg #[.int .i64 s0, .int .i64 s1, .int .i64 s2], .int .i64 9007199254740992] w fun e w' => e = .returned (.bool (okS3 s0 s1 s2)) ∧ Ext w w') := rall_any s0 s1 s2
  have B1 : Hid (HV (w.alloc (.cells #[.int .i64 s0, .int .i64 s1, .int .i64 s2, .int .i64 n] 26)) w.heap.size [.int .i64 s0, .int .i64 s1, .int .i64 s2, .int .i64 n]) := hv_at rfl
  have HX : Hid (Ext w (w.alloc (.cells #[.int .i64 s0, .int .i64 s1, .int .i64 s2, .int .i64 n] 26))) := (Ext.refl w).alloc _
  have eo : Hid (okT s0 s1 s2 n = if n = 0 then decide (s0 = 0 ∧ s1 = 0 ∧ s2 = 0) else decide (0 < n) && decide (n < 256) && okS3 s0 s1 s2) := rfl
  have hz : Hid (s0 = 0 ∧ s1 = 0 ∧ s2 = 0 → okS3 s0 s1 s2 = true) := fun h => by obtain ⟨rfl, rfl, rfl⟩ := h; decide
  generalize okT s0 s1 s2 n = R at *
  generalize okS3 s0 s1 s2 = p at *
  by_cases n0 : 0 ≤ n
  · by_cases n1 : n < 256
    · by_cases n2 : 0 < n
      · have er : R = p := by rw [eo.out, if_neg (by omega)]; simp [n1, n2]
        subst er
        clear eo hz
        go_enter Try.func6, Try.ntmps6
        go_upto_region 1 with fail
        generalize (w.alloc (.cells #[.int .i64 s0, .int .i64 s1, .int .i64 s2, .int .i64 n] 26)) = wa at *
        have c0 : wa.cell? ⟨w.heap.size, 0, none⟩ = some (.int .i64 s0) := B1.out.c 0 rfl
        have c1 : wa.cell? ⟨w.heap.size, 1, none⟩ = some (.int .i64 s1) := B1.out.c 1 rfl
        have c2 : wa.cell? ⟨w.heap.size, 2, none⟩ = some (.int .i64 s2) := B1.out.c 2 rfl
        have c3 : wa.cell? ⟨w.heap.size, 3, none⟩ = some (.int .i64 n) := B1.out.c 3 rfl
        go_wp2_with fail
        refine (HA.out _).mono ?_
        rintro e w1 ⟨rfl, x1⟩
        have HX : Hid (Ext w w1) := HX.out.trans x1
        have B1 : Hid (HV w1 w.heap.size [.int .i64 s0, .int .i64 s1, .int .i64 s2, .int .i64 n]) := B1.out.ext x1
        clear x1 c0 c1 c2 c3
        have c0 : w1.cell? ⟨w.heap.size, 0, none⟩ = some (.int .i64 s0) := B1.out.c 0 rfl
        have c1 : w1.cell? ⟨w.heap.size, 1, none⟩ = some (.int .i64 s1) := B1.out.c 1 rfl
        have c2 : w1.cell? ⟨w.heap.size, 2, none⟩ = some (.int .i64 s2) := B1.out.c 2 rfl
        have c3 : w1.cell? ⟨w.heap.size, 3, none⟩ = some (.int .i64 n) := B1.out.c 3 rfl
        cases R
        all_goals
          go_wp2_with fail
          go_ret
          exact ⟨rfl, HX.out⟩
      · have n3 : n = 0 := by omega
        subst n3
        cases p
        · have er : R = false := by rw [eo.out, if_pos rfl]; exact decide_eq_false (fun h => absurd (hz.out h) (by decide))
          subst er
          clear eo hz
          go_enter Try.func6, Try.ntmps6
          go_upto_region 1 with fail
          generalize (w.alloc (.cells #[.int .i64 s0, .int .i64 s1, .int .i64 s2, .int .i64 0] 26)) = wa at *
          have c0 : wa.cell? ⟨w.heap.size, 0, none⟩ = some (.int .i64 s0) := B1.out.c 0 rfl
          have c1 : wa.cell? ⟨w.heap.size, 1, none⟩ = some (.int .i64 s1) := B1.out.c 1 rfl
          have c2 : wa.cell? ⟨w.heap.size, 2, none⟩ = some (.int .i64 s2) := B1.out.c 2 rfl
          have c3 : wa.cell? ⟨w.heap.size, 3, none⟩ = some (.int .i64 0) := B1.out.c 3 rfl
          go_wp2_with fail
          refine (HA.out _).mono ?_
          rintro e w1 ⟨rfl, x1⟩
          have HX : Hid (Ext w w1) := HX.out.trans x1
          have B1 : Hid (HV w1 w.heap.size [.int .i64 s0, .int .i64 s1, .int .i64 s2, .int .i64 0]) := B1.out.ext x1
          clear x1 c0 c1 c2 c3
          have c0 : w1.cell? ⟨w.heap.size, 0, none⟩ = some (.int .i64 s0) := B1.out.c 0 rfl
          have c1 : w1.cell? ⟨w.heap.size, 1, none⟩ = some (.int .i64 s1) := B1.out.c 1 rfl
          have c2 : w1.cell? ⟨w.heap.size, 2, none⟩ = some (.int .i64 s2) := B1.out.c 2 rfl
          have c3 : w1.cell? ⟨w.heap.size, 3, none⟩ = some (.int .i64 0) := B1.out.c 3 rfl
          go_wp2_with fail
          go_ret
          exact ⟨rfl, HX.out⟩
        · have er : Hid (R = decide (s0 = 0 ∧ s1 = 0 ∧ s2 = 0)) := eo.out.trans (if_pos rfl)
          clear eo hz
          go_enter Try.func6, Try.ntmps6
          go_upto_region 1 with fail
          generalize (w.alloc (.cells #[.int .i64 s0, .int .i64 s1, .int .i64 s2, .int .i64 0] 26)) = wa at *
          have c0 : wa.cell? ⟨w.heap.size, 0, none⟩ = some (.int .i64 s0) := B1.out.c 0 rfl
          have c1 : wa.cell? ⟨w.heap.size, 1, none⟩ = some (.int .i64 s1) := B1.out.c 1 rfl
          have c2 : wa.cell? ⟨w.heap.size, 2, none⟩ = some (.int .i64 s2) := B1.out.c 2 rfl
          have c3 : wa.cell? ⟨w.heap.size, 3, none⟩ = some (.int .i64 0) := B1.out.c 3 rfl
          go_wp2_with fail
          refine (HA.out _).mono ?_
          rintro e w1 ⟨rfl, x1⟩
          have HX : Hid (Ext w w1) := HX.out.trans x1
          have B1 : Hid (HV w1 w.heap.size [.int .i64 s0, .int .i64 s1, .int .i64 s2, .int .i64 0]) := B1.out.ext x1
          clear x1 c0 c1 c2 c3
          have c0 : w1.cell? ⟨w.heap.size, 0, none⟩ = some (.int .i64 s0) := B1.out.c 0 rfl
          have c1 : w1.cell? ⟨w.heap.size, 1, none⟩ = some (.int .i64 s1) := B1.out.c 1 rfl
          have c2 : w1.cell? ⟨w.heap.size, 2, none⟩ = some (.int .i64 s2) := B1.out.c 2 rfl
          have c3 : w1.cell? ⟨w.heap.size, 3, none⟩ = some (.int .i64 0) := B1.out.c 3 rfl
          go_wp2_with fail
          all_goals
            go_ret
            exact ⟨by rw [er.out]; simp [*], HX.out⟩
    · have er : R = false := by rw [eo.out, if_neg (by omega)]; simp [n1]
      subst er
      clear eo hz
      go_enter Try.func6, Try.ntmps6
      go_upto_region 1 with fail
      generalize (w.alloc (.cells #[.int .i64 s0, .int .i64 s1, .int .i64 s2, .int .i64 n] 26)) = wa at *
      have c0 : wa.cell? ⟨w.heap.size, 0, none⟩ = some (.int .i64 s0) := B1.out.c 0 rfl
      have c1 : wa.cell? ⟨w.heap.size, 1, none⟩ = some (.int .i64 s1) := B1.out.c 1 rfl
      have c2 : wa.cell? ⟨w.heap.size, 2, none⟩ = some (.int .i64 s2) := B1.out.c 2 rfl
      have c3 : wa.cell? ⟨w.heap.size, 3, none⟩ = some (.int .i64 n) := B1.out.c 3 rfl
      go_wp2_with fail
      go_ret
      exact ⟨rfl, HX.out⟩
  · have er : R = false := by rw [eo.out, if_neg (by omega)]; simp; omega
    subst er
    clear eo hz
    go_enter Try.func6, Try.ntmps6
    go_upto_region 1 with fail
    generalize (w.alloc (.cells #[.int .i64 s0, .int .i64 s1, .int .i64 s2, .int .i64 n] 26)) = wa at *
    have c0 : wa.cell? ⟨w.heap.size, 0, none⟩ = some (.int .i64 s0) := B1.out.c 0 rfl
    have c1 : wa.cell? ⟨w.heap.size, 1, none⟩ = some (.int .i64 s1) := B1.out.c 1 rfl
    have c2 : wa.cell? ⟨w.heap.size, 2, none⟩ = some (.int .i64 s2) := B1.out.c 2 rfl
    have c3 : wa.cell? ⟨w.heap.size, 3, none⟩ = some (.int .i64 n) := B1.out.c 3 rfl
    go_wp2_with fail
    go_ret
    exact ⟨rfl, HX.out⟩
set_option maxRecDepth 20000 in
set_option maxHeartbeats 16000000 in
theorem rthin_any (s0 s1 s2 n k v0 v1 v2 : Int) (w : World) (h1 : okT s0 s1 s2 n = true) (h2 : okK k = true) (h3 : ok3 v0 v1 v2 = true) : Calls Try.prog 8 #[.agg #[.int .i64 s0, .int .i64 s1, .int .i64 s2, .int .i64 n], .int .i64 k, .agg #[.int .i64 v0, .int .i64 v1, .int .i64 v2]] w fun e w' => e = .returned (takeT s0 s1 s2 n k v0 v1 v2) ∧ Ext w w' := by
  obtain ⟨n1, n2, a0, a1, a2⟩ := okT_bounds h1
  obtain ⟨q0, q1, q2⟩ := ok3_parts h3
  have g0 := okW_bounds q0
  have g1 := okW_bounds q1
  have g2 := okW_bounds q2
  have er : takeT s0 s1 s2 n k v0 v1 v2 = (if n + 1 < k then .tuple #[.agg #[.int .i64 (s0 + v0), .int .i64 (s1 + v1), .int .i64 (s2 + v2), .int .i64 (n + 1)], .agg #[.int .i64 0, .int .i64 0, .int .i64 0], .bool false, .int .i64 0] else if ok3 (nearI (s0 + v0) (n + 1)) (nearI (s1 + v1) (n + 1)) (nearI (s2 + v2) (n + 1)) then .tuple #[.agg #[.int .i64 0, .int .i64 0, .int .i64 0, .int .i64 0], .agg #[.int .i64 (nearI (s0 + v0) (n + 1)), .int .i64 (nearI (s1 + v1) (n + 1)), .int .i64 (nearI (s2 + v2) (n + 1))], .bool true, .int .i64 0] else .tuple #[.agg #[.int .i64 0, .int .i64 0, .int .i64 0, .int .i64 0], .agg #[.int .i64 0, .int .i64 0, .int .i64 0], .bool false, .int .i64 2]) := by unfold takeT; rw [h1, h2, h3]; rfl
  rw [er]
  have HP : Hid (∀ w, Calls Try.prog 16 #[.agg #[.int .i64 s0, .int .i64 s1, .int .i64 s2], .agg #[.int .i64 v0, .int .i64 v1, .int .i64 v2]] w fun e w' => e = .returned (.agg #[.int .i64 (s0 + v0), .int .i64 (s1 + v1), .int .i64 (s2 + v2)]) ∧ Ext w w') := fun w => rplus_any _ _ _ _ _ _ w (by omega) (by omega) (by omega)
  obtain ⟨m, em⟩ : ∃ m : Nat, n + 1 = (m : Int) := ⟨(n + 1).toNat, by omega⟩
  have HM : Hid (∀ w, Calls Try.prog 17 #[.agg #[.int .i64 (s0 + v0), .int .i64 (s1 + v1), .int .i64 (s2 + v2)], .int .i64 (m : Int)] w fun e w' => e = .returned (.agg #[.int .i64 (nearI (s0 + v0) m), .int .i64 (nearI (s1 + v1) m), .int .i64 (nearI (s2 + v2) m)]) ∧ Ext w w') := fun w => rmean_any _ _ _ m w (by omega) (by omega) (by omega) (by omega) (by omega)
  rw [← em] at HM
  have HO : Hid (∀ w, Calls Try.prog 7 #[.agg #[.int .i64 (nearI (s0 + v0) (n + 1)), .int .i64 (nearI (s1 + v1) (n + 1)), .int .i64 (nearI (s2 + v2) (n + 1))]] w fun e w' => e = .returned (.bool (ok3 (nearI (s0 + v0) (n + 1)) (nearI (s1 + v1) (n + 1)) (nearI (s2 + v2) (n + 1)))) ∧ Ext w w') := mayv_any _ _ _
  have Ft : Hid (HV ((((w.alloc (.cells #[.int .i64 s0, .int .i64 s1, .int .i64 s2, .int .i64 n] 26)).alloc (.cells #[.int .i64 v0, .int .i64 v1, .int .i64 v2] 24)).alloc (.cells #[.int .i64 0, .int .i64 0, .int .i64 0, .int .i64 0] 26)).alloc (.cells #[.int .i64 0, .int .i64 0, .int .i64 0] 24)) w.heap.size [.int .i64 s0, .int .i64 s1, .int .i64 s2, .int .i64 n]) := (((hv_at rfl).alloc _).alloc _).alloc _
  have Fv : Hid (HV ((((w.alloc (.cells #[.int .i64 s0, .int .i64 s1, .int .i64 s2, .int .i64 n] 26)).alloc (.cells #[.int .i64 v0, .int .i64 v1, .int .i64 v2] 24)).alloc (.cells #[.int .i64 0, .int .i64 0, .int .i64 0, .int .i64 0] 26)).alloc (.cells #[.int .i64 0, .int .i64 0, .int .i64 0] 24)) (w.heap.size + 1) [.int .i64 v0, .int .i64 v1, .int .i64 v2]) := ((hv_at (by simp)).alloc _).alloc _
  have Fu : Hid (HV ((((w.alloc (.cells #[.int .i64 s0, .int .i64 s1, .int .i64 s2, .int .i64 n] 26)).alloc (.cells #[.int .i64 v0, .int .i64 v1, .int .i64 v2] 24)).alloc (.cells #[.int .i64 0, .int .i64 0, .int .i64 0, .int .i64 0] 26)).alloc (.cells #[.int .i64 0, .int .i64 0, .int .i64 0] 24)) (w.heap.size + 2) [.int .i64 0, .int .i64 0, .int .i64 0, .int .i64 0]) := (hv_at (by simp)).alloc _
  have Fm : Hid (HV ((((w.alloc (.cells #[.int .i64 s0, .int .i64 s1, .int .i64 s2, .int .i64 n] 26)).alloc (.cells #[.int .i64 v0, .int .i64 v1, .int .i64 v2] 24)).alloc (.cells #[.int .i64 0, .int .i64 0, .int .i64 0, .int .i64 0] 26)).alloc (.cells #[.int .i64 0, .int .i64 0, .int .i64 0] 24)) (w.heap.size + 3) [.int .i64 0, .int .i64 0, .int .i64 0]) := hv_at (by simp)
  have Lt : Hid (w.heap.size ≤ w.heap.size) := Nat.le_refl _
  have Lu : Hid (w.heap.size ≤ w.heap.size + 2) := Nat.le_add_right _ _
  have Lm : Hid (w.heap.size ≤ w.heap.size + 3) := Nat.le_add_right _ _
  have FX : Hid (Ext w ((((w.alloc (.cells #[.int .i64 s0, .int .i64 s1, .int .i64 s2, .int .i64 n] 26)).alloc (.cells #[.int .i64 v0, .int .i64 v1, .int .i64 v2] 24)).alloc (.cells #[.int .i64 0, .int .i64 0, .int .i64 0, .int .i64 0] 26)).alloc (.cells #[.int .i64 0, .int .i64 0, .int .i64 0] 24))) := ((((Ext.refl w).alloc _).alloc _).alloc _).alloc _
  clear er h1 h2 h3 q0 q1 q2 a0 a1 a2 g0 g1 g2 em
  generalize nearI (s0 + v0) (n + 1) = m0 at *
  generalize nearI (s1 + v1) (n + 1) = m1 at *
  generalize nearI (s2 + v2) (n + 1) = m2 at *
  generalize s0 + v0 = t0 at *
  generalize s1 + v1 = t1 at *
  generalize s2 + v2 = t2 at *
  obtain ⟨RV, hRV⟩ : ∃ RV : Value, (if n + 1 < k then .tuple #[.agg #[.int .i64 t0, .int .i64 t1, .int .i64 t2, .int .i64 (n + 1)], .agg #[.int .i64 0, .int .i64 0, .int .i64 0], .bool false, .int .i64 0] else if ok3 m0 m1 m2 = true then .tuple #[.agg #[.int .i64 0, .int .i64 0, .int .i64 0, .int .i64 0], .agg #[.int .i64 m0, .int .i64 m1, .int .i64 m2], .bool true, .int .i64 0] else .tuple #[.agg #[.int .i64 0, .int .i64 0, .int .i64 0, .int .i64 0], .agg #[.int .i64 0, .int .i64 0, .int .i64 0], .bool false, .int .i64 2]) = RV := ⟨_, rfl⟩
  rw [hRV]
  have HRV : Hid ((if n + 1 < k then .tuple #[.agg #[.int .i64 t0, .int .i64 t1, .int .i64 t2, .int .i64 (n + 1)], .agg #[.int .i64 0, .int .i64 0, .int .i64 0], .bool false, .int .i64 0] else if ok3 m0 m1 m2 = true then .tuple #[.agg #[.int .i64 0, .int .i64 0, .int .i64 0, .int .i64 0], .agg #[.int .i64 m0, .int .i64 m1, .int .i64 m2], .bool true, .int .i64 0] else .tuple #[.agg #[.int .i64 0, .int .i64 0, .int .i64 0, .int .i64 0], .agg #[.int .i64 0, .int .i64 0, .int .i64 0], .bool false, .int .i64 2]) = RV) := hRV
  clear hRV
  go_enter Try.func8, Try.ntmps8
  go_upto_region 1 with fail
  generalize ((((w.alloc (.cells #[.int .i64 s0, .int .i64 s1, .int .i64 s2, .int .i64 n] 26)).alloc (.cells #[.int .i64 v0, .int .i64 v1, .int .i64 v2] 24)).alloc (.cells #[.int .i64 0, .int .i64 0, .int .i64 0, .int .i64 0] 26)).alloc (.cells #[.int .i64 0, .int .i64 0, .int .i64 0] 24)) = wa at *
  have qt0 : wa.cell? ⟨w.heap.size, 0, none⟩ = some (.int .i64 s0) := Ft.out.c 0 rfl
  have qt1 : wa.cell? ⟨w.heap.size, 1, none⟩ = some (.int .i64 s1) := Ft.out.c 1 rfl
  have qt2 : wa.cell? ⟨w.heap.size, 2, none⟩ = some (.int .i64 s2) := Ft.out.c 2 rfl
  have qv0 : wa.cell? ⟨(w.heap.size + 1), 0, none⟩ = some (.int .i64 v0) := Fv.out.c 0 rfl
  have qv1 : wa.cell? ⟨(w.heap.size + 1), 1, none⟩ = some (.int .i64 v1) := Fv.out.c 1 rfl
  have qv2 : wa.cell? ⟨(w.heap.size + 1), 2, none⟩ = some (.int .i64 v2) := Fv.out.c 2 rfl
  go_upto_region 2 with (first | (go_at_call 16; refine (HP.out _).mono ?_; rintro e w1 ⟨rfl, x1⟩; have kt0 : w1.cell? ⟨w.heap.size, 0, none⟩ = some (.int .i64 s0) := (Ft.out.ext x1).c 0 rfl; have zt0 : w1.frozen? ⟨w.heap.size, 0, none⟩ = false := (Ft.out.ext x1).f 0 rfl; have kt1 : w1.cell? ⟨w.heap.size, 1, none⟩ = some (.int .i64 s1) := (Ft.out.ext x1).c 1 rfl; have zt1 : w1.frozen? ⟨w.heap.size, 1, none⟩ = false := (Ft.out.ext x1).f 1 rfl; have kt2 : w1.cell? ⟨w.heap.size, 2, none⟩ = some (.int .i64 s2) := (Ft.out.ext x1).c 2 rfl; have zt2 : w1.frozen? ⟨w.heap.size, 2, none⟩ = false := (Ft.out.ext x1).f 2 rfl))
  have Ft : Hid (HV w1 w.heap.size [.int .i64 s0, .int .i64 s1, .int .i64 s2, .int .i64 n]) := Ft.out.ext x1
  have Fv : Hid (HV w1 (w.heap.size + 1) [.int .i64 v0, .int .i64 v1, .int .i64 v2]) := Fv.out.ext x1
  have Fu : Hid (HV w1 (w.heap.size + 2) [.int .i64 0, .int .i64 0, .int .i64 0, .int .i64 0]) := Fu.out.ext x1
  have Fm : Hid (HV w1 (w.heap.size + 3) [.int .i64 0, .int .i64 0, .int .i64 0]) := Fm.out.ext x1
  have FX : Hid (Ext w w1) := FX.out.trans x1
  clear qt0 qt1 qt2 qv0 qv1 qv2 x1 HP kt0 kt1 kt2 zt0 zt1 zt2
  have Fv : Hid (HV (((w1.setCell ⟨w.heap.size, 0, none⟩ (.int .i64 t0)).setCell ⟨w.heap.size, 1, none⟩ (.int .i64 t1)).setCell ⟨w.heap.size, 2, none⟩ (.int .i64 t2)) (w.heap.size + 1) [.int .i64 v0, .int .i64 v1, .int .i64 v2]) := (((Fv.out.far (by omega)).far (by omega)).far (by omega))
  have Fu : Hid (HV (((w1.setCell ⟨w.heap.size, 0, none⟩ (.int .i64 t0)).setCell ⟨w.heap.size, 1, none⟩ (.int .i64 t1)).setCell ⟨w.heap.size, 2, none⟩ (.int .i64 t2)) (w.heap.size + 2) [.int .i64 0, .int .i64 0, .int .i64 0, .int .i64 0]) := (((Fu.out.far (by omega)).far (by omega)).far (by omega))
  have Fm : Hid (HV (((w1.setCell ⟨w.heap.size, 0, none⟩ (.int .i64 t0)).setCell ⟨w.heap.size, 1, none⟩ (.int .i64 t1)).setCell ⟨w.heap.size, 2, none⟩ (.int .i64 t2)) (w.heap.size + 3) [.int .i64 0, .int .i64 0, .int .i64 0]) := (((Fm.out.far (by omega)).far (by omega)).far (by omega))
  have Ft : Hid (HV (((w1.setCell ⟨w.heap.size, 0, none⟩ (.int .i64 t0)).setCell ⟨w.heap.size, 1, none⟩ (.int .i64 t1)).setCell ⟨w.heap.size, 2, none⟩ (.int .i64 t2)) w.heap.size [.int .i64 t0, .int .i64 t1, .int .i64 t2, .int .i64 n]) := (((Ft.out.set 0 (.int .i64 t0)).set 1 (.int .i64 t1)).set 2 (.int .i64 t2))
  have FX : Hid (Ext w (((w1.setCell ⟨w.heap.size, 0, none⟩ (.int .i64 t0)).setCell ⟨w.heap.size, 1, none⟩ (.int .i64 t1)).setCell ⟨w.heap.size, 2, none⟩ (.int .i64 t2))) := (((FX.out.set (p := ⟨w.heap.size, 0, none⟩) Lt.out (.int .i64 t0)).set (p := ⟨w.heap.size, 1, none⟩) Lt.out (.int .i64 t1)).set (p := ⟨w.heap.size, 2, none⟩) Lt.out (.int .i64 t2))
  generalize (((w1.setCell ⟨w.heap.size, 0, none⟩ (.int .i64 t0)).setCell ⟨w.heap.size, 1, none⟩ (.int .i64 t1)).setCell ⟨w.heap.size, 2, none⟩ (.int .i64 t2)) = wx1 at *
  have qt3 : wx1.cell? ⟨w.heap.size, 3, none⟩ = some (.int .i64 n) := Ft.out.c 3 rfl
  have zt3 : wx1.frozen? ⟨w.heap.size, 3, none⟩ = false := Ft.out.f 3 rfl
  go_upto_region 3 with fail
  clear qt3 zt3
  have Fv : Hid (HV (wx1.setCell ⟨w.heap.size, 3, none⟩ (.int .i64 (n + 1))) (w.heap.size + 1) [.int .i64 v0, .int .i64 v1, .int .i64 v2]) := (Fv.out.far (by omega))
  have Fu : Hid (HV (wx1.setCell ⟨w.heap.size, 3, none⟩ (.int .i64 (n + 1))) (w.heap.size + 2) [.int .i64 0, .int .i64 0, .int .i64 0, .int .i64 0]) := (Fu.out.far (by omega))
  have Fm : Hid (HV (wx1.setCell ⟨w.heap.size, 3, none⟩ (.int .i64 (n + 1))) (w.heap.size + 3) [.int .i64 0, .int .i64 0, .int .i64 0]) := (Fm.out.far (by omega))
  have Ft : Hid (HV (wx1.setCell ⟨w.heap.size, 3, none⟩ (.int .i64 (n + 1))) w.heap.size [.int .i64 t0, .int .i64 t1, .int .i64 t2, .int .i64 (n + 1)]) := (Ft.out.set 3 (.int .i64 (n + 1)))
  have FX : Hid (Ext w (wx1.setCell ⟨w.heap.size, 3, none⟩ (.int .i64 (n + 1)))) := (FX.out.set (p := ⟨w.heap.size, 3, none⟩) Lt.out (.int .i64 (n + 1)))
  generalize (wx1.setCell ⟨w.heap.size, 3, none⟩ (.int .i64 (n + 1))) = wx2 at *
  have qt0 : wx2.cell? ⟨w.heap.size, 0, none⟩ = some (.int .i64 t0) := Ft.out.c 0 rfl
  have qt1 : wx2.cell? ⟨w.heap.size, 1, none⟩ = some (.int .i64 t1) := Ft.out.c 1 rfl
  have qt2 : wx2.cell? ⟨w.heap.size, 2, none⟩ = some (.int .i64 t2) := Ft.out.c 2 rfl
  have qt3 : wx2.cell? ⟨w.heap.size, 3, none⟩ = some (.int .i64 (n + 1)) := Ft.out.c 3 rfl
  by_cases hk : n + 1 < k
  · have qu0 : wx2.cell? ⟨(w.heap.size + 2), 0, none⟩ = some (.int .i64 0) := Fu.out.c 0 rfl
    have zu0 : wx2.frozen? ⟨(w.heap.size + 2), 0, none⟩ = false := Fu.out.f 0 rfl
    have qu1 : wx2.cell? ⟨(w.heap.size + 2), 1, none⟩ = some (.int .i64 0) := Fu.out.c 1 rfl
    have zu1 : wx2.frozen? ⟨(w.heap.size + 2), 1, none⟩ = false := Fu.out.f 1 rfl
    have qu2 : wx2.cell? ⟨(w.heap.size + 2), 2, none⟩ = some (.int .i64 0) := Fu.out.c 2 rfl
    have zu2 : wx2.frozen? ⟨(w.heap.size + 2), 2, none⟩ = false := Fu.out.f 2 rfl
    have qu3 : wx2.cell? ⟨(w.heap.size + 2), 3, none⟩ = some (.int .i64 0) := Fu.out.c 3 rfl
    have zu3 : wx2.frozen? ⟨(w.heap.size + 2), 3, none⟩ = false := Fu.out.f 3 rfl
    have qm0 : wx2.cell? ⟨(w.heap.size + 3), 0, none⟩ = some (.int .i64 0) := Fm.out.c 0 rfl
    have zm0 : wx2.frozen? ⟨(w.heap.size + 3), 0, none⟩ = false := Fm.out.f 0 rfl
    have qm1 : wx2.cell? ⟨(w.heap.size + 3), 1, none⟩ = some (.int .i64 0) := Fm.out.c 1 rfl
    have zm1 : wx2.frozen? ⟨(w.heap.size + 3), 1, none⟩ = false := Fm.out.f 1 rfl
    have qm2 : wx2.cell? ⟨(w.heap.size + 3), 2, none⟩ = some (.int .i64 0) := Fm.out.c 2 rfl
    have zm2 : wx2.frozen? ⟨(w.heap.size + 3), 2, none⟩ = false := Fm.out.f 2 rfl
    go_wp2_with fail
    refine bodyPost_ret (v := .tuple #[.agg #[.int .i64 t0, .int .i64 t1, .int .i64 t2, .int .i64 (n + 1)], .agg #[.int .i64 0, .int .i64 0, .int .i64 0], .bool false, .int .i64 0]) (by simp [results, Try.results8, go_sem, *]) rfl ⟨by rw [← HRV.out, if_pos hk], ?_⟩
    exact (Ext.set (Ext.set (Ext.set (Ext.set (Ext.set (Ext.set (Ext.set FX.out Lu.out _) Lu.out _) Lu.out _) Lu.out _) Lm.out _) Lm.out _) Lm.out _)
  · go_upto_region 6 with (first | (go_at_call 17; refine (HM.out _).mono ?_; rintro e w2 ⟨rfl, x2⟩))
    have Ft : Hid (HV w2 w.heap.size [.int .i64 t0, .int .i64 t1, .int .i64 t2, .int .i64 (n + 1)]) := Ft.out.ext x2
    have Fv : Hid (HV w2 (w.heap.size + 1) [.int .i64 v0, .int .i64 v1, .int .i64 v2]) := Fv.out.ext x2
    have Fu : Hid (HV w2 (w.heap.size + 2) [.int .i64 0, .int .i64 0, .int .i64 0, .int .i64 0]) := Fu.out.ext x2
    have Fm : Hid (HV w2 (w.heap.size + 3) [.int .i64 0, .int .i64 0, .int .i64 0]) := Fm.out.ext x2
    have FX : Hid (Ext w w2) := FX.out.trans x2
    clear qt0 qt1 qt2 qt3 x2 HM
    have lttr : w.heap.size < w2.heap.size := Ft.out.1
    have ltvr : (w.heap.size + 1) < w2.heap.size := Fv.out.1
    have ltur : (w.heap.size + 2) < w2.heap.size := Fu.out.1
    have ltmr : (w.heap.size + 3) < w2.heap.size := Fm.out.1
    have Lr : Hid (w.heap.size ≤ w2.heap.size) := FX.out.size
    have Ft : Hid (HV (w2.alloc (.cells #[.int .i64 m0, .int .i64 m1, .int .i64 m2] 24)) w.heap.size [.int .i64 t0, .int .i64 t1, .int .i64 t2, .int .i64 (n + 1)]) := Ft.out.alloc _
    have Fv : Hid (HV (w2.alloc (.cells #[.int .i64 m0, .int .i64 m1, .int .i64 m2] 24)) (w.heap.size + 1) [.int .i64 v0, .int .i64 v1, .int .i64 v2]) := Fv.out.alloc _
    have Fu : Hid (HV (w2.alloc (.cells #[.int .i64 m0, .int .i64 m1, .int .i64 m2] 24)) (w.heap.size + 2) [.int .i64 0, .int .i64 0, .int .i64 0, .int .i64 0]) := Fu.out.alloc _
    have Fm : Hid (HV (w2.alloc (.cells #[.int .i64 m0, .int .i64 m1, .int .i64 m2] 24)) (w.heap.size + 3) [.int .i64 0, .int .i64 0, .int .i64 0]) := Fm.out.alloc _
    have Fr : Hid (HV (w2.alloc (.cells #[.int .i64 m0, .int .i64 m1, .int .i64 m2] 24)) w2.heap.size [.int .i64 m0, .int .i64 m1, .int .i64 m2]) := hv_at rfl
    have FX : Hid (Ext w (w2.alloc (.cells #[.int .i64 m0, .int .i64 m1, .int .i64 m2] 24))) := FX.out.alloc _
    generalize (w2.alloc (.cells #[.int .i64 m0, .int .i64 m1, .int .i64 m2] 24)) = wx3 at *
    generalize w2.heap.size = nr at *
    cases ho : ok3 m0 m1 m2
    · have HOO : Hid (ok3 m0 m1 m2 = false) := ho
      rw [ho] at HO
      clear ho
      have qr0 : wx3.cell? ⟨nr, 0, none⟩ = some (.int .i64 m0) := Fr.out.c 0 rfl
      have qr1 : wx3.cell? ⟨nr, 1, none⟩ = some (.int .i64 m1) := Fr.out.c 1 rfl
      have qr2 : wx3.cell? ⟨nr, 2, none⟩ = some (.int .i64 m2) := Fr.out.c 2 rfl
      go_wp2_with fail
      refine (HO.out _).mono ?_
      rintro e w3 ⟨rfl, x3⟩
      have Ft : Hid (HV w3 w.heap.size [.int .i64 t0, .int .i64 t1, .int .i64 t2, .int .i64 (n + 1)]) := Ft.out.ext x3
      have Fv : Hid (HV w3 (w.heap.size + 1) [.int .i64 v0, .int .i64 v1, .int .i64 v2]) := Fv.out.ext x3
      have Fu : Hid (HV w3 (w.heap.size + 2) [.int .i64 0, .int .i64 0, .int .i64 0, .int .i64 0]) := Fu.out.ext x3
      have Fm : Hid (HV w3 (w.heap.size + 3) [.int .i64 0, .int .i64 0, .int .i64 0]) := Fm.out.ext x3
      have Fr : Hid (HV w3 nr [.int .i64 m0, .int .i64 m1, .int .i64 m2]) := Fr.out.ext x3
      have FX : Hid (Ext w w3) := FX.out.trans x3
      clear qr0 qr1 qr2 x3 HO
      have qu0 : w3.cell? ⟨(w.heap.size + 2), 0, none⟩ = some (.int .i64 0) := Fu.out.c 0 rfl
      have zu0 : w3.frozen? ⟨(w.heap.size + 2), 0, none⟩ = false := Fu.out.f 0 rfl
      have qu1 : w3.cell? ⟨(w.heap.size + 2), 1, none⟩ = some (.int .i64 0) := Fu.out.c 1 rfl
      have zu1 : w3.frozen? ⟨(w.heap.size + 2), 1, none⟩ = false := Fu.out.f 1 rfl
      have qu2 : w3.cell? ⟨(w.heap.size + 2), 2, none⟩ = some (.int .i64 0) := Fu.out.c 2 rfl
      have zu2 : w3.frozen? ⟨(w.heap.size + 2), 2, none⟩ = false := Fu.out.f 2 rfl
      have qu3 : w3.cell? ⟨(w.heap.size + 2), 3, none⟩ = some (.int .i64 0) := Fu.out.c 3 rfl
      have zu3 : w3.frozen? ⟨(w.heap.size + 2), 3, none⟩ = false := Fu.out.f 3 rfl
      have qm0 : w3.cell? ⟨(w.heap.size + 3), 0, none⟩ = some (.int .i64 0) := Fm.out.c 0 rfl
      have zm0 : w3.frozen? ⟨(w.heap.size + 3), 0, none⟩ = false := Fm.out.f 0 rfl
      have qm1 : w3.cell? ⟨(w.heap.size + 3), 1, none⟩ = some (.int .i64 0) := Fm.out.c 1 rfl
      have zm1 : w3.frozen? ⟨(w.heap.size + 3), 1, none⟩ = false := Fm.out.f 1 rfl
      have qm2 : w3.cell? ⟨(w.heap.size + 3), 2, none⟩ = some (.int .i64 0) := Fm.out.c 2 rfl
      have zm2 : w3.frozen? ⟨(w.heap.size + 3), 2, none⟩ = false := Fm.out.f 2 rfl
      go_wp2_with fail
      refine bodyPost_ret (v := .tuple #[.agg #[.int .i64 0, .int .i64 0, .int .i64 0, .int .i64 0], .agg #[.int .i64 0, .int .i64 0, .int .i64 0], .bool false, .int .i64 2]) (by simp [results, Try.results8, go_sem, *]) rfl ⟨by rw [← HRV.out, if_neg (show ¬ (n + 1 < k) by omega), HOO.out]; exact congrArg Ending.returned (if_neg (by decide)).symm, ?_⟩
      exact (Ext.set (Ext.set (Ext.set (Ext.set (Ext.set (Ext.set (Ext.set FX.out Lu.out _) Lu.out _) Lu.out _) Lu.out _) Lm.out _) Lm.out _) Lm.out _)
    · have HOO : Hid (ok3 m0 m1 m2 = true) := ho
      rw [ho] at HO
      clear ho
      have qr0 : wx3.cell? ⟨nr, 0, none⟩ = some (.int .i64 m0) := Fr.out.c 0 rfl
      have qr1 : wx3.cell? ⟨nr, 1, none⟩ = some (.int .i64 m1) := Fr.out.c 1 rfl
      have qr2 : wx3.cell? ⟨nr, 2, none⟩ = some (.int .i64 m2) := Fr.out.c 2 rfl
      go_wp2_with fail
      refine (HO.out _).mono ?_
      rintro e w3 ⟨rfl, x3⟩
      have Ft : Hid (HV w3 w.heap.size [.int .i64 t0, .int .i64 t1, .int .i64 t2, .int .i64 (n + 1)]) := Ft.out.ext x3
      have Fv : Hid (HV w3 (w.heap.size + 1) [.int .i64 v0, .int .i64 v1, .int .i64 v2]) := Fv.out.ext x3
      have Fu : Hid (HV w3 (w.heap.size + 2) [.int .i64 0, .int .i64 0, .int .i64 0, .int .i64 0]) := Fu.out.ext x3
      have Fm : Hid (HV w3 (w.heap.size + 3) [.int .i64 0, .int .i64 0, .int .i64 0]) := Fm.out.ext x3
      have Fr : Hid (HV w3 nr [.int .i64 m0, .int .i64 m1, .int .i64 m2]) := Fr.out.ext x3
      have FX : Hid (Ext w w3) := FX.out.trans x3
      clear qr0 qr1 qr2 x3 HO
      go_upto_region 8 with fail
      have qr0 : w3.cell? ⟨nr, 0, none⟩ = some (.int .i64 m0) := Fr.out.c 0 rfl
      have qr1 : w3.cell? ⟨nr, 1, none⟩ = some (.int .i64 m1) := Fr.out.c 1 rfl
      have qr2 : w3.cell? ⟨nr, 2, none⟩ = some (.int .i64 m2) := Fr.out.c 2 rfl
      have qu0 : w3.cell? ⟨(w.heap.size + 2), 0, none⟩ = some (.int .i64 0) := Fu.out.c 0 rfl
      have zu0 : w3.frozen? ⟨(w.heap.size + 2), 0, none⟩ = false := Fu.out.f 0 rfl
      have qu1 : w3.cell? ⟨(w.heap.size + 2), 1, none⟩ = some (.int .i64 0) := Fu.out.c 1 rfl
      have zu1 : w3.frozen? ⟨(w.heap.size + 2), 1, none⟩ = false := Fu.out.f 1 rfl
      have qu2 : w3.cell? ⟨(w.heap.size + 2), 2, none⟩ = some (.int .i64 0) := Fu.out.c 2 rfl
      have zu2 : w3.frozen? ⟨(w.heap.size + 2), 2, none⟩ = false := Fu.out.f 2 rfl
      have qu3 : w3.cell? ⟨(w.heap.size + 2), 3, none⟩ = some (.int .i64 0) := Fu.out.c 3 rfl
      have zu3 : w3.frozen? ⟨(w.heap.size + 2), 3, none⟩ = false := Fu.out.f 3 rfl
      have qm0 : w3.cell? ⟨(w.heap.size + 3), 0, none⟩ = some (.int .i64 0) := Fm.out.c 0 rfl
      have zm0 : w3.frozen? ⟨(w.heap.size + 3), 0, none⟩ = false := Fm.out.f 0 rfl
      have qm1 : w3.cell? ⟨(w.heap.size + 3), 1, none⟩ = some (.int .i64 0) := Fm.out.c 1 rfl
      have zm1 : w3.frozen? ⟨(w.heap.size + 3), 1, none⟩ = false := Fm.out.f 1 rfl
      have qm2 : w3.cell? ⟨(w.heap.size + 3), 2, none⟩ = some (.int .i64 0) := Fm.out.c 2 rfl
      have zm2 : w3.frozen? ⟨(w.heap.size + 3), 2, none⟩ = false := Fm.out.f 2 rfl
      go_region
      all_goals
        go_wp2_with fail
        refine bodyPost_ret (v := .tuple #[.agg #[.int .i64 0, .int .i64 0, .int .i64 0, .int .i64 0], .agg #[.int .i64 m0, .int .i64 m1, .int .i64 m2], .bool true, .int .i64 0]) (by simp [results, Try.results8, go_sem, *]) rfl ⟨by rw [← HRV.out, if_neg (show ¬ (n + 1 < k) by omega), HOO.out]; exact congrArg Ending.returned (if_pos rfl).symm, ?_⟩
        have hx0 := FX.out
        exact by repeat (first | with_reducible assumption | with_reducible exact Ext.refl _ | with_reducible refine Ext.drew ?_ | with_reducible refine Ext.drewN ?_ _ | with_reducible refine Ext.alloc ?_ _ | with_reducible refine Ext.set ?_ (by first | exact Nat.le_refl _ | (dsimp only; omega) | (simp; done)) _)

end Go.Proofs.Ytkcfgkedgjpeoaa
