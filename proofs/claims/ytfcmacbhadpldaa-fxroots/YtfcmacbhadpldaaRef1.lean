/- The reference of layer 1: Near, NearQ, Over, Prod, Mul, Div, Ratio, Add, Sub. -/
import Derived.Test.YtfcmacbhadpldaaNearQ
import Derived.Test.YtfcmacbhadpldaaWord
namespace Go.Proofs.Ytfcmacbhadpldaa
open Go.RowKit

theorem nearI_fit (n d : Int) (k : Nat) (f : Fit k n) (hd : 0 < d) : Fit (k + 2) (nearI n d) := by
  have h1 : (n * 2 / d / 2).natAbs ≤ (n * 2).natAbs := Nat.le_trans (natAbs_ediv_le _ _ (by omega)) (natAbs_ediv_le _ _ hd)
  have f1 : Fit (k + 1) (n * 2) := by have := f.shl 1; rwa [Int.pow_succ, Int.pow_zero, Int.one_mul] at this
  have f2 : Fit (k + 1) (n * 2 / d / 2) := f1.of_le h1
  unfold nearI
  split
  · exact f2.le (by omega)
  · split
    · exact f2.le (by omega)
    · exact f2.add (fit_one _ (by omega))
theorem fit_word (a : Int) (h1 : -9223372036854775808 ≤ a) (h2 : a ≤ 9223372036854775807) : Fit 64 a := by
  unfold Fit
  have e : (2 : Nat) ^ 64 = 18446744073709551616 := by decide
  omega

set_option maxHeartbeats 2000000 in
theorem near1_any (n : Int) (d k : Nat) (z : Int) (v : Value) (w : World) (h1 : IsQ w v n d) (hd : d ≠ 0) (hk : k ≤ 3000) (f1 : Fit k n) (f2 : Fit k (d : Int)) (hz : IsNear n d z) :
    Calls Try.prog 41 #[v] w fun e w' => e = .returned (.tuple #[.int .i64 (wordR z).1, .int .i64 (wordR z).2]) ∧ Ext w w' := by
  have e : nearI n d = z := (nearI_spec n d (by omega)).unique (by omega) hz
  have fz : Fit (k + 2) z := by
    rw [← e]
    exact nearI_fit n d k f1 (by omega)
  have HN : Hid (∀ w', Ext w w' → Calls Try.prog 66 #[v] w' fun e w'' => (∃ r, e = .returned r ∧ IsI w'' r z) ∧ Ext w' w'') := fun w' hx => by
    have h := near_isI n d k v w' (h1.ext hx) hd hk f1 f2
    rw [e] at h
    exact h
  have HW : Hid (∀ r w', IsI w' r z → Calls Try.prog 44 #[r] w' fun e w'' => e = .returned (.tuple #[.int .i64 (wordR z).1, .int .i64 (wordR z).2]) ∧ Ext w' w'') := fun r w' hr => word_any z r w' hr (fz.small (by omega))
  obtain ⟨u1, u2, rfl, k1, k2⟩ := h1
  obtain ⟨a1, l1, c1, rfl⟩ := k1.isSlice
  obtain ⟨a2, l2, c2, rfl⟩ := k2.isSlice
  clear k1 k2 fz e hz
  generalize decide (n < 0) = b at *
  generalize (wordR z).1 = o1 at *
  generalize (wordR z).2 = o2 at *
  go_enter Try.func41, Try.ntmps41
  go_wp2_with fail
  refine (HN.out _ ((Ext.refl _).alloc _)).mono ?_
  rintro e w1 ⟨⟨r, rfl, hr⟩, x1⟩
  go_wp2_with fail
  refine (HW.out _ _ hr).mono ?_
  rintro e w2 ⟨rfl, x2⟩
  go_wp2_with fail
  go_ret2
  exact ⟨rfl, (((Ext.refl _).alloc _).trans x1).trans x2⟩

theorem near_lowest (x : Int) (d : Nat) (hd : d ≠ 0) (z : Int) (hz : IsNear x d z) : IsNear (x / (Nat.gcd x.natAbs d : Int)) ((d / Nat.gcd x.natAbs d : Nat) : Int) z := by
  have hg : 0 < Nat.gcd x.natAbs d := Nat.gcd_pos_of_pos_right _ (by omega)
  have h1 : (Nat.gcd x.natAbs d : Int) ∣ x := Int.ofNat_dvd_left.2 (Nat.gcd_dvd_left _ _)
  have h2 : Nat.gcd x.natAbs d ∣ d := Nat.gcd_dvd_right _ _
  generalize Nat.gcd x.natAbs d = g at *
  obtain ⟨c, hc⟩ := h1
  obtain ⟨e, he⟩ := h2
  have e1 : x / (g : Int) = c := by rw [hc, Int.mul_ediv_cancel_left _ (by omega)]
  have e2 : d / g = e := by rw [he, Nat.mul_div_cancel_left _ hg]
  have he0 : 0 < e := by
    apply Nat.pos_of_ne_zero
    intro h0
    rw [h0, Nat.mul_zero] at he
    exact hd he
  rw [e1, e2]
  have hs := nearI_spec c (e : Int) (by omega)
  have h3 := hs.scale (g := (g : Int)) (by omega)
  rw [← hc, ← Int.natCast_mul, ← he] at h3
  rw [hz.unique (by omega) h3]
  exact hs

set_option maxHeartbeats 4000000 in
theorem nearq_any (x z : Int) (k : Nat) (r : Value) (w : World) (h : IsI w r x) (hk : k ≤ 2000) (hk2 : 31 ≤ k) (f1 : Fit k x) (hz : IsNear x 1073741824 z) :
    Calls Try.prog 38 #[r] w fun e w' => e = .returned (.tuple #[.int .i64 (wordR z).1, .int .i64 (wordR z).2]) ∧ Ext w w' := by
  have HO : Hid (∀ w', Calls Try.prog 58 #[.int .u64 1] w' fun e w'' => (∃ v', e = .returned v' ∧ IsN w'' v' 1) ∧ Ext w' w'') := fun w' => nof_any 1 (by omega) w'
  have HU : Hid (∀ u w', IsN w' u 1 → Calls Try.prog 63 #[u, .int .i64 30] w' fun e w'' => (∃ v', e = .returned v' ∧ IsN w'' v' 1073741824) ∧ Ext w' w'') := fun u w' hu => up2_any 1 30 u w' hu (small_64 1 (by omega)) (by omega)
  have f2 : Fit k ((1073741824 : Nat) : Int) := (show Fit 31 ((1073741824 : Nat) : Int) by unfold Fit; decide).le hk2
  have HM : Hid (∀ u w', Ext w w' → IsN w' u 1073741824 → Calls Try.prog 65 #[r, u] w' fun e w'' => (∃ q, e = .returned q ∧ IsQ w'' q (x / (Nat.gcd x.natAbs 1073741824 : Int)) (1073741824 / Nat.gcd x.natAbs 1073741824)) ∧ Ext w' w'') := fun u w' hx hu => make_isQ x 1073741824 k r u w' (h.ext hx) hu (by omega) (by omega) f1 f2
  have hgp : 0 < Nat.gcd x.natAbs 1073741824 := Nat.gcd_pos_of_pos_right _ (by omega)
  have hnz : 1073741824 / Nat.gcd x.natAbs 1073741824 ≠ 0 := by
    have := Nat.div_pos (Nat.le_of_dvd (by omega) (Nat.gcd_dvd_right x.natAbs 1073741824)) hgp
    omega
  have HN : Hid (∀ q w', IsQ w' q (x / (Nat.gcd x.natAbs 1073741824 : Int)) (1073741824 / Nat.gcd x.natAbs 1073741824) → Calls Try.prog 41 #[q] w' fun e w'' => e = .returned (.tuple #[.int .i64 (wordR z).1, .int .i64 (wordR z).2]) ∧ Ext w' w'') := fun q w' hq =>
    near1_any _ _ k z q w' hq hnz (by omega) (f1.of_le (natAbs_ediv_le _ _ (by omega))) (f2.of_le (by rw [Int.natAbs_natCast, Int.natAbs_natCast]; exact Nat.div_le_self _ _)) (near_lowest x 1073741824 (by omega) z hz)
  obtain ⟨u, rfl, hu⟩ := h
  obtain ⟨a1, l1, c1, rfl⟩ := hu.isSlice
  clear hu f1 f2 hz hnz hgp
  generalize decide (x < 0) = b at *
  generalize (wordR z).1 = o1 at *
  generalize (wordR z).2 = o2 at *
  generalize x / (Nat.gcd x.natAbs 1073741824 : Int) = N1 at *
  generalize 1073741824 / Nat.gcd x.natAbs 1073741824 = D1 at *
  have XS : Hid (Ext w (w.alloc (.cells #[.bool b, .slice a1 l1 c1] 44))) := (Ext.refl _).alloc _
  have BS : Hid (Has (w.alloc (.cells #[.bool b, .slice a1 l1 c1] 44)) w.heap.size (.bool b) (.slice a1 l1 c1)) := ext_new1 (Ext.refl _)
  go_enter Try.func38, Try.ntmps38
  go_wp2_with fail
  generalize w.alloc (.cells #[.bool b, .slice a1 l1 c1] 44) = W at *
  obtain ⟨p0, p1, p2, p3⟩ := BS.out
  go_region_held (fun w' => w'.cell? ⟨w.heap.size, 0, none⟩ = some (.bool b) ∧ w'.cell? ⟨w.heap.size, 1, none⟩ = some (.slice a1 l1 c1)) (go_keep) (first | (go_at_call 58; refine (HO.out _).mono ?_; rintro e w1 ⟨⟨v1, rfl, hv1⟩, x1⟩; obtain ⟨s0, s1, s2, s3⟩ := BS.out.ext (cell_drew x1)) | (go_at_call 63; refine (HU.out _ _ hv1).mono ?_; rintro e w2 ⟨⟨v2, rfl, hv2⟩, x2⟩; obtain ⟨t0, t1, t2, t3⟩ := BS.out.ext ((cell_drew x1).trans x2)) | (go_at_call 65; refine (HM.out _ _ ((XS.out.trans (cell_drew x1)).trans x2) hv2).mono ?_; rintro e w3 ⟨⟨q3, rfl, hq3⟩, x3⟩; obtain ⟨y0, y1, y2, y3⟩ := BS.out.ext (((cell_drew x1).trans x2).trans x3)) | (go_at_call 41; refine (HN.out _ _ hq3).mono ?_; rintro e w4 ⟨rfl, x4⟩; obtain ⟨z0, z1, z2, z3⟩ := BS.out.ext ((((cell_drew x1).trans x2).trans x3).trans x4)))
  go_wp2_with fail
  go_ret2
  exact ⟨rfl, (((XS.out.trans (cell_drew x1)).trans x2).trans x3).trans x4⟩

set_option maxHeartbeats 1000000 in
theorem prod_any (a b : Int) (w : World) (h1 : -9223372036854775808 ≤ a) (h2 : a ≤ 9223372036854775807) (k1 : -9223372036854775808 ≤ b) (k2 : b ≤ 9223372036854775807) :
    Calls Try.prog 39 #[.int .i64 a, .int .i64 b] w fun e w' => (∃ r, e = .returned r ∧ IsI w' r (a * b)) ∧ Ext w w' := by
  have fa : Fit 64 a := fit_word a h1 h2
  have fb : Fit 64 b := fit_word b k1 k2
  have HA : Hid (∀ w', Calls Try.prog 32 #[.int .i64 a] w' fun e w'' => (∃ r, e = .returned r ∧ IsI w'' r a) ∧ Ext w' w'') := fun w' => from_any a w' h1 h2
  have HB : Hid (∀ w', Calls Try.prog 32 #[.int .i64 b] w' fun e w'' => (∃ r, e = .returned r ∧ IsI w'' r b) ∧ Ext w' w'') := fun w' => from_any b w' k1 k2
  have HT : Hid (∀ r1 r2 w', IsI w' r1 a → IsI w' r2 b → Calls Try.prog 31 #[r1, r2] w' fun e w'' => (∃ r', e = .returned r' ∧ IsI w'' r' (a * b)) ∧ Ext w' w'') := fun r1 r2 w' hr1 hr2 => times_isI a b r1 r2 w' hr1 hr2 (fa.small (by omega)) (fb.small (by omega)) ((fa.mul fb).small (by omega))
  clear fa fb h1 h2 k1 k2
  generalize a * b = P at *
  have XS : Hid (Ext w (w.alloc (.cells #[.bool false, .slice none 0 0] 44))) := (Ext.refl _).alloc _
  have BS : Hid (Has (w.alloc (.cells #[.bool false, .slice none 0 0] 44)) w.heap.size (.bool false) (.slice none 0 0)) := ext_new1 (Ext.refl _)
  go_enter Try.func39, Try.ntmps39
  go_wp2_with fail
  generalize w.alloc (.cells #[.bool false, .slice none 0 0] 44) = W at *
  refine (HA.out _).mono ?_
  rintro e w1 ⟨⟨r1, rfl, hr1⟩, x1⟩
  go_wp2_with fail
  refine (HB.out _).mono ?_
  rintro e w2 ⟨⟨r2, rfl, hr2⟩, x2⟩
  go_wp2_with fail
  refine (HT.out _ _ _ (hr1.ext x2) hr2).mono ?_
  rintro e w3 ⟨⟨r3, rfl, hr3⟩, x3⟩
  obtain ⟨t0, t1, t2, t3⟩ := BS.out.ext ((x1.trans x2).trans x3)
  obtain ⟨u, hu, hk⟩ := hr3
  obtain ⟨au, lu, cu, hau⟩ := hk.isSlice
  subst hau
  subst hu
  have X3 : Hid (Ext w w3) := XS.out.trans ((x1.trans x2).trans x3)
  have HI : Hid (IsI w3 (.agg #[.bool (decide (P < 0)), .slice au lu cu]) P) := ⟨_, rfl, hk⟩
  clear hk x1 x2 x3 hr1 hr2
  go_wp2_with fail
  exact bodyPost_ret (v := .agg #[.bool (decide (P < 0)), .slice au lu cu]) (by simp [results, Try.results39, go_sem, t0, t1]) rfl ⟨⟨_, rfl, HI.out.set2 t0 t1⟩, (X3.out.setCell (Nat.le_refl _) _).setCell (Nat.le_refl _) _⟩

set_option maxHeartbeats 1000000 in
theorem refmul_any (a b z : Int) (w : World) (h1 : -9223372036854775808 ≤ a) (h2 : a ≤ 9223372036854775807) (k1 : -9223372036854775808 ≤ b) (k2 : b ≤ 9223372036854775807) (hz : IsNear (a * b) 1073741824 z) :
    Calls Try.prog 11 #[.int .i64 a, .int .i64 b] w fun e w' => e = .returned (.tuple #[.int .i64 (wordR z).1, .int .i64 (wordR z).2]) ∧ Ext w w' := by
  have fp : Fit 128 (a * b) := (fit_word a h1 h2).mul (fit_word b k1 k2)
  have HP : Hid (∀ w', Calls Try.prog 39 #[.int .i64 a, .int .i64 b] w' fun e w'' => (∃ r, e = .returned r ∧ IsI w'' r (a * b)) ∧ Ext w' w'') := fun w' => prod_any a b w' h1 h2 k1 k2
  have HN : Hid (∀ r w', IsI w' r (a * b) → Calls Try.prog 38 #[r] w' fun e w'' => e = .returned (.tuple #[.int .i64 (wordR z).1, .int .i64 (wordR z).2]) ∧ Ext w' w'') := fun r w' hr => nearq_any (a * b) z 128 r w' hr (by omega) (by omega) fp hz
  clear fp hz h1 h2 k1 k2
  generalize (wordR z).1 = o1 at *
  generalize (wordR z).2 = o2 at *
  generalize a * b = P at *
  go_enter Try.func11, Try.ntmps11
  go_wp2_with fail
  refine (HP.out _).mono ?_
  rintro e w1 ⟨⟨r, rfl, hr⟩, x1⟩
  go_wp2_with fail
  refine (HN.out _ _ hr).mono ?_
  rintro e w2 ⟨rfl, x2⟩
  go_wp2_with fail
  go_ret2
  exact ⟨rfl, x1.trans x2⟩

set_option maxHeartbeats 1000000 in
theorem refadd_any (a b : Int) (w : World) (h1 : -9223372036854775808 ≤ a) (h2 : a ≤ 9223372036854775807) (k1 : -9223372036854775808 ≤ b) (k2 : b ≤ 9223372036854775807) :
    Calls Try.prog 18 #[.int .i64 a, .int .i64 b] w fun e w' => e = .returned (.tuple #[.int .i64 (wordR (a + b)).1, .int .i64 (wordR (a + b)).2]) ∧ Ext w w' := by
  have fa : Fit 64 a := fit_word a h1 h2
  have fb : Fit 64 b := fit_word b k1 k2
  have HA : Hid (∀ w', Calls Try.prog 32 #[.int .i64 a] w' fun e w'' => (∃ r, e = .returned r ∧ IsI w'' r a) ∧ Ext w' w'') := fun w' => from_any a w' h1 h2
  have HB : Hid (∀ w', Calls Try.prog 32 #[.int .i64 b] w' fun e w'' => (∃ r, e = .returned r ∧ IsI w'' r b) ∧ Ext w' w'') := fun w' => from_any b w' k1 k2
  have HT : Hid (∀ r1 r2 w', IsI w' r1 a → IsI w' r2 b → Calls Try.prog 33 #[r1, r2] w' fun e w'' => (∃ r', e = .returned r' ∧ IsI w'' r' (a + b)) ∧ Ext w' w'') := fun r1 r2 w' hr1 hr2 => plus_isI a b r1 r2 w' hr1 hr2 (fa.small (by omega)) (fb.small (by omega)) ((fa.add fb).small (by omega))
  have HW : Hid (∀ r w', IsI w' r (a + b) → Calls Try.prog 44 #[r] w' fun e w'' => e = .returned (.tuple #[.int .i64 (wordR (a + b)).1, .int .i64 (wordR (a + b)).2]) ∧ Ext w' w'') := fun r w' hr => word_any _ r w' hr ((fa.add fb).small (by omega))
  clear fa fb h1 h2 k1 k2
  generalize (wordR (a + b)).1 = o1 at *
  generalize (wordR (a + b)).2 = o2 at *
  generalize a + b = P at *
  go_enter Try.func18, Try.ntmps18
  go_wp2_with fail
  refine (HA.out _).mono ?_
  rintro e w1 ⟨⟨r1, rfl, hr1⟩, x1⟩
  go_wp2_with fail
  refine (HB.out _).mono ?_
  rintro e w2 ⟨⟨r2, rfl, hr2⟩, x2⟩
  go_wp2_with fail
  refine (HT.out _ _ _ (hr1.ext x2) hr2).mono ?_
  rintro e w3 ⟨⟨r3, rfl, hr3⟩, x3⟩
  go_wp2_with fail
  refine (HW.out _ _ hr3).mono ?_
  rintro e w4 ⟨rfl, x4⟩
  go_wp2_with fail
  go_ret2
  exact ⟨rfl, ((x1.trans x2).trans x3).trans x4⟩

set_option maxHeartbeats 1000000 in
theorem refsub_any (a b : Int) (w : World) (h1 : -9223372036854775808 ≤ a) (h2 : a ≤ 9223372036854775807) (k1 : -9223372036854775808 ≤ b) (k2 : b ≤ 9223372036854775807) :
    Calls Try.prog 19 #[.int .i64 a, .int .i64 b] w fun e w' => e = .returned (.tuple #[.int .i64 (wordR (a - b)).1, .int .i64 (wordR (a - b)).2]) ∧ Ext w w' := by
  have fa : Fit 64 a := fit_word a h1 h2
  have fb : Fit 64 b := fit_word b k1 k2
  have HA : Hid (∀ w', Calls Try.prog 32 #[.int .i64 a] w' fun e w'' => (∃ r, e = .returned r ∧ IsI w'' r a) ∧ Ext w' w'') := fun w' => from_any a w' h1 h2
  have HB : Hid (∀ w', Calls Try.prog 32 #[.int .i64 b] w' fun e w'' => (∃ r, e = .returned r ∧ IsI w'' r b) ∧ Ext w' w'') := fun w' => from_any b w' k1 k2
  have HT : Hid (∀ r1 r2 w', IsI w' r1 a → IsI w' r2 b → Calls Try.prog 35 #[r1, r2] w' fun e w'' => (∃ r', e = .returned r' ∧ IsI w'' r' (a - b)) ∧ Ext w' w'') := fun r1 r2 w' hr1 hr2 => less_isI a b r1 r2 w' hr1 hr2 (fa.small (by omega)) (fb.small (by omega)) ((fa.sub fb).small (by omega))
  have HW : Hid (∀ r w', IsI w' r (a - b) → Calls Try.prog 44 #[r] w' fun e w'' => e = .returned (.tuple #[.int .i64 (wordR (a - b)).1, .int .i64 (wordR (a - b)).2]) ∧ Ext w' w'') := fun r w' hr => word_any _ r w' hr ((fa.sub fb).small (by omega))
  clear fa fb h1 h2 k1 k2
  generalize (wordR (a - b)).1 = o1 at *
  generalize (wordR (a - b)).2 = o2 at *
  generalize a - b = P at *
  go_enter Try.func19, Try.ntmps19
  go_wp2_with fail
  refine (HA.out _).mono ?_
  rintro e w1 ⟨⟨r1, rfl, hr1⟩, x1⟩
  go_wp2_with fail
  refine (HB.out _).mono ?_
  rintro e w2 ⟨⟨r2, rfl, hr2⟩, x2⟩
  go_wp2_with fail
  refine (HT.out _ _ _ (hr1.ext x2) hr2).mono ?_
  rintro e w3 ⟨⟨r3, rfl, hr3⟩, x3⟩
  go_wp2_with fail
  refine (HW.out _ _ hr3).mono ?_
  rintro e w4 ⟨rfl, x4⟩
  go_wp2_with fail
  go_ret2
  exact ⟨rfl, ((x1.trans x2).trans x3).trans x4⟩

theorem over_abs (x d : Int) : (over x d).natAbs = x.natAbs := by unfold over; split <;> omega
structure LaidO (p : Nat) (W : World) (u1 v1 u2 v2 : Value) : Prop where
  a : Has W p u1 v1
  b : Has W (p + 1) u2 v2
  c : Has3 W (p + 1 + 1) (.bool false) (.slice none 0 0) (.slice none 0 0)
theorem LaidO.ext {p : Nat} {W W' : World} {u1 v1 u2 v2 : Value} (h : LaidO p W u1 v1 u2 v2) (hx : Ext W W') : LaidO p W' u1 v1 u2 v2 := ⟨h.a.ext hx, h.b.ext hx, h.c.ext hx⟩
theorem laidO_start (w : World) (u1 v1 u2 v2 : Value) : LaidO w.heap.size (((w.alloc (.cells #[u1, v1] 44)).alloc (.cells #[u2, v2] 44)).alloc (.cells #[.bool false, .slice none 0 0, .slice none 0 0] 56)) u1 v1 u2 v2 := by
  constructor <;> constructor <;> simp [go_sem]
theorem Has3.far {w : World} {b g : Nat} {u v x y z : Value} (h : Has3 w b u v z) (hb : b ≠ g) : Has3 ((w.setCell ⟨g, 0, none⟩ x).setCell ⟨g, 1, none⟩ y) b u v z :=
  ⟨by rw [far2 _ _ _ _ _ hb]; exact h.c0, by rw [far2 _ _ _ _ _ hb]; exact h.c1, by rw [far2 _ _ _ _ _ hb]; exact h.c2, by simp [h.f0], by simp [h.f1], by simp [h.f2]⟩
theorem IsQ.set3 {w : World} {v : Value} {n : Int} {d g : Nat} {b0 : Bool} {a a' : Option Addr} {l c l' c' : Nat} {x y z : Value} (h : IsQ w v n d) (c0 : w.cell? ⟨g, 0, none⟩ = some (.bool b0)) (c1 : w.cell? ⟨g, 1, none⟩ = some (.slice a l c)) (c2 : w.cell? ⟨g, 2, none⟩ = some (.slice a' l' c')) :
    IsQ (((w.setCell ⟨g, 0, none⟩ x).setCell ⟨g, 1, none⟩ y).setCell ⟨g, 2, none⟩ z) v n d := by
  obtain ⟨u1, u2, h1, h2, h3⟩ := h
  exact ⟨u1, u2, h1, h2.set3 c0 c1 c2, h3.set3 c0 c1 c2⟩

set_option maxHeartbeats 4000000 in
theorem over_any (x d : Int) (k : Nat) (r1 r2 : Value) (w : World) (h1 : IsI w r1 x) (h2 : IsI w r2 d) (hd : d ≠ 0) (hk : k ≤ 4000) (f1 : Fit k x) (f2 : Fit k d) :
    Calls Try.prog 42 #[r1, r2] w fun e w' => (∃ q, e = .returned q ∧ IsQ w' q (over x d / (Nat.gcd (over x d).natAbs d.natAbs : Int)) (d.natAbs / Nat.gcd (over x d).natAbs d.natAbs)) ∧ Ext w w' := by
  obtain ⟨u1, rfl, k1⟩ := h1
  obtain ⟨u2, rfl, k2⟩ := h2
  have f3 : Fit k (over x d) := f1.of_le (by rw [over_abs]; exact Nat.le_refl _)
  have f4 : Fit k (d.natAbs : Int) := by unfold Fit at *; rwa [Int.natAbs_natCast]
  have HM : Hid (∀ r w', IsN w' u2 d.natAbs → IsI w' r (over x d) → Calls Try.prog 65 #[r, u2] w' fun e w'' => (∃ q, e = .returned q ∧ IsQ w'' q (over x d / (Nat.gcd (over x d).natAbs d.natAbs : Int)) (d.natAbs / Nat.gcd (over x d).natAbs d.natAbs)) ∧ Ext w' w'') := fun r w' hx hr => make_isQ (over x d) d.natAbs k r u2 w' hr hx (by omega) hk f3 f4
  have HG : Hid (∀ w', Ext w w' → Calls Try.prog 64 #[.agg #[.bool (decide (x < 0)), u1]] w' fun e w'' => (∃ r', e = .returned r' ∧ IsI w'' r' (-x)) ∧ Ext w' w'') := fun w' hx => neg_isI x _ w' ⟨u1, rfl, k1.ext hx⟩ (f1.small (by omega))
  have HI : Hid (IsI w (.agg #[.bool (decide (x < 0)), u1]) x) := ⟨u1, rfl, k1⟩
  have HI2 : Hid (IsN w u2 d.natAbs) := k2
  obtain ⟨a1, l1, c1, rfl⟩ := k1.isSlice
  obtain ⟨a2, l2, c2, rfl⟩ := k2.isSlice
  clear k1 k2 f1 f2 f3 f4
  generalize over x d / (Nat.gcd (over x d).natAbs d.natAbs : Int) = N1 at *
  generalize d.natAbs / Nat.gcd (over x d).natAbs d.natAbs = D1 at *
  by_cases hn : d < 0
  · have eo : over x d = -x := by unfold over; rw [if_pos hn]
    rw [eo] at HM
    rw [decide_eq_true hn]
    clear hn eo
    generalize decide (x < 0) = b at *
    have XS : Hid (Ext w (((w.alloc (.cells #[.bool b, .slice a1 l1 c1] 44)).alloc (.cells #[.bool true, .slice a2 l2 c2] 44)).alloc (.cells #[.bool false, .slice none 0 0, .slice none 0 0] 56))) := (((Ext.refl w).alloc _).alloc _).alloc _
    have LS : Hid (LaidO w.heap.size (((w.alloc (.cells #[.bool b, .slice a1 l1 c1] 44)).alloc (.cells #[.bool true, .slice a2 l2 c2] 44)).alloc (.cells #[.bool false, .slice none 0 0, .slice none 0 0] 56)) (.bool b) (.slice a1 l1 c1) (.bool true) (.slice a2 l2 c2)) := laidO_start w _ _ _ _
    go_enter Try.func42, Try.ntmps42
    go_wp2_with fail
    generalize (((w.alloc (.cells #[.bool b, .slice a1 l1 c1] 44)).alloc (.cells #[.bool true, .slice a2 l2 c2] 44)).alloc (.cells #[.bool false, .slice none 0 0, .slice none 0 0] 56)) = W at *
    refine (HG.out _ XS.out).mono ?_
    rintro e w1 ⟨⟨r1, rfl, hr1⟩, x1⟩
    obtain ⟨um, hum, hkm⟩ := hr1
    obtain ⟨am, lm, cm, hm⟩ := hkm.isSlice
    subst hm
    subst hum
    have L1 : Hid (LaidO w.heap.size ((w1.setCell ⟨w.heap.size, 0, none⟩ (.bool (decide (-x < 0)))).setCell ⟨w.heap.size, 1, none⟩ (.slice am lm cm)) (.bool (decide (-x < 0))) (.slice am lm cm) (.bool true) (.slice a2 l2 c2)) := by
      obtain ⟨A, B, C⟩ := LS.out.ext x1
      exact ⟨A.here, B.far (by omega), C.far (by omega)⟩
    obtain ⟨⟨p0, p1, p2, p3⟩, ⟨p4, p5, p6, p7⟩, ⟨p8, p9, p10, p11, p12, p13⟩⟩ := L1.out
    obtain ⟨⟨s0, s1, s2, s3⟩, ⟨s4, s5, s6, s7⟩, _⟩ := LS.out.ext x1
    have X1 : Hid (Ext w ((w1.setCell ⟨w.heap.size, 0, none⟩ (.bool (decide (-x < 0)))).setCell ⟨w.heap.size, 1, none⟩ (.slice am lm cm))) := ((XS.out.trans x1).setCell (Nat.le_refl _) _).setCell (Nat.le_refl _) _
    have HI1 : Hid (IsI ((w1.setCell ⟨w.heap.size, 0, none⟩ (.bool (decide (-x < 0)))).setCell ⟨w.heap.size, 1, none⟩ (.slice am lm cm)) (.agg #[.bool (decide (-x < 0)), .slice am lm cm]) (-x)) := IsI.set2 ⟨_, rfl, hkm⟩ s0 s1
    clear hkm x1
    generalize decide (-x < 0) = bm at *
    go_wp2_with fail
    generalize (w1.setCell ⟨w.heap.size, 0, none⟩ (.bool bm)).setCell ⟨w.heap.size, 1, none⟩ (.slice am lm cm) = W1 at *
    refine (HM.out _ _ (HI2.out.ext X1.out) HI1.out).mono ?_
    rintro e w2 ⟨⟨q, rfl, hq⟩, x2⟩
    obtain ⟨_, _, ⟨t0, t1, t2, t3, t4, t5⟩⟩ := L1.out.ext x2
    have X2 : Hid (Ext w w2) := X1.out.trans x2
    obtain ⟨v1, v2, hv, hv1, hv2⟩ := hq
    obtain ⟨an, ln, cn, en⟩ := hv1.isSlice
    obtain ⟨ad, ld, cd, ed⟩ := hv2.isSlice
    subst en ed
    subst hv
    have HQ : Hid (IsQ w2 (.agg #[.bool (decide (N1 < 0)), .slice an ln cn, .slice ad ld cd]) N1 D1) := ⟨_, _, rfl, hv1, hv2⟩
    clear hv1 hv2 x2 p0 p1 p2 p3 p4 p5 p6 p7 p8 p9 p10 p11 p12 p13 s0 s1 s2 s3 s4 s5 s6 s7
    go_wp2_with fail
    exact bodyPost_ret (v := .agg #[.bool (decide (N1 < 0)), .slice an ln cn, .slice ad ld cd]) (by simp [results, Try.results42, go_sem, t0, t1, t2]) rfl
      ⟨⟨_, rfl, HQ.out.set3 t0 t1 t2⟩, ((X2.out.setCell (show w.heap.size ≤ w.heap.size + 1 + 1 by omega) _).setCell (show w.heap.size ≤ w.heap.size + 1 + 1 by omega) _).setCell (show w.heap.size ≤ w.heap.size + 1 + 1 by omega) _⟩
  · have eo : over x d = x := by unfold over; rw [if_neg hn]
    rw [eo] at HM
    rw [decide_eq_false hn]
    clear hn eo
    generalize decide (x < 0) = b at *
    have XS : Hid (Ext w (((w.alloc (.cells #[.bool b, .slice a1 l1 c1] 44)).alloc (.cells #[.bool false, .slice a2 l2 c2] 44)).alloc (.cells #[.bool false, .slice none 0 0, .slice none 0 0] 56))) := (((Ext.refl w).alloc _).alloc _).alloc _
    have LS : Hid (LaidO w.heap.size (((w.alloc (.cells #[.bool b, .slice a1 l1 c1] 44)).alloc (.cells #[.bool false, .slice a2 l2 c2] 44)).alloc (.cells #[.bool false, .slice none 0 0, .slice none 0 0] 56)) (.bool b) (.slice a1 l1 c1) (.bool false) (.slice a2 l2 c2)) := laidO_start w _ _ _ _
    go_enter Try.func42, Try.ntmps42
    go_wp2_with fail
    generalize (((w.alloc (.cells #[.bool b, .slice a1 l1 c1] 44)).alloc (.cells #[.bool false, .slice a2 l2 c2] 44)).alloc (.cells #[.bool false, .slice none 0 0, .slice none 0 0] 56)) = W at *
    refine (HM.out _ _ (HI2.out.ext XS.out) (HI.out.ext XS.out)).mono ?_
    rintro e w2 ⟨⟨q, rfl, hq⟩, x2⟩
    obtain ⟨_, _, ⟨t0, t1, t2, t3, t4, t5⟩⟩ := LS.out.ext x2
    have X2 : Hid (Ext w w2) := XS.out.trans x2
    obtain ⟨v1, v2, hv, hv1, hv2⟩ := hq
    obtain ⟨an, ln, cn, en⟩ := hv1.isSlice
    obtain ⟨ad, ld, cd, ed⟩ := hv2.isSlice
    subst en ed
    subst hv
    have HQ : Hid (IsQ w2 (.agg #[.bool (decide (N1 < 0)), .slice an ln cn, .slice ad ld cd]) N1 D1) := ⟨_, _, rfl, hv1, hv2⟩
    clear hv1 hv2 x2
    go_wp2_with fail
    exact bodyPost_ret (v := .agg #[.bool (decide (N1 < 0)), .slice an ln cn, .slice ad ld cd]) (by simp [results, Try.results42, go_sem, t0, t1, t2]) rfl
      ⟨⟨_, rfl, HQ.out.set3 t0 t1 t2⟩, ((X2.out.setCell (show w.heap.size ≤ w.heap.size + 1 + 1 by omega) _).setCell (show w.heap.size ≤ w.heap.size + 1 + 1 by omega) _).setCell (show w.heap.size ≤ w.heap.size + 1 + 1 by omega) _⟩

set_option maxHeartbeats 1000000 in
theorem refdiv_zero (a : Int) (w : World) :
    Calls Try.prog 15 #[.int .i64 a, .int .i64 0] w fun e w' => e = .returned (.tuple #[.int .i64 0, .int .i64 3]) ∧ Ext w w' := by
  go_enter Try.func15, Try.ntmps15
  go_wp2_with fail
  go_ret2
  exact ⟨rfl, Ext.refl _⟩

set_option maxHeartbeats 1000000 in
theorem refdiv_any (a b z : Int) (w : World) (h1 : -9223372036854775808 ≤ a) (h2 : a ≤ 9223372036854775807) (k1 : -9223372036854775808 ≤ b) (k2 : b ≤ 9223372036854775807) (hb : b ≠ 0) (hz : IsNear (over (a * 2 ^ 30) b) (b.natAbs : Int) z) :
    Calls Try.prog 15 #[.int .i64 a, .int .i64 b] w fun e w' => e = .returned (.tuple #[.int .i64 (wordR z).1, .int .i64 (wordR z).2]) ∧ Ext w w' := by
  have fa : Fit 64 a := fit_word a h1 h2
  have fb : Fit 64 b := fit_word b k1 k2
  have fn : Fit 94 (a * 2 ^ 30) := fa.shl 30
  have HA : Hid (∀ w', Calls Try.prog 32 #[.int .i64 a] w' fun e w'' => (∃ r, e = .returned r ∧ IsI w'' r a) ∧ Ext w' w'') := fun w' => from_any a w' h1 h2
  have HB : Hid (∀ w', Calls Try.prog 32 #[.int .i64 b] w' fun e w'' => (∃ r, e = .returned r ∧ IsI w'' r b) ∧ Ext w' w'') := fun w' => from_any b w' k1 k2
  have HL : Hid (∀ r w', IsI w' r a → Calls Try.prog 34 #[r, .int .i64 30] w' fun e w'' => (∃ r', e = .returned r' ∧ IsI w'' r' (a * 2 ^ 30)) ∧ Ext w' w'') := fun r w' hr => left_isI a 30 r w' hr (fa.small (by omega)) (by omega) (fn.small (by omega))
  have HV : Hid (∀ r1 r2 w', IsI w' r1 (a * 2 ^ 30) → IsI w' r2 b → Calls Try.prog 42 #[r1, r2] w' fun e w'' => (∃ q, e = .returned q ∧ IsQ w'' q (over (a * 2 ^ 30) b / (Nat.gcd (over (a * 2 ^ 30) b).natAbs b.natAbs : Int)) (b.natAbs / Nat.gcd (over (a * 2 ^ 30) b).natAbs b.natAbs)) ∧ Ext w' w'') := fun r1 r2 w' hr1 hr2 => over_any (a * 2 ^ 30) b 94 r1 r2 w' hr1 hr2 hb (by omega) fn (fb.le (by omega))
  have hgp : 0 < Nat.gcd (over (a * 2 ^ 30) b).natAbs b.natAbs := Nat.gcd_pos_of_pos_right _ (by omega)
  have hnz : b.natAbs / Nat.gcd (over (a * 2 ^ 30) b).natAbs b.natAbs ≠ 0 := by
    have := Nat.div_pos (Nat.le_of_dvd (by omega) (Nat.gcd_dvd_right (over (a * 2 ^ 30) b).natAbs b.natAbs)) hgp
    omega
  have fo : Fit 94 (over (a * 2 ^ 30) b) := fn.of_le (by rw [over_abs]; exact Nat.le_refl _)
  have HN : Hid (∀ q w', IsQ w' q (over (a * 2 ^ 30) b / (Nat.gcd (over (a * 2 ^ 30) b).natAbs b.natAbs : Int)) (b.natAbs / Nat.gcd (over (a * 2 ^ 30) b).natAbs b.natAbs) → Calls Try.prog 41 #[q] w' fun e w'' => e = .returned (.tuple #[.int .i64 (wordR z).1, .int .i64 (wordR z).2]) ∧ Ext w' w'') := fun q w' hq =>
    near1_any _ _ 94 z q w' hq hnz (by omega) (fo.of_le (natAbs_ediv_le _ _ (by omega))) ((fb.le (by omega)).of_le (by rw [Int.natAbs_natCast]; exact Nat.div_le_self _ _)) (near_lowest _ b.natAbs (by omega) z hz)
  have hb0 : (b == 0) = false := beq_eq_false_iff_ne.2 hb
  clear fa fb fn fo hgp hnz hz h1 h2 k1 k2 hb
  generalize (wordR z).1 = o1 at *
  generalize (wordR z).2 = o2 at *
  generalize over (a * 2 ^ 30) b / (Nat.gcd (over (a * 2 ^ 30) b).natAbs b.natAbs : Int) = N1 at *
  generalize b.natAbs / Nat.gcd (over (a * 2 ^ 30) b).natAbs b.natAbs = D1 at *
  generalize a * 2 ^ 30 = A30 at *
  go_enter Try.func15, Try.ntmps15
  go_wp2_with fail
  refine (HA.out _).mono ?_
  rintro e w1 ⟨⟨r1, rfl, hr1⟩, x1⟩
  go_wp2_with fail
  refine (HL.out _ _ hr1).mono ?_
  rintro e w9 ⟨⟨r9, rfl, hr9⟩, x9⟩
  go_wp2_with fail
  refine (HB.out _).mono ?_
  rintro e w2 ⟨⟨r2, rfl, hr2⟩, x2⟩
  go_wp2_with fail
  refine (HV.out _ _ _ (hr9.ext x2) hr2).mono ?_
  rintro e w3 ⟨⟨q, rfl, hq⟩, x3⟩
  go_wp2_with fail
  refine (HN.out _ _ hq).mono ?_
  rintro e w4 ⟨rfl, x4⟩
  go_wp2_with fail
  go_ret2
  exact ⟨rfl, (((x1.trans x9).trans x2).trans x3).trans x4⟩

set_option maxHeartbeats 1000000 in
theorem refratio_zero (a : Int) (w : World) :
    Calls Try.prog 17 #[.int .i64 a, .int .i64 0] w fun e w' => e = .returned (.tuple #[.int .i64 0, .int .i64 3]) ∧ Ext w w' := by
  go_enter Try.func17, Try.ntmps17
  go_wp2_with fail
  go_ret2
  exact ⟨rfl, Ext.refl _⟩

set_option maxHeartbeats 1000000 in
theorem refratio_any (a b z : Int) (w : World) (h1 : -9223372036854775808 ≤ a) (h2 : a ≤ 9223372036854775807) (k1 : -9223372036854775808 ≤ b) (k2 : b ≤ 9223372036854775807) (hb : b ≠ 0) (hz : IsNear (over a b) (b.natAbs : Int) z) :
    Calls Try.prog 17 #[.int .i64 a, .int .i64 b] w fun e w' => e = .returned (.tuple #[.int .i64 (wordR z).1, .int .i64 (wordR z).2]) ∧ Ext w w' := by
  have fa : Fit 64 a := fit_word a h1 h2
  have fb : Fit 64 b := fit_word b k1 k2
  have fn : Fit 94 a := fa.le (by omega)
  have HA : Hid (∀ w', Calls Try.prog 32 #[.int .i64 a] w' fun e w'' => (∃ r, e = .returned r ∧ IsI w'' r a) ∧ Ext w' w'') := fun w' => from_any a w' h1 h2
  have HB : Hid (∀ w', Calls Try.prog 32 #[.int .i64 b] w' fun e w'' => (∃ r, e = .returned r ∧ IsI w'' r b) ∧ Ext w' w'') := fun w' => from_any b w' k1 k2
  have HV : Hid (∀ r1 r2 w', IsI w' r1 a → IsI w' r2 b → Calls Try.prog 42 #[r1, r2] w' fun e w'' => (∃ q, e = .returned q ∧ IsQ w'' q (over a b / (Nat.gcd (over a b).natAbs b.natAbs : Int)) (b.natAbs / Nat.gcd (over a b).natAbs b.natAbs)) ∧ Ext w' w'') := fun r1 r2 w' hr1 hr2 => over_any a b 94 r1 r2 w' hr1 hr2 hb (by omega) fn (fb.le (by omega))
  have hgp : 0 < Nat.gcd (over a b).natAbs b.natAbs := Nat.gcd_pos_of_pos_right _ (by omega)
  have hnz : b.natAbs / Nat.gcd (over a b).natAbs b.natAbs ≠ 0 := by
    have := Nat.div_pos (Nat.le_of_dvd (by omega) (Nat.gcd_dvd_right (over a b).natAbs b.natAbs)) hgp
    omega
  have fo : Fit 94 (over a b) := fn.of_le (by rw [over_abs]; exact Nat.le_refl _)
  have HN : Hid (∀ q w', IsQ w' q (over a b / (Nat.gcd (over a b).natAbs b.natAbs : Int)) (b.natAbs / Nat.gcd (over a b).natAbs b.natAbs) → Calls Try.prog 41 #[q] w' fun e w'' => e = .returned (.tuple #[.int .i64 (wordR z).1, .int .i64 (wordR z).2]) ∧ Ext w' w'') := fun q w' hq =>
    near1_any _ _ 94 z q w' hq hnz (by omega) (fo.of_le (natAbs_ediv_le _ _ (by omega))) ((fb.le (by omega)).of_le (by rw [Int.natAbs_natCast]; exact Nat.div_le_self _ _)) (near_lowest _ b.natAbs (by omega) z hz)
  have hb0 : (b == 0) = false := beq_eq_false_iff_ne.2 hb
  clear fa fb fn fo hgp hnz hz h1 h2 k1 k2 hb
  generalize (wordR z).1 = o1 at *
  generalize (wordR z).2 = o2 at *
  generalize over a b / (Nat.gcd (over a b).natAbs b.natAbs : Int) = N1 at *
  generalize b.natAbs / Nat.gcd (over a b).natAbs b.natAbs = D1 at *
  go_enter Try.func17, Try.ntmps17
  go_wp2_with fail
  refine (HA.out _).mono ?_
  rintro e w1 ⟨⟨r1, rfl, hr1⟩, x1⟩
  go_wp2_with fail
  refine (HB.out _).mono ?_
  rintro e w2 ⟨⟨r2, rfl, hr2⟩, x2⟩
  go_wp2_with fail
  refine (HV.out _ _ _ (hr1.ext x2) hr2).mono ?_
  rintro e w3 ⟨⟨q, rfl, hq⟩, x3⟩
  go_wp2_with fail
  refine (HN.out _ _ hq).mono ?_
  rintro e w4 ⟨rfl, x4⟩
  go_wp2_with fail
  go_ret2
  exact ⟨rfl, ((x1.trans x2).trans x3).trans x4⟩
end Go.Proofs.Ytfcmacbhadpldaa
