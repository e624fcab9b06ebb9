/- The reference of layer 1: Near, NearQ, Over, Prod, Mul, Div, Ratio, Add, Sub. The reference of layer 3: three, Add, Neg, Sub, Scale. -/
import Derived.Test.YtbmocnigmpmfkaaNearQm
import Derived.Test.YtbmocnigmpmfkaaMg46
import Derived.Test.YtbmocnigmpmfkaaMg19
namespace Go.Proofs.Ytbmocnigmpmfkaa
open Go.RowKit

theorem nearI_fit (n d : Int) (k : Nat) (f : Fit k n) (hd : 0 < d) : Fit (k + 2) (nearI n d) := by
  have h1 : (n * 2 / d / 2).natAbs ≤ (n * 2).natAbs := Nat.le_trans (natAbs_ediv_le _ _ (by omega)) (natAbs_ediv_le _ _ hd)
  have f1 : Fit (k + 1) (n * 2) := by have := f.shl 1; rwa [Int.pow_succ, Int.pow_zero, Int.one_mul] at this
  have f2 : Fit (k + 1) (n * 2 / d / 2) := f1.of_le h1
  unfold nearI
  split
  · exact f2.le (by omega)
  · split
    · exact f2.le (by omega)
    · exact f2.add (fit_one _ (by omega))
theorem fit_word (a : Int) (h1 : -9223372036854775808 ≤ a) (h2 : a ≤ 9223372036854775807) : Fit 64 a := by
  unfold Fit
  have e : (2 : Nat) ^ 64 = 18446744073709551616 := by decide
  omega

set_option maxHeartbeats 2000000 in
theorem near1_any (n : Int) (d k : Nat) (z : Int) (v : Value) (w : World) (h1 : IsQ w v n d) (hd : d ≠ 0) (hk : k ≤ 3000) (f1 : Fit k n) (f2 : Fit k (d : Int)) (hz : IsNear n d z) :
    Calls Try.prog 34 #[v] w fun e w' => e = .returned (.tuple #[.int .i64 (wordR z).1, .int .i64 (wordR z).2]) ∧ Ext w w' := by
  have e : nearI n d = z := (nearI_spec n d (by omega)).unique (by omega) hz
  have fz : Fit (k + 2) z := by
    rw [← e]
    exact nearI_fit n d k f1 (by omega)
  have HN : Hid (∀ w', Ext w w' → Calls Try.prog 46 #[v] w' fun e w'' => (∃ r, e = .returned r ∧ IsI w'' r z) ∧ Ext w' w'') := fun w' hx => by
    have h := near_isI n d k v w' (h1.ext hx) hd hk f1 f2
    rw [e] at h
    exact h
  have HW : Hid (∀ r w', IsI w' r z → Calls Try.prog 45 #[r] w' fun e w'' => e = .returned (.tuple #[.int .i64 (wordR z).1, .int .i64 (wordR z).2]) ∧ Ext w' w'') := fun r w' hr => word_any z r w' hr (fz.small (by omega))
  obtain ⟨u1, u2, rfl, k1, k2⟩ := h1
  obtain ⟨a1, l1, c1, rfl⟩ := k1.isSlice
  obtain ⟨a2, l2, c2, rfl⟩ := k2.isSlice
  clear k1 k2 fz e hz
  generalize decide (n < 0) = b at *
  generalize (wordR z).1 = o1 at *
  generalize (wordR z).2 = o2 at *
  go_enter Try.func34, Try.ntmps34
  go_wp2_with fail
  refine (HN.out _ ((Ext.refl _).alloc _)).mono ?_
  rintro e w1 ⟨⟨r, rfl, hr⟩, x1⟩
  go_wp2_with fail
  refine (HW.out _ _ hr).mono ?_
  rintro e w2 ⟨rfl, x2⟩
  go_wp2_with fail
  go_ret2
  exact ⟨rfl, (((Ext.refl _).alloc _).trans x1).trans x2⟩

theorem near_lowest (x : Int) (d : Nat) (hd : d ≠ 0) (z : Int) (hz : IsNear x d z) : IsNear (x / (Nat.gcd x.natAbs d : Int)) ((d / Nat.gcd x.natAbs d : Nat) : Int) z := by
  have hg : 0 < Nat.gcd x.natAbs d := Nat.gcd_pos_of_pos_right _ (by omega)
  have h1 : (Nat.gcd x.natAbs d : Int) ∣ x := Int.ofNat_dvd_left.2 (Nat.gcd_dvd_left _ _)
  have h2 : Nat.gcd x.natAbs d ∣ d := Nat.gcd_dvd_right _ _
  generalize Nat.gcd x.natAbs d = g at *
  obtain ⟨c, hc⟩ := h1
  obtain ⟨e, he⟩ := h2
  have e1 : x / (g : Int) = c := by rw [hc, Int.mul_ediv_cancel_left _ (by omega)]
  have e2 : d / g = e := by rw [he, Nat.mul_div_cancel_left _ hg]
  have he0 : 0 < e := by
    apply Nat.pos_of_ne_zero
    intro h0
    rw [h0, Nat.mul_zero] at he
    exact hd he
  rw [e1, e2]
  have hs := nearI_spec c (e : Int) (by omega)
  have h3 := hs.scale (g := (g : Int)) (by omega)
  rw [← hc, ← Int.natCast_mul, ← he] at h3
  rw [hz.unique (by omega) h3]
  exact hs

set_option maxHeartbeats 4000000 in
theorem nearq_any (x z : Int) (k : Nat) (r : Value) (w : World) (h : IsI w r x) (hk : k ≤ 2000) (hk2 : 31 ≤ k) (f1 : Fit k x) (hz : IsNear x 1073741824 z) :
    Calls Try.prog 28 #[r] w fun e w' => e = .returned (.tuple #[.int .i64 (wordR z).1, .int .i64 (wordR z).2]) ∧ Ext w w' := by
  have HO : Hid (∀ w', Calls Try.prog 37 #[.int .u64 1] w' fun e w'' => (∃ v', e = .returned v' ∧ IsN w'' v' 1) ∧ Ext w' w'') := fun w' => nof_any 1 (by omega) w'
  have HU : Hid (∀ u w', IsN w' u 1 → Calls Try.prog 36 #[u, .int .i64 30] w' fun e w'' => (∃ v', e = .returned v' ∧ IsN w'' v' 1073741824) ∧ Ext w' w'') := fun u w' hu => up2_any 1 30 u w' hu (small_64 1 (by omega)) (by omega)
  have f2 : Fit k ((1073741824 : Nat) : Int) := (show Fit 31 ((1073741824 : Nat) : Int) by unfold Fit; decide).le hk2
  have HM : Hid (∀ u w', Ext w w' → IsN w' u 1073741824 → Calls Try.prog 35 #[r, u] w' fun e w'' => (∃ q, e = .returned q ∧ IsQ w'' q (x / (Nat.gcd x.natAbs 1073741824 : Int)) (1073741824 / Nat.gcd x.natAbs 1073741824)) ∧ Ext w' w'') := fun u w' hx hu => make_isQ x 1073741824 k r u w' (h.ext hx) hu (by omega) (by omega) f1 f2
  have hgp : 0 < Nat.gcd x.natAbs 1073741824 := Nat.gcd_pos_of_pos_right _ (by omega)
  have hnz : 1073741824 / Nat.gcd x.natAbs 1073741824 ≠ 0 := by
    have := Nat.div_pos (Nat.le_of_dvd (by omega) (Nat.gcd_dvd_right x.natAbs 1073741824)) hgp
    omega
  have HN : Hid (∀ q w', IsQ w' q (x / (Nat.gcd x.natAbs 1073741824 : Int)) (1073741824 / Nat.gcd x.natAbs 1073741824) → Calls Try.prog 34 #[q] w' fun e w'' => e = .returned (.tuple #[.int .i64 (wordR z).1, .int .i64 (wordR z).2]) ∧ Ext w' w'') := fun q w' hq =>
    near1_any _ _ k z q w' hq hnz (by omega) (f1.of_le (natAbs_ediv_le _ _ (by omega))) (f2.of_le (by rw [Int.natAbs_natCast, Int.natAbs_natCast]; exact Nat.div_le_self _ _)) (near_lowest x 1073741824 (by omega) z hz)
  obtain ⟨u, rfl, hu⟩ := h
  obtain ⟨a1, l1, c1, rfl⟩ := hu.isSlice
  clear hu f1 f2 hz hnz hgp
  generalize decide (x < 0) = b at *
  generalize (wordR z).1 = o1 at *
  generalize (wordR z).2 = o2 at *
  generalize x / (Nat.gcd x.natAbs 1073741824 : Int) = N1 at *
  generalize 1073741824 / Nat.gcd x.natAbs 1073741824 = D1 at *
  have XS : Hid (Ext w (w.alloc (.cells #[.bool b, .slice a1 l1 c1] 63))) := (Ext.refl _).alloc _
  have BS : Hid (Has (w.alloc (.cells #[.bool b, .slice a1 l1 c1] 63)) w.heap.size (.bool b) (.slice a1 l1 c1)) := ext_new1 (Ext.refl _)
  go_enter Try.func28, Try.ntmps28
  go_wp2_with fail
  generalize w.alloc (.cells #[.bool b, .slice a1 l1 c1] 63) = W at *
  obtain ⟨p0, p1, p2, p3⟩ := BS.out
  go_region_held (fun w' => w'.cell? ⟨w.heap.size, 0, none⟩ = some (.bool b) ∧ w'.cell? ⟨w.heap.size, 1, none⟩ = some (.slice a1 l1 c1)) (go_keep) (first | (go_at_call 37; refine (HO.out _).mono ?_; rintro e w1 ⟨⟨v1, rfl, hv1⟩, x1⟩; obtain ⟨s0, s1, s2, s3⟩ := BS.out.ext (cell_drew x1)) | (go_at_call 36; refine (HU.out _ _ hv1).mono ?_; rintro e w2 ⟨⟨v2, rfl, hv2⟩, x2⟩; obtain ⟨t0, t1, t2, t3⟩ := BS.out.ext ((cell_drew x1).trans x2)) | (go_at_call 35; refine (HM.out _ _ ((XS.out.trans (cell_drew x1)).trans x2) hv2).mono ?_; rintro e w3 ⟨⟨q3, rfl, hq3⟩, x3⟩; obtain ⟨y0, y1, y2, y3⟩ := BS.out.ext (((cell_drew x1).trans x2).trans x3)) | (go_at_call 34; refine (HN.out _ _ hq3).mono ?_; rintro e w4 ⟨rfl, x4⟩; obtain ⟨z0, z1, z2, z3⟩ := BS.out.ext ((((cell_drew x1).trans x2).trans x3).trans x4)))
  go_wp2_with fail
  go_ret2
  exact ⟨rfl, (((XS.out.trans (cell_drew x1)).trans x2).trans x3).trans x4⟩

set_option maxHeartbeats 1000000 in
theorem prod_any (a b : Int) (w : World) (h1 : -9223372036854775808 ≤ a) (h2 : a ≤ 9223372036854775807) (k1 : -9223372036854775808 ≤ b) (k2 : b ≤ 9223372036854775807) :
    Calls Try.prog 39 #[.int .i64 a, .int .i64 b] w fun e w' => (∃ r, e = .returned r ∧ IsI w' r (a * b)) ∧ Ext w w' := by
  have fa : Fit 64 a := fit_word a h1 h2
  have fb : Fit 64 b := fit_word b k1 k2
  have HA : Hid (∀ w', Calls Try.prog 55 #[.int .i64 a] w' fun e w'' => (∃ r, e = .returned r ∧ IsI w'' r a) ∧ Ext w' w'') := fun w' => from_any a w' h1 h2
  have HB : Hid (∀ w', Calls Try.prog 55 #[.int .i64 b] w' fun e w'' => (∃ r, e = .returned r ∧ IsI w'' r b) ∧ Ext w' w'') := fun w' => from_any b w' k1 k2
  have HT : Hid (∀ r1 r2 w', IsI w' r1 a → IsI w' r2 b → Calls Try.prog 54 #[r1, r2] w' fun e w'' => (∃ r', e = .returned r' ∧ IsI w'' r' (a * b)) ∧ Ext w' w'') := fun r1 r2 w' hr1 hr2 => times_isI a b r1 r2 w' hr1 hr2 (fa.small (by omega)) (fb.small (by omega)) ((fa.mul fb).small (by omega))
  clear fa fb h1 h2 k1 k2
  generalize a * b = P at *
  have XS : Hid (Ext w (w.alloc (.cells #[.bool false, .slice none 0 0] 63))) := (Ext.refl _).alloc _
  have BS : Hid (Has (w.alloc (.cells #[.bool false, .slice none 0 0] 63)) w.heap.size (.bool false) (.slice none 0 0)) := ext_new1 (Ext.refl _)
  go_enter Try.func39, Try.ntmps39
  go_wp2_with fail
  generalize w.alloc (.cells #[.bool false, .slice none 0 0] 63) = W at *
  refine (HA.out _).mono ?_
  rintro e w1 ⟨⟨r1, rfl, hr1⟩, x1⟩
  go_wp2_with fail
  refine (HB.out _).mono ?_
  rintro e w2 ⟨⟨r2, rfl, hr2⟩, x2⟩
  go_wp2_with fail
  refine (HT.out _ _ _ (hr1.ext x2) hr2).mono ?_
  rintro e w3 ⟨⟨r3, rfl, hr3⟩, x3⟩
  obtain ⟨t0, t1, t2, t3⟩ := BS.out.ext ((x1.trans x2).trans x3)
  obtain ⟨u, hu, hk⟩ := hr3
  obtain ⟨au, lu, cu, hau⟩ := hk.isSlice
  subst hau
  subst hu
  have X3 : Hid (Ext w w3) := XS.out.trans ((x1.trans x2).trans x3)
  have HI : Hid (IsI w3 (.agg #[.bool (decide (P < 0)), .slice au lu cu]) P) := ⟨_, rfl, hk⟩
  clear hk x1 x2 x3 hr1 hr2
  go_wp2_with fail
  exact bodyPost_ret (v := .agg #[.bool (decide (P < 0)), .slice au lu cu]) (by simp [results, Try.results39, go_sem, t0, t1]) rfl ⟨⟨_, rfl, HI.out.set2 t0 t1⟩, (X3.out.setCell (Nat.le_refl _) _).setCell (Nat.le_refl _) _⟩

theorem over_abs (x d : Int) : (over x d).natAbs = x.natAbs := by unfold over; split <;> omega
structure LaidO (p : Nat) (W : World) (u1 v1 u2 v2 : Value) : Prop where
  a : Has W p u1 v1
  b : Has W (p + 1) u2 v2
  c : Has3 W (p + 1 + 1) (.bool false) (.slice none 0 0) (.slice none 0 0)
theorem LaidO.ext {p : Nat} {W W' : World} {u1 v1 u2 v2 : Value} (h : LaidO p W u1 v1 u2 v2) (hx : Ext W W') : LaidO p W' u1 v1 u2 v2 := ⟨h.a.ext hx, h.b.ext hx, h.c.ext hx⟩
theorem laidO_start (w : World) (u1 v1 u2 v2 : Value) : LaidO w.heap.size (((w.alloc (.cells #[u1, v1] 63)).alloc (.cells #[u2, v2] 63)).alloc (.cells #[.bool false, .slice none 0 0, .slice none 0 0] 74)) u1 v1 u2 v2 := by
  constructor <;> constructor <;> simp [go_sem]
theorem Has3.far {w : World} {b g : Nat} {u v x y z : Value} (h : Has3 w b u v z) (hb : b ≠ g) : Has3 ((w.setCell ⟨g, 0, none⟩ x).setCell ⟨g, 1, none⟩ y) b u v z :=
  ⟨by rw [far2 _ _ _ _ _ hb]; exact h.c0, by rw [far2 _ _ _ _ _ hb]; exact h.c1, by rw [far2 _ _ _ _ _ hb]; exact h.c2, by simp [h.f0], by simp [h.f1], by simp [h.f2]⟩
theorem IsQ.set3 {w : World} {v : Value} {n : Int} {d g : Nat} {b0 : Bool} {a a' : Option Addr} {l c l' c' : Nat} {x y z : Value} (h : IsQ w v n d) (c0 : w.cell? ⟨g, 0, none⟩ = some (.bool b0)) (c1 : w.cell? ⟨g, 1, none⟩ = some (.slice a l c)) (c2 : w.cell? ⟨g, 2, none⟩ = some (.slice a' l' c')) :
    IsQ (((w.setCell ⟨g, 0, none⟩ x).setCell ⟨g, 1, none⟩ y).setCell ⟨g, 2, none⟩ z) v n d := by
  obtain ⟨u1, u2, h1, h2, h3⟩ := h
  exact ⟨u1, u2, h1, h2.set3 c0 c1 c2, h3.set3 c0 c1 c2⟩

end Go.Proofs.Ytbmocnigmpmfkaa

namespace Go.Proofs.Ytbmocnigmpmfkaa
open Go.RowKit Go.Shelf

theorem word_fit (z : Int) : wordR z = fitR z := rfl
theorem fit_two (z : Int) : (fitR z).2 = 0 ∧ okW z = true ∧ (fitR z).1 = z ∨ (fitR z).2 = 2 ∧ okW z = false ∧ (fitR z).1 = 0 := by
  cases h : okW z
  · rw [fit_no' h]; exact .inr ⟨rfl, rfl, rfl⟩
  · rw [fit_yes' h]; exact .inl ⟨rfl, rfl, rfl⟩
theorem ok3_negs {a b c : Int} (h : ok3 a b c = true) : ok3 (-a) (-b) (-c) = true := by
  obtain ⟨h0, h1, h2⟩ := ok3_parts h
  have n : ∀ b, okW b = true → okW (-b) = true := fun b h => by have := okW_bounds h; unfold okW; simp; omega
  unfold ok3; rw [n _ h0, n _ h1, n _ h2]; rfl
end Go.Proofs.Ytbmocnigmpmfkaa
