/- The reference's whole numbers with a sign: Small; words of them. The reference of layer 1: Near, NearQ, Over, Prod, Mul, Div, Ratio, Add, Sub. The reference's rational numbers: den, From, Floor. The reference's rational numbers: Floor of a whole number, Times, Cmp. -/
import Derived.Test.YtoeecldhbabmbaaGreatMg37
import Derived.Test.YtoeecldhbabmbaaGreatMg2
import Derived.Test.YtoeecldhbabmbaaGreatNearQm
open Go.Value renaming int → J, agg → zG
open Go.IntKind renaming i64 → zq, u64 → zu
open Go.Ending renaming returned → zR
open Go.Proofs.Tryz renaming prog → zP
namespace Go.Proofs.YtoeecldhbabmbaaGreat
open Go.RowKit
def smallR (z : Int) : Int × Bool := if -9223372036854775808 ≤ z ∧ z < 9223372036854775808 then (z, true) else (0, false)
theorem big_len (n : Nat) (h : 1 < (Dig.digs 18446744073709551616 n).length) : 18446744073709551616 ≤ n := by
  apply Nat.le_of_not_lt
  intro hlt
  have := Dig.digs_length_le 18446744073709551616 (by omega) n 1 (by simpa using hlt)
  omega
theorem ret_two {a a' b b' : Int} (h : a = a') (k : b = b') : Ending.returned (.tuple #[J zq a, J zq b]) = zR (.tuple #[J zq a', J zq b']) := by rw [h, k]
theorem ret_pair {a a' : Int} {b b' : Bool} (h : a = a') (k : b = b') : Ending.returned (.tuple #[J zq a, .bool b]) = zR (.tuple #[J zq a', .bool b']) := by rw [h, k]
set_option maxHeartbeats 2000000 in
theorem small_any (z : Int) (r : Value) (w : World) (h : IsI w r z) (hs : SmallI z) :
    Calls zP 25 #[r] w fun e w' => e = zR (.tuple #[J zq (smallR z).1, .bool (smallR z).2]) ∧ Ext w w' := by
  obtain ⟨u, rfl, hu⟩ := h
  obtain ⟨a, cap, rfl, gx⟩ := Row.shape hu
  have hz : (Dig.digs 18446744073709551616 z.natAbs).length = 0 → z = 0 := fun h0 => by have := Dig.digs_nil _ z.natAbs (by omega) (List.eq_nil_of_length_eq_zero h0); omega
  have hbig : 1 < (Dig.digs 18446744073709551616 z.natAbs).length → 18446744073709551616 ≤ z.natAbs := big_len _
  have hsm : (Dig.digs 18446744073709551616 z.natAbs).length = 1 → z.natAbs < 18446744073709551616 := fun h1 => by have := (Dig.length_bounds 18446744073709551616 z.natAbs 0 (by omega) h1).2; simpa using this
  have hl' : (Dig.digs 18446744073709551616 z.natAbs).length ≤ 1000 := hs.1
  have hd0 : (Dig.digs 18446744073709551616 z.natAbs).getD 0 0 = z.natAbs % 18446744073709551616 := by rw [Dig.digs_getD _ (by omega), Nat.pow_zero, Nat.div_one]
  clear hu hs
  generalize Dig.digs 18446744073709551616 z.natAbs = xs at *
  obtain ⟨l, hl⟩ : ∃ l, xs.length = l := ⟨_, rfl⟩
  rw [hl] at gx hz hbig hsm hl' ⊢
  by_cases h0 : l = 0
  · have e0 : z = 0 := hz h0
    have e1 : Hid (0 = (smallR z).1) := by show _ = _; rw [e0]; decide
    have e2 : Hid (true = (smallR z).2) := by show _ = _; rw [e0]; decide
    subst h0
    clear hz hl gx hbig hsm e0 hd0
    generalize decide (z < 0) = b at *
    go_enter Tryz.func25, Tryz.ntmps25
    go_wp2_with fail
    go_ret2
    exact ⟨ret_pair e1.out e2.out, (Ext.refl _).alloc _⟩
  · obtain ⟨b0, o0, rfl, hcell⟩ := gx (by omega)
    have hc0 := hcell 0 (by omega)
    rw [Nat.add_zero, hd0] at hc0
    have hne : ((l : Int) == 0) = false := by simp; omega
    have XS : Hid (Ext w (w.alloc (.cells #[.bool (decide (z < 0)), .slice (some ⟨b0, o0, none⟩) l cap] 50))) := (Ext.refl _).alloc _
    have hm2 : z.natAbs % 18446744073709551616 < 18446744073709551616 := Nat.mod_lt _ (by omega)
    obtain ⟨M, gM, gM1, gM2⟩ : ∃ M : Int, ((z.natAbs % 18446744073709551616 : Nat) : Int) = M ∧ 0 ≤ M ∧ M < 18446744073709551616 := ⟨_, rfl, by omega, by omega⟩
    rw [gM] at hc0
    have hcw := XS.out.kept hc0
    have hp : (0 : Int) < (l : Int) := by omega
    by_cases h1 : 1 < l
    · have hb := hbig h1
      have e1 : Hid (0 = (smallR z).1) := by show _ = _; unfold smallR; rw [if_neg (by omega)]
      have e2 : Hid (false = (smallR z).2) := by show _ = _; unfold smallR; rw [if_neg (by omega)]
      have hl1 : (1 : Int) < (l : Int) := by omega
      have hl1' : decide ((1 : Int) < (l : Int)) = true := decide_eq_true hl1
      clear hz hl hcell gx hbig hsm hb hm2 gM hd0 hc0 h0 h1
      generalize decide (z < 0) = b at *
      go_enter Tryz.func25, Tryz.ntmps25
      go_wp2_with fail
      go_ret2
      exact ⟨ret_pair e1.out e2.out, XS.out⟩
    · obtain rfl : l = 1 := by omega
      have hm := hsm rfl
      have hMz : Hid (M = (z.natAbs : Int)) := by show _ = _; rw [← gM, Nat.mod_eq_of_lt hm]
      by_cases hn : z < 0
      · rw [decide_eq_true hn] at hcw XS ⊢
        by_cases hb : 9223372036854775808 < M
        · have e1 : Hid (0 = (smallR z).1) := by have := hMz.out; show _ = _; unfold smallR; rw [if_neg (by omega)]
          have e2 : Hid (false = (smallR z).2) := by have := hMz.out; show _ = _; unfold smallR; rw [if_neg (by omega)]
          have hb' : decide (9223372036854775808 < M) = true := decide_eq_true hb
          clear hz hl hcell gx hbig hsm hm hm2 gM hd0 hc0 h0 h1 hn
          go_enter Tryz.func25, Tryz.ntmps25
          go_wp2_with fail
          go_ret2
          exact ⟨ret_pair e1.out e2.out, XS.out⟩
        · have e1 : Hid (z = (smallR z).1) := by have := hMz.out; show _ = _; unfold smallR; rw [if_pos (by omega)]
          have e2 : Hid (true = (smallR z).2) := by have := hMz.out; show _ = _; unfold smallR; rw [if_pos (by omega)]
          have hb' : decide (9223372036854775808 < M) = false := decide_eq_false hb
          have hv : Hid (IntKind.i64.wrap (IntKind.u64.wrap (0 - M)) = z) := by
            have := hMz.out
            show _ = _
            rw [IntKind.wrap_u64, IntKind.wrap_i64]
            omega
          have hv2 : Hid (wrap64 (IntKind.u64.wrap (-M)) = z) := by
            have := hMz.out
            show _ = _
            rw [IntKind.wrap_u64]
            unfold wrap64
            omega
          clear hz hl hcell gx hbig hsm hm hm2 gM hd0 hc0 h0 h1 hn
          go_enter Tryz.func25, Tryz.ntmps25
          go_wp2_with fail
          go_ret2
          exact ⟨ret_pair (by first | exact hv.out.trans e1.out | exact hv2.out.trans e1.out) e2.out, XS.out⟩
      · rw [decide_eq_false hn] at hcw XS ⊢
        by_cases hb : 9223372036854775808 ≤ M
        · have e1 : Hid (0 = (smallR z).1) := by have := hMz.out; show _ = _; unfold smallR; rw [if_neg (by omega)]
          have e2 : Hid (false = (smallR z).2) := by have := hMz.out; show _ = _; unfold smallR; rw [if_neg (by omega)]
          have hb' : decide (9223372036854775808 ≤ M) = true := decide_eq_true hb
          clear hz hl hcell gx hbig hsm hm hm2 gM hd0 hc0 h0 h1 hn
          go_enter Tryz.func25, Tryz.ntmps25
          go_wp2_with fail
          go_ret2
          exact ⟨ret_pair e1.out e2.out, XS.out⟩
        · have e1 : Hid (M = (smallR z).1) := by have := hMz.out; show _ = _; unfold smallR; rw [if_pos (by omega)]; show M = z; omega
          have e2 : Hid (true = (smallR z).2) := by have := hMz.out; show _ = _; unfold smallR; rw [if_pos (by omega)]
          have hb' : decide (9223372036854775808 ≤ M) = false := decide_eq_false hb
          have hb2 : M < 9223372036854775808 := by omega
          clear hz hl hcell gx hbig hsm hm hm2 gM hd0 hc0 h0 h1 hn
          go_enter Tryz.func25, Tryz.ntmps25
          go_wp2_with fail
          go_ret2
          exact ⟨ret_pair e1.out e2.out, XS.out⟩
def wordR (z : Int) : Int × Int := if okW z then (z, 0) else (0, 2)
set_option maxHeartbeats 2000000 in
theorem word_any (z : Int) (r : Value) (w : World) (h : IsI w r z) (hs : SmallI z) :
    Calls zP 69 #[r] w fun e w' => e = zR (.tuple #[J zq (wordR z).1, J zq (wordR z).2]) ∧ Ext w w' := by
  have HS : Hid (∀ w', Ext w w' → Calls zP 25 #[r] w' fun e w'' => e = zR (.tuple #[J zq (smallR z).1, .bool (smallR z).2]) ∧ Ext w' w'') := fun w' hx => small_any z r w' (h.ext hx) hs
  obtain ⟨u, rfl, hu⟩ := h
  obtain ⟨a1, l1, c1, rfl⟩ := hu.isSlice
  clear hu hs
  generalize decide (z < 0) = b at *
  have XS : Hid (Ext w (w.alloc (.cells #[.bool b, .slice a1 l1 c1] 50))) := (Ext.refl _).alloc _
  by_cases hsm : -9223372036854775808 ≤ z ∧ z < 9223372036854775808
  · have e1 : smallR z = (z, true) := by unfold smallR; rw [if_pos hsm]
    rw [e1] at HS
    have HM : Hid (∀ w', Calls zP 22 #[J zq z] w' fun e w'' => e = zR (.bool (okW z)) ∧ w'' = w') := fun w' => may_any z w'
    by_cases hw : okW z = true
    · rw [hw] at HM
      have e2 : Hid (z = (wordR z).1) := by show _ = _; unfold wordR; rw [if_pos hw]
      have e3 : Hid (0 = (wordR z).2) := by show _ = _; unfold wordR; rw [if_pos hw]
      clear e1 hw hsm
      go_enter Tryz.func69, Tryz.ntmps69
      go_wp2_with fail
      refine (HS.out _ XS.out).mono ?_
      rintro e w1 ⟨rfl, x1⟩
      go_wp2_with fail
      refine (HM.out _).mono ?_
      rintro e wx ⟨rfl, hwx⟩
      have hwy := hwx.symm
      clear hwx
      subst hwy
      go_wp2_with fail
      go_ret2
      exact ⟨ret_two e2.out e3.out, XS.out.trans x1⟩
    · have hw' : okW z = false := by simpa using hw
      rw [hw'] at HM
      have e2 : Hid (0 = (wordR z).1) := by show _ = _; unfold wordR; rw [if_neg hw]
      have e3 : Hid (2 = (wordR z).2) := by show _ = _; unfold wordR; rw [if_neg hw]
      clear e1 hw hw' hsm
      go_enter Tryz.func69, Tryz.ntmps69
      go_wp2_with fail
      refine (HS.out _ XS.out).mono ?_
      rintro e w1 ⟨rfl, x1⟩
      go_wp2_with fail
      refine (HM.out _).mono ?_
      rintro e wx ⟨rfl, hwx⟩
      have hwy := hwx.symm
      clear hwx
      subst hwy
      go_wp2_with fail
      go_ret2
      exact ⟨ret_two e2.out e3.out, XS.out.trans x1⟩
  · have e1 : smallR z = (0, false) := by unfold smallR; rw [if_neg hsm]
    rw [e1] at HS
    have hw : okW z = false := by unfold okW; simp; omega
    have e2 : Hid (0 = (wordR z).1) := by show _ = _; unfold wordR; rw [hw]; rfl
    have e3 : Hid (2 = (wordR z).2) := by show _ = _; unfold wordR; rw [hw]; rfl
    clear e1 hw hsm
    go_enter Tryz.func69, Tryz.ntmps69
    go_wp2_with fail
    refine (HS.out _ XS.out).mono ?_
    rintro e w1 ⟨rfl, x1⟩
    go_wp2_with fail
    go_ret2
    exact ⟨ret_two e2.out e3.out, XS.out.trans x1⟩
theorem nearI_fit (n d : Int) (k : Nat) (f : Fit k n) (hd : 0 < d) : Fit (k + 2) (nearI n d) := by
  have h1 : (n * 2 / d / 2).natAbs ≤ (n * 2).natAbs := Nat.le_trans (natAbs_ediv_le _ _ (by omega)) (natAbs_ediv_le _ _ hd)
  have f1 : Fit (k + 1) (n * 2) := by have := f.shl 1; rwa [Int.pow_succ, Int.pow_zero, Int.one_mul] at this
  have f2 : Fit (k + 1) (n * 2 / d / 2) := f1.of_le h1
  unfold nearI
  split
  · exact f2.le (by omega)
  · split
    · exact f2.le (by omega)
    · exact f2.add (fit_one _ (by omega))
theorem fit_word (a : Int) (h1 : -9223372036854775808 ≤ a) (h2 : a ≤ 9223372036854775807) : Fit 64 a := by
  unfold Fit
  have e : (2 : Nat) ^ 64 = 18446744073709551616 := by decide
  omega
set_option maxHeartbeats 2000000 in
theorem near1_any (n : Int) (d k : Nat) (z : Int) (v : Value) (w : World) (h1 : IsQ w v n d) (hd : d ≠ 0) (hk : k ≤ 3000) (f1 : Fit k n) (f2 : Fit k (d : Int)) (hz : IsNear n d z) :
    Calls zP 60 #[v] w fun e w' => e = zR (.tuple #[J zq (wordR z).1, J zq (wordR z).2]) ∧ Ext w w' := by
  have e : nearI n d = z := (nearI_spec n d (by omega)).unique (by omega) hz
  have fz : Fit (k + 2) z := by
    rw [← e]
    exact nearI_fit n d k f1 (by omega)
  have HN : Hid (∀ w', Ext w w' → Calls zP 98 #[v] w' fun e w'' => (∃ r, e = zR r ∧ IsI w'' r z) ∧ Ext w' w'') := fun w' hx => by
    have h := near_isI n d k v w' (h1.ext hx) hd hk f1 f2
    rw [e] at h
    exact h
  have HW : Hid (∀ r w', IsI w' r z → Calls zP 69 #[r] w' fun e w'' => e = zR (.tuple #[J zq (wordR z).1, J zq (wordR z).2]) ∧ Ext w' w'') := fun r w' hr => word_any z r w' hr (fz.small (by omega))
  obtain ⟨u1, u2, rfl, k1, k2⟩ := h1
  obtain ⟨a1, l1, c1, rfl⟩ := k1.isSlice
  obtain ⟨a2, l2, c2, rfl⟩ := k2.isSlice
  clear k1 k2 fz e hz
  generalize decide (n < 0) = b at *
  generalize (wordR z).1 = o1 at *
  generalize (wordR z).2 = o2 at *
  go_enter Tryz.func60, Tryz.ntmps60
  go_wp2_with fail
  refine (HN.out _ ((Ext.refl _).alloc _)).mono ?_
  rintro e w1 ⟨⟨r, rfl, hr⟩, x1⟩
  go_wp2_with fail
  refine (HW.out _ _ hr).mono ?_
  rintro e w2 ⟨rfl, x2⟩
  go_wp2_with fail
  go_ret2
  exact ⟨rfl, (((Ext.refl _).alloc _).trans x1).trans x2⟩
theorem near_lowest (x : Int) (d : Nat) (hd : d ≠ 0) (z : Int) (hz : IsNear x d z) : IsNear (x / (Nat.gcd x.natAbs d : Int)) ((d / Nat.gcd x.natAbs d : Nat) : Int) z := by
  have hg : 0 < Nat.gcd x.natAbs d := Nat.gcd_pos_of_pos_right _ (by omega)
  have h1 : (Nat.gcd x.natAbs d : Int) ∣ x := Int.ofNat_dvd_left.2 (Nat.gcd_dvd_left _ _)
  have h2 : Nat.gcd x.natAbs d ∣ d := Nat.gcd_dvd_right _ _
  generalize Nat.gcd x.natAbs d = g at *
  obtain ⟨c, hc⟩ := h1
  obtain ⟨e, he⟩ := h2
  have e1 : x / (g : Int) = c := by rw [hc, Int.mul_ediv_cancel_left _ (by omega)]
  have e2 : d / g = e := by rw [he, Nat.mul_div_cancel_left _ hg]
  have he0 : 0 < e := by
    apply Nat.pos_of_ne_zero
    intro h0
    rw [h0, Nat.mul_zero] at he
    exact hd he
  rw [e1, e2]
  have hs := nearI_spec c (e : Int) (by omega)
  have h3 := hs.scale (g := (g : Int)) (by omega)
  rw [← hc, ← Int.natCast_mul, ← he] at h3
  rw [hz.unique (by omega) h3]
  exact hs
set_option maxHeartbeats 4000000 in
theorem nearq_any (x z : Int) (k : Nat) (r : Value) (w : World) (h : IsI w r x) (hk : k ≤ 2000) (hk2 : 31 ≤ k) (f1 : Fit k x) (hz : IsNear x 1073741824 z) :
    Calls zP 71 #[r] w fun e w' => e = zR (.tuple #[J zq (wordR z).1, J zq (wordR z).2]) ∧ Ext w w' := by
  have HO : Hid (∀ w', Calls zP 57 #[J zu 1] w' fun e w'' => (∃ v', e = zR v' ∧ IsN w'' v' 1) ∧ Ext w' w'') := fun w' => nof_any 1 (by omega) w'
  have HU : Hid (∀ u w', IsN w' u 1 → Calls zP 97 #[u, J zq 30] w' fun e w'' => (∃ v', e = zR v' ∧ IsN w'' v' 1073741824) ∧ Ext w' w'') := fun u w' hu => up2_any 1 30 u w' hu (small_64 1 (by omega)) (by omega)
  have f2 : Fit k ((1073741824 : Nat) : Int) := (show Fit 31 ((1073741824 : Nat) : Int) by unfold Fit; decide).le hk2
  have HM : Hid (∀ u w', Ext w w' → IsN w' u 1073741824 → Calls zP 99 #[r, u] w' fun e w'' => (∃ q, e = zR q ∧ IsQ w'' q (x / (Nat.gcd x.natAbs 1073741824 : Int)) (1073741824 / Nat.gcd x.natAbs 1073741824)) ∧ Ext w' w'') := fun u w' hx hu => make_isQ x 1073741824 k r u w' (h.ext hx) hu (by omega) (by omega) f1 f2
  have hgp : 0 < Nat.gcd x.natAbs 1073741824 := Nat.gcd_pos_of_pos_right _ (by omega)
  have hnz : 1073741824 / Nat.gcd x.natAbs 1073741824 ≠ 0 := by
    have := Nat.div_pos (Nat.le_of_dvd (by omega) (Nat.gcd_dvd_right x.natAbs 1073741824)) hgp
    omega
  have HN : Hid (∀ q w', IsQ w' q (x / (Nat.gcd x.natAbs 1073741824 : Int)) (1073741824 / Nat.gcd x.natAbs 1073741824) → Calls zP 60 #[q] w' fun e w'' => e = zR (.tuple #[J zq (wordR z).1, J zq (wordR z).2]) ∧ Ext w' w'') := fun q w' hq =>
    near1_any _ _ k z q w' hq hnz (by omega) (f1.of_le (natAbs_ediv_le _ _ (by omega))) (f2.of_le (by rw [Int.natAbs_natCast, Int.natAbs_natCast]; exact Nat.div_le_self _ _)) (near_lowest x 1073741824 (by omega) z hz)
  obtain ⟨u, rfl, hu⟩ := h
  obtain ⟨a1, l1, c1, rfl⟩ := hu.isSlice
  clear hu f1 f2 hz hnz hgp
  generalize decide (x < 0) = b at *
  generalize (wordR z).1 = o1 at *
  generalize (wordR z).2 = o2 at *
  generalize x / (Nat.gcd x.natAbs 1073741824 : Int) = N1 at *
  generalize 1073741824 / Nat.gcd x.natAbs 1073741824 = D1 at *
  have XS : Hid (Ext w (w.alloc (.cells #[.bool b, .slice a1 l1 c1] 50))) := (Ext.refl _).alloc _
  have BS : Hid (Has (w.alloc (.cells #[.bool b, .slice a1 l1 c1] 50)) w.heap.size (.bool b) (.slice a1 l1 c1)) := ext_new1 (Ext.refl _)
  go_enter Tryz.func71, Tryz.ntmps71
  go_wp2_with fail
  generalize w.alloc (.cells #[.bool b, .slice a1 l1 c1] 50) = W at *
  obtain ⟨p0, p1, p2, p3⟩ := BS.out
  go_region_held (fun w' => w'.cell? ⟨w.heap.size, 0, none⟩ = some (.bool b) ∧ w'.cell? ⟨w.heap.size, 1, none⟩ = some (.slice a1 l1 c1)) (go_keep) (first | (go_at_call 57; refine (HO.out _).mono ?_; rintro e w1 ⟨⟨v1, rfl, hv1⟩, x1⟩; obtain ⟨s0, s1, s2, s3⟩ := BS.out.ext (cell_drew x1)) | (go_at_call 97; refine (HU.out _ _ hv1).mono ?_; rintro e w2 ⟨⟨v2, rfl, hv2⟩, x2⟩; obtain ⟨t0, t1, t2, t3⟩ := BS.out.ext ((cell_drew x1).trans x2)) | (go_at_call 99; refine (HM.out _ _ ((XS.out.trans (cell_drew x1)).trans x2) hv2).mono ?_; rintro e w3 ⟨⟨q3, rfl, hq3⟩, x3⟩; obtain ⟨y0, y1, y2, y3⟩ := BS.out.ext (((cell_drew x1).trans x2).trans x3)) | (go_at_call 60; refine (HN.out _ _ hq3).mono ?_; rintro e w4 ⟨rfl, x4⟩; obtain ⟨z0, z1, z2, z3⟩ := BS.out.ext ((((cell_drew x1).trans x2).trans x3).trans x4)))
  go_wp2_with fail
  go_ret2
  exact ⟨rfl, (((XS.out.trans (cell_drew x1)).trans x2).trans x3).trans x4⟩
set_option maxHeartbeats 1000000 in
theorem prod_any (a b : Int) (w : World) (h1 : -9223372036854775808 ≤ a) (h2 : a ≤ 9223372036854775807) (k1 : -9223372036854775808 ≤ b) (k2 : b ≤ 9223372036854775807) :
    Calls zP 21 #[J zq a, J zq b] w fun e w' => (∃ r, e = zR r ∧ IsI w' r (a * b)) ∧ Ext w w' := by
  have fa : Fit 64 a := fit_word a h1 h2
  have fb : Fit 64 b := fit_word b k1 k2
  have HA : Hid (∀ w', Calls zP 24 #[J zq a] w' fun e w'' => (∃ r, e = zR r ∧ IsI w'' r a) ∧ Ext w' w'') := fun w' => from_any a w' h1 h2
  have HB : Hid (∀ w', Calls zP 24 #[J zq b] w' fun e w'' => (∃ r, e = zR r ∧ IsI w'' r b) ∧ Ext w' w'') := fun w' => from_any b w' k1 k2
  have HT : Hid (∀ r1 r2 w', IsI w' r1 a → IsI w' r2 b → Calls zP 55 #[r1, r2] w' fun e w'' => (∃ r', e = zR r' ∧ IsI w'' r' (a * b)) ∧ Ext w' w'') := fun r1 r2 w' hr1 hr2 => times_isI a b r1 r2 w' hr1 hr2 (fa.small (by omega)) (fb.small (by omega)) ((fa.mul fb).small (by omega))
  clear fa fb h1 h2 k1 k2
  generalize a * b = P at *
  have XS : Hid (Ext w (w.alloc (.cells #[.bool false, .slice none 0 0] 50))) := (Ext.refl _).alloc _
  have BS : Hid (Has (w.alloc (.cells #[.bool false, .slice none 0 0] 50)) w.heap.size (.bool false) (.slice none 0 0)) := ext_new1 (Ext.refl _)
  go_enter Tryz.func21, Tryz.ntmps21
  go_wp2_with fail
  generalize w.alloc (.cells #[.bool false, .slice none 0 0] 50) = W at *
  refine (HA.out _).mono ?_
  rintro e w1 ⟨⟨r1, rfl, hr1⟩, x1⟩
  go_wp2_with fail
  refine (HB.out _).mono ?_
  rintro e w2 ⟨⟨r2, rfl, hr2⟩, x2⟩
  go_wp2_with fail
  refine (HT.out _ _ _ (hr1.ext x2) hr2).mono ?_
  rintro e w3 ⟨⟨r3, rfl, hr3⟩, x3⟩
  obtain ⟨t0, t1, t2, t3⟩ := BS.out.ext ((x1.trans x2).trans x3)
  obtain ⟨u, hu, hk⟩ := hr3
  obtain ⟨au, lu, cu, hau⟩ := hk.isSlice
  subst hau
  subst hu
  have X3 : Hid (Ext w w3) := XS.out.trans ((x1.trans x2).trans x3)
  have HI : Hid (IsI w3 (zG #[.bool (decide (P < 0)), .slice au lu cu]) P) := ⟨_, rfl, hk⟩
  clear hk x1 x2 x3 hr1 hr2
  go_wp2_with fail
  exact bodyPost_ret (v := zG #[.bool (decide (P < 0)), .slice au lu cu]) (by simp [results, Tryz.results21, go_sem, t0, t1]) rfl ⟨⟨_, rfl, HI.out.set2 t0 t1⟩, (X3.out.setCell (Nat.le_refl _) _).setCell (Nat.le_refl _) _⟩
theorem over_abs (x d : Int) : (over x d).natAbs = x.natAbs := by unfold over; split <;> omega
structure LaidO (p : Nat) (W : World) (u1 v1 u2 v2 : Value) : Prop where
  a : Has W p u1 v1
  b : Has W (p + 1) u2 v2
  c : Has3 W (p + 1 + 1) (.bool false) (.slice none 0 0) (.slice none 0 0)
theorem LaidO.ext {p : Nat} {W W' : World} {u1 v1 u2 v2 : Value} (h : LaidO p W u1 v1 u2 v2) (hx : Ext W W') : LaidO p W' u1 v1 u2 v2 := ⟨h.a.ext hx, h.b.ext hx, h.c.ext hx⟩
theorem laidO_start (w : World) (u1 v1 u2 v2 : Value) : LaidO w.heap.size (((w.alloc (.cells #[u1, v1] 50)).alloc (.cells #[u2, v2] 50)).alloc (.cells #[.bool false, .slice none 0 0, .slice none 0 0] 96)) u1 v1 u2 v2 := by
  constructor <;> constructor <;> simp [go_sem]
theorem Has3.far {w : World} {b g : Nat} {u v x y z : Value} (h : Has3 w b u v z) (hb : b ≠ g) : Has3 ((w.setCell ⟨g, 0, none⟩ x).setCell ⟨g, 1, none⟩ y) b u v z :=
  ⟨by rw [far2 _ _ _ _ _ hb]; exact h.c0, by rw [far2 _ _ _ _ _ hb]; exact h.c1, by rw [far2 _ _ _ _ _ hb]; exact h.c2, by simp [h.f0], by simp [h.f1], by simp [h.f2]⟩
theorem IsQ.set3 {w : World} {v : Value} {n : Int} {d g : Nat} {b0 : Bool} {a a' : Option Addr} {l c l' c' : Nat} {x y z : Value} (h : IsQ w v n d) (c0 : w.cell? ⟨g, 0, none⟩ = some (.bool b0)) (c1 : w.cell? ⟨g, 1, none⟩ = some (.slice a l c)) (c2 : w.cell? ⟨g, 2, none⟩ = some (.slice a' l' c')) :
    IsQ (((w.setCell ⟨g, 0, none⟩ x).setCell ⟨g, 1, none⟩ y).setCell ⟨g, 2, none⟩ z) v n d := by
  obtain ⟨u1, u2, h1, h2, h3⟩ := h
  exact ⟨u1, u2, h1, h2.set3 c0 c1 c2, h3.set3 c0 c1 c2⟩
set_option maxHeartbeats 4000000 in
theorem over_any (x d : Int) (k : Nat) (r1 r2 : Value) (w : World) (h1 : IsI w r1 x) (h2 : IsI w r2 d) (hd : d ≠ 0) (hk : k ≤ 4000) (f1 : Fit k x) (f2 : Fit k d) :
    Calls zP 61 #[r1, r2] w fun e w' => (∃ q, e = zR q ∧ IsQ w' q (over x d / (Nat.gcd (over x d).natAbs d.natAbs : Int)) (d.natAbs / Nat.gcd (over x d).natAbs d.natAbs)) ∧ Ext w w' := by
  obtain ⟨u1, rfl, k1⟩ := h1
  obtain ⟨u2, rfl, k2⟩ := h2
  have f3 : Fit k (over x d) := f1.of_le (by rw [over_abs]; exact Nat.le_refl _)
  have f4 : Fit k (d.natAbs : Int) := by unfold Fit at *; rwa [Int.natAbs_natCast]
  have HM : Hid (∀ r w', IsN w' u2 d.natAbs → IsI w' r (over x d) → Calls zP 99 #[r, u2] w' fun e w'' => (∃ q, e = zR q ∧ IsQ w'' q (over x d / (Nat.gcd (over x d).natAbs d.natAbs : Int)) (d.natAbs / Nat.gcd (over x d).natAbs d.natAbs)) ∧ Ext w' w'') := fun r w' hx hr => make_isQ (over x d) d.natAbs k r u2 w' hr hx (by omega) hk f3 f4
  have HG : Hid (∀ w', Ext w w' → Calls zP 94 #[zG #[.bool (decide (x < 0)), u1]] w' fun e w'' => (∃ r', e = zR r' ∧ IsI w'' r' (-x)) ∧ Ext w' w'') := fun w' hx => neg_isI x _ w' ⟨u1, rfl, k1.ext hx⟩ (f1.small (by omega))
  have HI : Hid (IsI w (zG #[.bool (decide (x < 0)), u1]) x) := ⟨u1, rfl, k1⟩
  have HI2 : Hid (IsN w u2 d.natAbs) := k2
  obtain ⟨a1, l1, c1, rfl⟩ := k1.isSlice
  obtain ⟨a2, l2, c2, rfl⟩ := k2.isSlice
  clear k1 k2 f1 f2 f3 f4
  generalize over x d / (Nat.gcd (over x d).natAbs d.natAbs : Int) = N1 at *
  generalize d.natAbs / Nat.gcd (over x d).natAbs d.natAbs = D1 at *
  by_cases hn : d < 0
  · have eo : over x d = -x := by unfold over; rw [if_pos hn]
    rw [eo] at HM
    rw [decide_eq_true hn]
    clear hn eo
    generalize decide (x < 0) = b at *
    have XS : Hid (Ext w (((w.alloc (.cells #[.bool b, .slice a1 l1 c1] 50)).alloc (.cells #[.bool true, .slice a2 l2 c2] 50)).alloc (.cells #[.bool false, .slice none 0 0, .slice none 0 0] 96))) := (((Ext.refl w).alloc _).alloc _).alloc _
    have LS : Hid (LaidO w.heap.size (((w.alloc (.cells #[.bool b, .slice a1 l1 c1] 50)).alloc (.cells #[.bool true, .slice a2 l2 c2] 50)).alloc (.cells #[.bool false, .slice none 0 0, .slice none 0 0] 96)) (.bool b) (.slice a1 l1 c1) (.bool true) (.slice a2 l2 c2)) := laidO_start w _ _ _ _
    go_enter Tryz.func61, Tryz.ntmps61
    go_wp2_with fail
    generalize (((w.alloc (.cells #[.bool b, .slice a1 l1 c1] 50)).alloc (.cells #[.bool true, .slice a2 l2 c2] 50)).alloc (.cells #[.bool false, .slice none 0 0, .slice none 0 0] 96)) = W at *
    refine (HG.out _ XS.out).mono ?_
    rintro e w1 ⟨⟨r1, rfl, hr1⟩, x1⟩
    obtain ⟨um, hum, hkm⟩ := hr1
    obtain ⟨am, lm, cm, hm⟩ := hkm.isSlice
    subst hm
    subst hum
    have L1 : Hid (LaidO w.heap.size ((w1.setCell ⟨w.heap.size, 0, none⟩ (.bool (decide (-x < 0)))).setCell ⟨w.heap.size, 1, none⟩ (.slice am lm cm)) (.bool (decide (-x < 0))) (.slice am lm cm) (.bool true) (.slice a2 l2 c2)) := by
      obtain ⟨A, B, C⟩ := LS.out.ext x1
      exact ⟨A.here, B.far (by omega), C.far (by omega)⟩
    obtain ⟨⟨p0, p1, p2, p3⟩, ⟨p4, p5, p6, p7⟩, ⟨p8, p9, p10, p11, p12, p13⟩⟩ := L1.out
    obtain ⟨⟨s0, s1, s2, s3⟩, ⟨s4, s5, s6, s7⟩, _⟩ := LS.out.ext x1
    have X1 : Hid (Ext w ((w1.setCell ⟨w.heap.size, 0, none⟩ (.bool (decide (-x < 0)))).setCell ⟨w.heap.size, 1, none⟩ (.slice am lm cm))) := ((XS.out.trans x1).setCell (Nat.le_refl _) _).setCell (Nat.le_refl _) _
    have HI1 : Hid (IsI ((w1.setCell ⟨w.heap.size, 0, none⟩ (.bool (decide (-x < 0)))).setCell ⟨w.heap.size, 1, none⟩ (.slice am lm cm)) (zG #[.bool (decide (-x < 0)), .slice am lm cm]) (-x)) := IsI.set2 ⟨_, rfl, hkm⟩ s0 s1
    clear hkm x1
    generalize decide (-x < 0) = bm at *
    go_wp2_with fail
    generalize (w1.setCell ⟨w.heap.size, 0, none⟩ (.bool bm)).setCell ⟨w.heap.size, 1, none⟩ (.slice am lm cm) = W1 at *
    refine (HM.out _ _ (HI2.out.ext X1.out) HI1.out).mono ?_
    rintro e w2 ⟨⟨q, rfl, hq⟩, x2⟩
    obtain ⟨_, _, ⟨t0, t1, t2, t3, t4, t5⟩⟩ := L1.out.ext x2
    have X2 : Hid (Ext w w2) := X1.out.trans x2
    obtain ⟨v1, v2, hv, hv1, hv2⟩ := hq
    obtain ⟨an, ln, cn, en⟩ := hv1.isSlice
    obtain ⟨ad, ld, cd, ed⟩ := hv2.isSlice
    subst en ed
    subst hv
    have HQ : Hid (IsQ w2 (zG #[.bool (decide (N1 < 0)), .slice an ln cn, .slice ad ld cd]) N1 D1) := ⟨_, _, rfl, hv1, hv2⟩
    clear hv1 hv2 x2 p0 p1 p2 p3 p4 p5 p6 p7 p8 p9 p10 p11 p12 p13 s0 s1 s2 s3 s4 s5 s6 s7
    go_wp2_with fail
    exact bodyPost_ret (v := zG #[.bool (decide (N1 < 0)), .slice an ln cn, .slice ad ld cd]) (by simp [results, Tryz.results61, go_sem, t0, t1, t2]) rfl
      ⟨⟨_, rfl, HQ.out.set3 t0 t1 t2⟩, ((X2.out.setCell (show w.heap.size ≤ w.heap.size + 1 + 1 by omega) _).setCell (show w.heap.size ≤ w.heap.size + 1 + 1 by omega) _).setCell (show w.heap.size ≤ w.heap.size + 1 + 1 by omega) _⟩
  · have eo : over x d = x := by unfold over; rw [if_neg hn]
    rw [eo] at HM
    rw [decide_eq_false hn]
    clear hn eo
    generalize decide (x < 0) = b at *
    have XS : Hid (Ext w (((w.alloc (.cells #[.bool b, .slice a1 l1 c1] 50)).alloc (.cells #[.bool false, .slice a2 l2 c2] 50)).alloc (.cells #[.bool false, .slice none 0 0, .slice none 0 0] 96))) := (((Ext.refl w).alloc _).alloc _).alloc _
    have LS : Hid (LaidO w.heap.size (((w.alloc (.cells #[.bool b, .slice a1 l1 c1] 50)).alloc (.cells #[.bool false, .slice a2 l2 c2] 50)).alloc (.cells #[.bool false, .slice none 0 0, .slice none 0 0] 96)) (.bool b) (.slice a1 l1 c1) (.bool false) (.slice a2 l2 c2)) := laidO_start w _ _ _ _
    go_enter Tryz.func61, Tryz.ntmps61
    go_wp2_with fail
    generalize (((w.alloc (.cells #[.bool b, .slice a1 l1 c1] 50)).alloc (.cells #[.bool false, .slice a2 l2 c2] 50)).alloc (.cells #[.bool false, .slice none 0 0, .slice none 0 0] 96)) = W at *
    refine (HM.out _ _ (HI2.out.ext XS.out) (HI.out.ext XS.out)).mono ?_
    rintro e w2 ⟨⟨q, rfl, hq⟩, x2⟩
    obtain ⟨_, _, ⟨t0, t1, t2, t3, t4, t5⟩⟩ := LS.out.ext x2
    have X2 : Hid (Ext w w2) := XS.out.trans x2
    obtain ⟨v1, v2, hv, hv1, hv2⟩ := hq
    obtain ⟨an, ln, cn, en⟩ := hv1.isSlice
    obtain ⟨ad, ld, cd, ed⟩ := hv2.isSlice
    subst en ed
    subst hv
    have HQ : Hid (IsQ w2 (zG #[.bool (decide (N1 < 0)), .slice an ln cn, .slice ad ld cd]) N1 D1) := ⟨_, _, rfl, hv1, hv2⟩
    clear hv1 hv2 x2
    go_wp2_with fail
    exact bodyPost_ret (v := zG #[.bool (decide (N1 < 0)), .slice an ln cn, .slice ad ld cd]) (by simp [results, Tryz.results61, go_sem, t0, t1, t2]) rfl
      ⟨⟨_, rfl, HQ.out.set3 t0 t1 t2⟩, ((X2.out.setCell (show w.heap.size ≤ w.heap.size + 1 + 1 by omega) _).setCell (show w.heap.size ≤ w.heap.size + 1 + 1 by omega) _).setCell (show w.heap.size ≤ w.heap.size + 1 + 1 by omega) _⟩
set_option maxHeartbeats 1000000 in
theorem den_any (n : Int) (d : Nat) (v : Value) (w : World) (h : IsQ w v n d) (hs : Small d) :
    Calls zP 166 #[v] w fun e w' => (∃ r, e = zR r ∧ IsI w' r (d : Int)) ∧ Ext w w' := by
  obtain ⟨u1, u2, rfl, k1, k2⟩ := h
  have HM : Hid (∀ w', Ext w w' → Calls zP 56 #[.bool false, u2] w' fun e w'' => e = zR (zG #[.bool false, u2]) ∧ Ext w' w'') := fun w' hx => made_any false u2 d w' (k2.ext hx) hs
  have HI : Hid (∀ w', Ext w w' → IsI w' (zG #[.bool false, u2]) (d : Int)) := fun w' hx => ⟨u2, by rw [decide_eq_false (by omega)], by rw [Int.natAbs_natCast]; exact k2.ext hx⟩
  obtain ⟨a1, l1, c1, rfl⟩ := k1.isSlice
  obtain ⟨a2, l2, c2, rfl⟩ := k2.isSlice
  clear k1 k2 hs
  generalize decide (n < 0) = b at *
  have XS : Hid (Ext w ((w.alloc (.cells #[.bool b, .slice a1 l1 c1, .slice a2 l2 c2] 96)).alloc (.cells #[.bool false, .slice none 0 0] 50))) := ((Ext.refl w).alloc _).alloc _
  have LS : Hid (LaidQ w.heap.size ((w.alloc (.cells #[.bool b, .slice a1 l1 c1, .slice a2 l2 c2] 96)).alloc (.cells #[.bool false, .slice none 0 0] 50)) (.bool b) (.slice a1 l1 c1) (.slice a2 l2 c2)) := laidQ_start w _ _ _
  go_enter Tryz.func166, Tryz.ntmps166
  go_wp2_with fail
  generalize (w.alloc (.cells #[.bool b, .slice a1 l1 c1, .slice a2 l2 c2] 96)).alloc (.cells #[.bool false, .slice none 0 0] 50) = W at *
  refine (HM.out _ XS.out).mono ?_
  rintro e w1 ⟨rfl, x1⟩
  obtain ⟨_, ⟨t0, t1, t2, t3⟩⟩ := LS.out.ext x1
  have X9 : Hid (Ext w w1) := XS.out.trans x1
  have HI9 : Hid (IsI w1 (zG #[.bool false, .slice a2 l2 c2]) (d : Int)) := HI.out _ X9.out
  clear x1
  go_wp2_with fail
  exact bodyPost_ret (v := zG #[.bool false, .slice a2 l2 c2]) (by simp [results, Tryz.results166, go_sem, t0, t1]) rfl ⟨⟨_, rfl, HI9.out.set2 t0 t1⟩, (X9.out.setCell (show w.heap.size ≤ w.heap.size + 1 by omega) _).setCell (show w.heap.size ≤ w.heap.size + 1 by omega) _⟩
theorem far3 (w : World) (x y z : Value) (b o : Nat) {g : Nat} (h : b ≠ g) : (((w.setCell ⟨g, 0, none⟩ x).setCell ⟨g, 1, none⟩ y).setCell ⟨g, 2, none⟩ z).cell? ⟨b, o, none⟩ = w.cell? ⟨b, o, none⟩ := by
  rw [World.cell?_setCell_far _ _ _ _ (by simpa using h.symm), far2 _ _ _ _ _ h]
structure LaidTT (p : Nat) (W : World) (u1 v1 x1 u2 v2 x2 : Value) : Prop where
  a : Has3 W p u1 v1 x1
  b : Has3 W (p + 1) u2 v2 x2
theorem LaidTT.ext {p : Nat} {W W' : World} {u1 v1 x1 u2 v2 x2 : Value} (h : LaidTT p W u1 v1 x1 u2 v2 x2) (hx : Ext W W') : LaidTT p W' u1 v1 x1 u2 v2 x2 := ⟨h.a.ext hx, h.b.ext hx⟩
set_option maxHeartbeats 4000000 in
theorem qcmp_any (m n : Int) (d e k : Nat) (v1 v2 : Value) (w : World) (h1 : IsQ w v1 m d) (h2 : IsQ w v2 n e) (hk : k ≤ 2000) (f1 : Fit k m) (f2 : Fit k n) (f3 : Fit k (d : Int)) (f4 : Fit k (e : Int)) :
    Calls zP 131 #[v1, v2] w fun e' w' => e' = zR (J zq (sgn (m * (e : Int) - n * (d : Int)))) ∧ Ext w w' := by
  have sd : Small d := by have := f3.small (by omega); unfold SmallI at this; rwa [Int.natAbs_natCast] at this
  have se : Small e := by have := f4.small (by omega); unfold SmallI at this; rwa [Int.natAbs_natCast] at this
  have HE1 : Hid (∀ w', Ext w w' → Calls zP 166 #[v1] w' fun e w'' => (∃ r, e = zR r ∧ IsI w'' r (d : Int)) ∧ Ext w' w'') := fun w' hx => den_any m d v1 w' (h1.ext hx) sd
  have HE2 : Hid (∀ w', Ext w w' → Calls zP 166 #[v2] w' fun e' w'' => (∃ r, e' = zR r ∧ IsI w'' r (e : Int)) ∧ Ext w' w'') := fun w' hx => den_any n e v2 w' (h2.ext hx) se
  obtain ⟨u1, u2, rfl, k1, k2⟩ := h1
  obtain ⟨u3, u4, rfl, k3, k4⟩ := h2
  have HT1 : Hid (∀ r w', Ext w w' → IsI w' r (e : Int) → Calls zP 55 #[zG #[.bool (decide (m < 0)), u1], r] w' fun e' w'' => (∃ r', e' = zR r' ∧ IsI w'' r' (m * (e : Int))) ∧ Ext w' w'') := fun r w' hx hr => times_isI m e _ r w' ⟨u1, rfl, k1.ext hx⟩ hr (f1.small (by omega)) (f4.small (by omega)) ((f1.mul f4).small (by omega))
  have HT2 : Hid (∀ r w', Ext w w' → IsI w' r (d : Int) → Calls zP 55 #[zG #[.bool (decide (n < 0)), u3], r] w' fun e' w'' => (∃ r', e' = zR r' ∧ IsI w'' r' (n * (d : Int))) ∧ Ext w' w'') := fun r w' hx hr => times_isI n d _ r w' ⟨u3, rfl, k3.ext hx⟩ hr (f2.small (by omega)) (f3.small (by omega)) ((f2.mul f3).small (by omega))
  have HC : Hid (∀ r r' w', IsI w' r (m * (e : Int)) → IsI w' r' (n * (d : Int)) → Calls zP 20 #[r, r'] w' fun e' w'' => e' = zR (J zq (sgn (m * (e : Int) - n * (d : Int)))) ∧ Ext w' w'') := fun r r' w' hr hr' => cmp_isI _ _ r r' w' hr hr' ((f1.mul f4).small (by omega)) ((f2.mul f3).small (by omega)) (((f1.mul f4).sub (f2.mul f3)).small (by omega))
  obtain ⟨a1, l1, c1, rfl⟩ := k1.isSlice
  obtain ⟨a2, l2, c2, rfl⟩ := k2.isSlice
  obtain ⟨a3, l3, c3, rfl⟩ := k3.isSlice
  obtain ⟨a4, l4, c4, rfl⟩ := k4.isSlice
  clear k1 k2 k3 k4 f1 f2 f3 f4 sd se
  generalize decide (m < 0) = b1 at *
  generalize decide (n < 0) = b2 at *
  generalize sgn (m * (e : Int) - n * (d : Int)) = S at *
  generalize m * (e : Int) = P1 at *
  generalize n * (d : Int) = P2 at *
  have XS : Hid (Ext w ((w.alloc (.cells #[.bool b1, .slice a1 l1 c1, .slice a2 l2 c2] 96)).alloc (.cells #[.bool b2, .slice a3 l3 c3, .slice a4 l4 c4] 96))) := ((Ext.refl w).alloc _).alloc _
  have LS : Hid (LaidTT w.heap.size ((w.alloc (.cells #[.bool b1, .slice a1 l1 c1, .slice a2 l2 c2] 96)).alloc (.cells #[.bool b2, .slice a3 l3 c3, .slice a4 l4 c4] 96)) (.bool b1) (.slice a1 l1 c1) (.slice a2 l2 c2) (.bool b2) (.slice a3 l3 c3) (.slice a4 l4 c4)) := by constructor <;> constructor <;> simp [go_sem]
  go_enter Tryz.func131, Tryz.ntmps131
  go_wp2_with fail
  generalize (w.alloc (.cells #[.bool b1, .slice a1 l1 c1, .slice a2 l2 c2] 96)).alloc (.cells #[.bool b2, .slice a3 l3 c3, .slice a4 l4 c4] 96) = W at *
  obtain ⟨⟨p0, p1, p2, p3, p4, p5⟩, ⟨q0, q1, q2, q3, q4, q5⟩⟩ := LS.out
  go_region_held (fun w' => w'.cell? ⟨w.heap.size, 0, none⟩ = some (.bool b1) ∧ w'.cell? ⟨w.heap.size, 1, none⟩ = some (.slice a1 l1 c1) ∧ w'.cell? ⟨w.heap.size, 2, none⟩ = some (.slice a2 l2 c2) ∧ w'.cell? ⟨w.heap.size + 1, 0, none⟩ = some (.bool b2) ∧ w'.cell? ⟨w.heap.size + 1, 1, none⟩ = some (.slice a3 l3 c3) ∧ w'.cell? ⟨w.heap.size + 1, 2, none⟩ = some (.slice a4 l4 c4)) (go_keep) (first | (go_at_call_of 166 (Value.agg #[Value.bool b2, Value.slice a3 l3 c3, Value.slice a4 l4 c4]); refine (HE2.out _ (XS.out.drew)).mono ?_; rintro e w1 ⟨⟨r1, rfl, hr1⟩, x1⟩; obtain ⟨⟨s0, s1, s2, s3, s4, s5⟩, ⟨s6, s7, s8, s9, s10, s11⟩⟩ := LS.out.ext (cell_drew x1)) | (go_at_call_of 55 (Value.agg #[Value.bool b1, Value.slice a1 l1 c1]); refine (HT1.out _ _ (XS.out.trans (cell_drew x1)) hr1).mono ?_; rintro e w2 ⟨⟨r2, rfl, hr2⟩, x2⟩; obtain ⟨⟨t0, t1, t2, t3, t4, t5⟩, ⟨t6, t7, t8, t9, t10, t11⟩⟩ := LS.out.ext ((cell_drew x1).trans x2)) | (go_at_call_of 166 (Value.agg #[Value.bool b1, Value.slice a1 l1 c1, Value.slice a2 l2 c2]); refine (HE1.out _ ((XS.out.trans (cell_drew x1)).trans x2)).mono ?_; rintro e w3 ⟨⟨r3, rfl, hr3⟩, x3⟩; obtain ⟨⟨v0, v1, v2, v3, v4, v5⟩, ⟨v6, v7, v8, v9, v10, v11⟩⟩ := LS.out.ext (((cell_drew x1).trans x2).trans x3)) | (go_at_call_of 55 (Value.agg #[Value.bool b2, Value.slice a3 l3 c3]); refine (HT2.out _ _ (((XS.out.trans (cell_drew x1)).trans x2).trans x3) hr3).mono ?_; rintro e w4 ⟨⟨r4, rfl, hr4⟩, x4⟩; obtain ⟨⟨y0, y1, y2, y3, y4, y5⟩, ⟨y6, y7, y8, y9, y10, y11⟩⟩ := LS.out.ext ((((cell_drew x1).trans x2).trans x3).trans x4)) | (go_at_call 20; refine (HC.out _ _ _ (hr2.ext (x3.trans x4)) hr4).mono ?_; rintro e w5 ⟨rfl, x5⟩; obtain ⟨⟨z0, z1, z2, z3, z4, z5⟩, ⟨z6, z7, z8, z9, z10, z11⟩⟩ := LS.out.ext (((((cell_drew x1).trans x2).trans x3).trans x4).trans x5)))
  have X9 : Hid (Ext w w5) := XS.out.trans (((((cell_drew x1).trans x2).trans x3).trans x4).trans x5)
  go_wp2_with fail
  go_ret
  exact ⟨rfl, X9.out⟩
end Go.Proofs.YtoeecldhbabmbaaGreat
