/- The reference's whole numbers with a sign: Small; words of them. The reference of layer 1: Near, NearQ, Over, Prod, Mul, Div, Ratio, Add, Sub. The reference of layer 3: three, Add, Neg, Sub, Scale. The reference of layer 3: less, Cross, dot, Dot, Apply. is: of equal answers. -/
import Derived.Test.YtbmodfhnenlmgaaRight
import Derived.Test.YtbmodfhnenlmgaaMay
import Derived.Test.YtbmodfhnenlmgaaNearQ
import Derived.Test.YtbmodfhnenlmgaaVB
import Derived.Test.YtbmodfhnenlmgaaLA
namespace Go.Proofs.Ytbmodfhnenlmgaa
open Go.RowKit

def smallR (z : Int) : Int × Bool := if -9223372036854775808 ≤ z ∧ z < 9223372036854775808 then (z, true) else (0, false)

theorem big_len (n : Nat) (h : 1 < (Dig.digs 18446744073709551616 n).length) : 18446744073709551616 ≤ n := by
  apply Nat.le_of_not_lt
  intro hlt
  have := Dig.digs_length_le 18446744073709551616 (by omega) n 1 (by simpa using hlt)
  omega
theorem ret_two {a a' b b' : Int} (h : a = a') (k : b = b') : Ending.returned (.tuple #[.int .i64 a, .int .i64 b]) = .returned (.tuple #[.int .i64 a', .int .i64 b']) := by rw [h, k]
theorem ret_pair {a a' : Int} {b b' : Bool} (h : a = a') (k : b = b') : Ending.returned (.tuple #[.int .i64 a, .bool b]) = .returned (.tuple #[.int .i64 a', .bool b']) := by rw [h, k]

set_option maxHeartbeats 2000000 in
theorem small_any (z : Int) (r : Value) (w : World) (h : IsI w r z) (hs : SmallI z) :
    Calls Try.prog 59 #[r] w fun e w' => e = .returned (.tuple #[.int .i64 (smallR z).1, .bool (smallR z).2]) ∧ Ext w w' := by
  obtain ⟨u, rfl, hu⟩ := h
  obtain ⟨a, cap, rfl, gx⟩ := Row.shape hu
  have hz : (Dig.digs 18446744073709551616 z.natAbs).length = 0 → z = 0 := fun h0 => by have := Dig.digs_nil _ z.natAbs (by omega) (List.eq_nil_of_length_eq_zero h0); omega
  have hbig : 1 < (Dig.digs 18446744073709551616 z.natAbs).length → 18446744073709551616 ≤ z.natAbs := big_len _
  have hsm : (Dig.digs 18446744073709551616 z.natAbs).length = 1 → z.natAbs < 18446744073709551616 := fun h1 => by have := (Dig.length_bounds 18446744073709551616 z.natAbs 0 (by omega) h1).2; simpa using this
  have hl' : (Dig.digs 18446744073709551616 z.natAbs).length ≤ 1000 := hs.1
  have hd0 : (Dig.digs 18446744073709551616 z.natAbs).getD 0 0 = z.natAbs % 18446744073709551616 := by rw [Dig.digs_getD _ (by omega), Nat.pow_zero, Nat.div_one]
  clear hu hs
  generalize Dig.digs 18446744073709551616 z.natAbs = xs at *
  obtain ⟨l, hl⟩ : ∃ l, xs.length = l := ⟨_, rfl⟩
  rw [hl] at gx hz hbig hsm hl' ⊢
  by_cases h0 : l = 0
  · have e0 : z = 0 := hz h0
    have e1 : Hid (0 = (smallR z).1) := by show _ = _; rw [e0]; decide
    have e2 : Hid (true = (smallR z).2) := by show _ = _; rw [e0]; decide
    subst h0
    clear hz hl gx hbig hsm e0 hd0
    generalize decide (z < 0) = b at *
    go_enter Try.func59, Try.ntmps59
    go_wp2_with fail
    go_ret2
    exact ⟨ret_pair e1.out e2.out, (Ext.refl _).alloc _⟩
  · obtain ⟨b0, o0, rfl, hcell⟩ := gx (by omega)
    have hc0 := hcell 0 (by omega)
    rw [Nat.add_zero, hd0] at hc0
    have hne : ((l : Int) == 0) = false := by simp; omega
    have XS : Hid (Ext w (w.alloc (.cells #[.bool (decide (z < 0)), .slice (some ⟨b0, o0, none⟩) l cap] 62))) := (Ext.refl _).alloc _
    have hm2 : z.natAbs % 18446744073709551616 < 18446744073709551616 := Nat.mod_lt _ (by omega)
    obtain ⟨M, gM, gM1, gM2⟩ : ∃ M : Int, ((z.natAbs % 18446744073709551616 : Nat) : Int) = M ∧ 0 ≤ M ∧ M < 18446744073709551616 := ⟨_, rfl, by omega, by omega⟩
    rw [gM] at hc0
    have hcw := XS.out.kept hc0
    have hp : (0 : Int) < (l : Int) := by omega
    by_cases h1 : 1 < l
    · have hb := hbig h1
      have e1 : Hid (0 = (smallR z).1) := by show _ = _; unfold smallR; rw [if_neg (by omega)]
      have e2 : Hid (false = (smallR z).2) := by show _ = _; unfold smallR; rw [if_neg (by omega)]
      have hl1 : (1 : Int) < (l : Int) := by omega
      have hl1' : decide ((1 : Int) < (l : Int)) = true := decide_eq_true hl1
      clear hz hl hcell gx hbig hsm hb hm2 gM hd0 hc0 h0 h1
      generalize decide (z < 0) = b at *
      go_enter Try.func59, Try.ntmps59
      go_wp2_with fail
      go_ret2
      exact ⟨ret_pair e1.out e2.out, XS.out⟩
    · obtain rfl : l = 1 := by omega
      have hm := hsm rfl
      have hMz : Hid (M = (z.natAbs : Int)) := by show _ = _; rw [← gM, Nat.mod_eq_of_lt hm]
      by_cases hn : z < 0
      · rw [decide_eq_true hn] at hcw XS ⊢
        by_cases hb : 9223372036854775808 < M
        · have e1 : Hid (0 = (smallR z).1) := by have := hMz.out; show _ = _; unfold smallR; rw [if_neg (by omega)]
          have e2 : Hid (false = (smallR z).2) := by have := hMz.out; show _ = _; unfold smallR; rw [if_neg (by omega)]
          have hb' : decide (9223372036854775808 < M) = true := decide_eq_true hb
          clear hz hl hcell gx hbig hsm hm hm2 gM hd0 hc0 h0 h1 hn
          go_enter Try.func59, Try.ntmps59
          go_wp2_with fail
          go_ret2
          exact ⟨ret_pair e1.out e2.out, XS.out⟩
        · have e1 : Hid (z = (smallR z).1) := by have := hMz.out; show _ = _; unfold smallR; rw [if_pos (by omega)]
          have e2 : Hid (true = (smallR z).2) := by have := hMz.out; show _ = _; unfold smallR; rw [if_pos (by omega)]
          have hb' : decide (9223372036854775808 < M) = false := decide_eq_false hb
          have hv : Hid (IntKind.i64.wrap (IntKind.u64.wrap (0 - M)) = z) := by
            have := hMz.out
            show _ = _
            rw [IntKind.wrap_u64, IntKind.wrap_i64]
            omega
          have hv2 : Hid (wrap64 (IntKind.u64.wrap (-M)) = z) := by
            have := hMz.out
            show _ = _
            rw [IntKind.wrap_u64]
            unfold wrap64
            omega
          clear hz hl hcell gx hbig hsm hm hm2 gM hd0 hc0 h0 h1 hn
          go_enter Try.func59, Try.ntmps59
          go_wp2_with fail
          go_ret2
          exact ⟨ret_pair (by first | exact hv.out.trans e1.out | exact hv2.out.trans e1.out) e2.out, XS.out⟩
      · rw [decide_eq_false hn] at hcw XS ⊢
        by_cases hb : 9223372036854775808 ≤ M
        · have e1 : Hid (0 = (smallR z).1) := by have := hMz.out; show _ = _; unfold smallR; rw [if_neg (by omega)]
          have e2 : Hid (false = (smallR z).2) := by have := hMz.out; show _ = _; unfold smallR; rw [if_neg (by omega)]
          have hb' : decide (9223372036854775808 ≤ M) = true := decide_eq_true hb
          clear hz hl hcell gx hbig hsm hm hm2 gM hd0 hc0 h0 h1 hn
          go_enter Try.func59, Try.ntmps59
          go_wp2_with fail
          go_ret2
          exact ⟨ret_pair e1.out e2.out, XS.out⟩
        · have e1 : Hid (M = (smallR z).1) := by have := hMz.out; show _ = _; unfold smallR; rw [if_pos (by omega)]; show M = z; omega
          have e2 : Hid (true = (smallR z).2) := by have := hMz.out; show _ = _; unfold smallR; rw [if_pos (by omega)]
          have hb' : decide (9223372036854775808 ≤ M) = false := decide_eq_false hb
          have hb2 : M < 9223372036854775808 := by omega
          clear hz hl hcell gx hbig hsm hm hm2 gM hd0 hc0 h0 h1 hn
          go_enter Try.func59, Try.ntmps59
          go_wp2_with fail
          go_ret2
          exact ⟨ret_pair e1.out e2.out, XS.out⟩

def wordR (z : Int) : Int × Int := if okW z then (z, 0) else (0, 2)
set_option maxHeartbeats 2000000 in
theorem word_any (z : Int) (r : Value) (w : World) (h : IsI w r z) (hs : SmallI z) :
    Calls Try.prog 42 #[r] w fun e w' => e = .returned (.tuple #[.int .i64 (wordR z).1, .int .i64 (wordR z).2]) ∧ Ext w w' := by
  have HS : Hid (∀ w', Ext w w' → Calls Try.prog 59 #[r] w' fun e w'' => e = .returned (.tuple #[.int .i64 (smallR z).1, .bool (smallR z).2]) ∧ Ext w' w'') := fun w' hx => small_any z r w' (h.ext hx) hs
  obtain ⟨u, rfl, hu⟩ := h
  obtain ⟨a1, l1, c1, rfl⟩ := hu.isSlice
  clear hu hs
  generalize decide (z < 0) = b at *
  have XS : Hid (Ext w (w.alloc (.cells #[.bool b, .slice a1 l1 c1] 62))) := (Ext.refl _).alloc _
  by_cases hsm : -9223372036854775808 ≤ z ∧ z < 9223372036854775808
  · have e1 : smallR z = (z, true) := by unfold smallR; rw [if_pos hsm]
    rw [e1] at HS
    have HM : Hid (∀ w', Calls Try.prog 16 #[.int .i64 z] w' fun e w'' => e = .returned (.bool (okW z)) ∧ w'' = w') := fun w' => may_any z w'
    by_cases hw : okW z = true
    · rw [hw] at HM
      have e2 : Hid (z = (wordR z).1) := by show _ = _; unfold wordR; rw [if_pos hw]
      have e3 : Hid (0 = (wordR z).2) := by show _ = _; unfold wordR; rw [if_pos hw]
      clear e1 hw hsm
      go_enter Try.func42, Try.ntmps42
      go_wp2_with fail
      refine (HS.out _ XS.out).mono ?_
      rintro e w1 ⟨rfl, x1⟩
      go_wp2_with fail
      refine (HM.out _).mono ?_
      rintro e wx ⟨rfl, hwx⟩
      have hwy := hwx.symm
      clear hwx
      subst hwy
      go_wp2_with fail
      go_ret2
      exact ⟨ret_two e2.out e3.out, XS.out.trans x1⟩
    · have hw' : okW z = false := by simpa using hw
      rw [hw'] at HM
      have e2 : Hid (0 = (wordR z).1) := by show _ = _; unfold wordR; rw [if_neg hw]
      have e3 : Hid (2 = (wordR z).2) := by show _ = _; unfold wordR; rw [if_neg hw]
      clear e1 hw hw' hsm
      go_enter Try.func42, Try.ntmps42
      go_wp2_with fail
      refine (HS.out _ XS.out).mono ?_
      rintro e w1 ⟨rfl, x1⟩
      go_wp2_with fail
      refine (HM.out _).mono ?_
      rintro e wx ⟨rfl, hwx⟩
      have hwy := hwx.symm
      clear hwx
      subst hwy
      go_wp2_with fail
      go_ret2
      exact ⟨ret_two e2.out e3.out, XS.out.trans x1⟩
  · have e1 : smallR z = (0, false) := by unfold smallR; rw [if_neg hsm]
    rw [e1] at HS
    have hw : okW z = false := by unfold okW; simp; omega
    have e2 : Hid (0 = (wordR z).1) := by show _ = _; unfold wordR; rw [hw]; rfl
    have e3 : Hid (2 = (wordR z).2) := by show _ = _; unfold wordR; rw [hw]; rfl
    clear e1 hw hsm
    go_enter Try.func42, Try.ntmps42
    go_wp2_with fail
    refine (HS.out _ XS.out).mono ?_
    rintro e w1 ⟨rfl, x1⟩
    go_wp2_with fail
    go_ret2
    exact ⟨ret_two e2.out e3.out, XS.out.trans x1⟩
end Go.Proofs.Ytbmodfhnenlmgaa

namespace Go.Proofs.Ytbmodfhnenlmgaa
open Go.RowKit

theorem nearI_fit (n d : Int) (k : Nat) (f : Fit k n) (hd : 0 < d) : Fit (k + 2) (nearI n d) := by
  have h1 : (n * 2 / d / 2).natAbs ≤ (n * 2).natAbs := Nat.le_trans (natAbs_ediv_le _ _ (by omega)) (natAbs_ediv_le _ _ hd)
  have f1 : Fit (k + 1) (n * 2) := by have := f.shl 1; rwa [Int.pow_succ, Int.pow_zero, Int.one_mul] at this
  have f2 : Fit (k + 1) (n * 2 / d / 2) := f1.of_le h1
  unfold nearI
  split
  · exact f2.le (by omega)
  · split
    · exact f2.le (by omega)
    · exact f2.add (fit_one _ (by omega))
theorem fit_word (a : Int) (h1 : -9223372036854775808 ≤ a) (h2 : a ≤ 9223372036854775807) : Fit 64 a := by
  unfold Fit
  have e : (2 : Nat) ^ 64 = 18446744073709551616 := by decide
  omega

set_option maxHeartbeats 2000000 in
theorem near1_any (n : Int) (d k : Nat) (z : Int) (v : Value) (w : World) (h1 : IsQ w v n d) (hd : d ≠ 0) (hk : k ≤ 3000) (f1 : Fit k n) (f2 : Fit k (d : Int)) (hz : IsNear n d z) :
    Calls Try.prog 49 #[v] w fun e w' => e = .returned (.tuple #[.int .i64 (wordR z).1, .int .i64 (wordR z).2]) ∧ Ext w w' := by
  have e : nearI n d = z := (nearI_spec n d (by omega)).unique (by omega) hz
  have fz : Fit (k + 2) z := by
    rw [← e]
    exact nearI_fit n d k f1 (by omega)
  have HN : Hid (∀ w', Ext w w' → Calls Try.prog 70 #[v] w' fun e w'' => (∃ r, e = .returned r ∧ IsI w'' r z) ∧ Ext w' w'') := fun w' hx => by
    have h := near_isI n d k v w' (h1.ext hx) hd hk f1 f2
    rw [e] at h
    exact h
  have HW : Hid (∀ r w', IsI w' r z → Calls Try.prog 42 #[r] w' fun e w'' => e = .returned (.tuple #[.int .i64 (wordR z).1, .int .i64 (wordR z).2]) ∧ Ext w' w'') := fun r w' hr => word_any z r w' hr (fz.small (by omega))
  obtain ⟨u1, u2, rfl, k1, k2⟩ := h1
  obtain ⟨a1, l1, c1, rfl⟩ := k1.isSlice
  obtain ⟨a2, l2, c2, rfl⟩ := k2.isSlice
  clear k1 k2 fz e hz
  generalize decide (n < 0) = b at *
  generalize (wordR z).1 = o1 at *
  generalize (wordR z).2 = o2 at *
  go_enter Try.func49, Try.ntmps49
  go_wp2_with fail
  refine (HN.out _ ((Ext.refl _).alloc _)).mono ?_
  rintro e w1 ⟨⟨r, rfl, hr⟩, x1⟩
  go_wp2_with fail
  refine (HW.out _ _ hr).mono ?_
  rintro e w2 ⟨rfl, x2⟩
  go_wp2_with fail
  go_ret2
  exact ⟨rfl, (((Ext.refl _).alloc _).trans x1).trans x2⟩

theorem near_lowest (x : Int) (d : Nat) (hd : d ≠ 0) (z : Int) (hz : IsNear x d z) : IsNear (x / (Nat.gcd x.natAbs d : Int)) ((d / Nat.gcd x.natAbs d : Nat) : Int) z := by
  have hg : 0 < Nat.gcd x.natAbs d := Nat.gcd_pos_of_pos_right _ (by omega)
  have h1 : (Nat.gcd x.natAbs d : Int) ∣ x := Int.ofNat_dvd_left.2 (Nat.gcd_dvd_left _ _)
  have h2 : Nat.gcd x.natAbs d ∣ d := Nat.gcd_dvd_right _ _
  generalize Nat.gcd x.natAbs d = g at *
  obtain ⟨c, hc⟩ := h1
  obtain ⟨e, he⟩ := h2
  have e1 : x / (g : Int) = c := by rw [hc, Int.mul_ediv_cancel_left _ (by omega)]
  have e2 : d / g = e := by rw [he, Nat.mul_div_cancel_left _ hg]
  have he0 : 0 < e := by
    apply Nat.pos_of_ne_zero
    intro h0
    rw [h0, Nat.mul_zero] at he
    exact hd he
  rw [e1, e2]
  have hs := nearI_spec c (e : Int) (by omega)
  have h3 := hs.scale (g := (g : Int)) (by omega)
  rw [← hc, ← Int.natCast_mul, ← he] at h3
  rw [hz.unique (by omega) h3]
  exact hs

set_option maxHeartbeats 4000000 in
theorem nearq_any (x z : Int) (k : Nat) (r : Value) (w : World) (h : IsI w r x) (hk : k ≤ 2000) (hk2 : 31 ≤ k) (f1 : Fit k x) (hz : IsNear x 1073741824 z) :
    Calls Try.prog 31 #[r] w fun e w' => e = .returned (.tuple #[.int .i64 (wordR z).1, .int .i64 (wordR z).2]) ∧ Ext w w' := by
  have HO : Hid (∀ w', Calls Try.prog 52 #[.int .u64 1] w' fun e w'' => (∃ v', e = .returned v' ∧ IsN w'' v' 1) ∧ Ext w' w'') := fun w' => nof_any 1 (by omega) w'
  have HU : Hid (∀ u w', IsN w' u 1 → Calls Try.prog 51 #[u, .int .i64 30] w' fun e w'' => (∃ v', e = .returned v' ∧ IsN w'' v' 1073741824) ∧ Ext w' w'') := fun u w' hu => up2_any 1 30 u w' hu (small_64 1 (by omega)) (by omega)
  have f2 : Fit k ((1073741824 : Nat) : Int) := (show Fit 31 ((1073741824 : Nat) : Int) by unfold Fit; decide).le hk2
  have HM : Hid (∀ u w', Ext w w' → IsN w' u 1073741824 → Calls Try.prog 50 #[r, u] w' fun e w'' => (∃ q, e = .returned q ∧ IsQ w'' q (x / (Nat.gcd x.natAbs 1073741824 : Int)) (1073741824 / Nat.gcd x.natAbs 1073741824)) ∧ Ext w' w'') := fun u w' hx hu => make_isQ x 1073741824 k r u w' (h.ext hx) hu (by omega) (by omega) f1 f2
  have hgp : 0 < Nat.gcd x.natAbs 1073741824 := Nat.gcd_pos_of_pos_right _ (by omega)
  have hnz : 1073741824 / Nat.gcd x.natAbs 1073741824 ≠ 0 := by
    have := Nat.div_pos (Nat.le_of_dvd (by omega) (Nat.gcd_dvd_right x.natAbs 1073741824)) hgp
    omega
  have HN : Hid (∀ q w', IsQ w' q (x / (Nat.gcd x.natAbs 1073741824 : Int)) (1073741824 / Nat.gcd x.natAbs 1073741824) → Calls Try.prog 49 #[q] w' fun e w'' => e = .returned (.tuple #[.int .i64 (wordR z).1, .int .i64 (wordR z).2]) ∧ Ext w' w'') := fun q w' hq =>
    near1_any _ _ k z q w' hq hnz (by omega) (f1.of_le (natAbs_ediv_le _ _ (by omega))) (f2.of_le (by rw [Int.natAbs_natCast, Int.natAbs_natCast]; exact Nat.div_le_self _ _)) (near_lowest x 1073741824 (by omega) z hz)
  obtain ⟨u, rfl, hu⟩ := h
  obtain ⟨a1, l1, c1, rfl⟩ := hu.isSlice
  clear hu f1 f2 hz hnz hgp
  generalize decide (x < 0) = b at *
  generalize (wordR z).1 = o1 at *
  generalize (wordR z).2 = o2 at *
  generalize x / (Nat.gcd x.natAbs 1073741824 : Int) = N1 at *
  generalize 1073741824 / Nat.gcd x.natAbs 1073741824 = D1 at *
  have XS : Hid (Ext w (w.alloc (.cells #[.bool b, .slice a1 l1 c1] 62))) := (Ext.refl _).alloc _
  have BS : Hid (Has (w.alloc (.cells #[.bool b, .slice a1 l1 c1] 62)) w.heap.size (.bool b) (.slice a1 l1 c1)) := ext_new1 (Ext.refl _)
  go_enter Try.func31, Try.ntmps31
  go_wp2_with fail
  generalize w.alloc (.cells #[.bool b, .slice a1 l1 c1] 62) = W at *
  obtain ⟨p0, p1, p2, p3⟩ := BS.out
  go_region_held (fun w' => w'.cell? ⟨w.heap.size, 0, none⟩ = some (.bool b) ∧ w'.cell? ⟨w.heap.size, 1, none⟩ = some (.slice a1 l1 c1)) (go_keep) (first | (go_at_call 52; refine (HO.out _).mono ?_; rintro e w1 ⟨⟨v1, rfl, hv1⟩, x1⟩; obtain ⟨s0, s1, s2, s3⟩ := BS.out.ext (cell_drew x1)) | (go_at_call 51; refine (HU.out _ _ hv1).mono ?_; rintro e w2 ⟨⟨v2, rfl, hv2⟩, x2⟩; obtain ⟨t0, t1, t2, t3⟩ := BS.out.ext ((cell_drew x1).trans x2)) | (go_at_call 50; refine (HM.out _ _ ((XS.out.trans (cell_drew x1)).trans x2) hv2).mono ?_; rintro e w3 ⟨⟨q3, rfl, hq3⟩, x3⟩; obtain ⟨y0, y1, y2, y3⟩ := BS.out.ext (((cell_drew x1).trans x2).trans x3)) | (go_at_call 49; refine (HN.out _ _ hq3).mono ?_; rintro e w4 ⟨rfl, x4⟩; obtain ⟨z0, z1, z2, z3⟩ := BS.out.ext ((((cell_drew x1).trans x2).trans x3).trans x4)))
  go_wp2_with fail
  go_ret2
  exact ⟨rfl, (((XS.out.trans (cell_drew x1)).trans x2).trans x3).trans x4⟩

set_option maxHeartbeats 1000000 in
theorem prod_any (a b : Int) (w : World) (h1 : -9223372036854775808 ≤ a) (h2 : a ≤ 9223372036854775807) (k1 : -9223372036854775808 ≤ b) (k2 : b ≤ 9223372036854775807) :
    Calls Try.prog 54 #[.int .i64 a, .int .i64 b] w fun e w' => (∃ r, e = .returned r ∧ IsI w' r (a * b)) ∧ Ext w w' := by
  have fa : Fit 64 a := fit_word a h1 h2
  have fb : Fit 64 b := fit_word b k1 k2
  have HA : Hid (∀ w', Calls Try.prog 44 #[.int .i64 a] w' fun e w'' => (∃ r, e = .returned r ∧ IsI w'' r a) ∧ Ext w' w'') := fun w' => from_any a w' h1 h2
  have HB : Hid (∀ w', Calls Try.prog 44 #[.int .i64 b] w' fun e w'' => (∃ r, e = .returned r ∧ IsI w'' r b) ∧ Ext w' w'') := fun w' => from_any b w' k1 k2
  have HT : Hid (∀ r1 r2 w', IsI w' r1 a → IsI w' r2 b → Calls Try.prog 75 #[r1, r2] w' fun e w'' => (∃ r', e = .returned r' ∧ IsI w'' r' (a * b)) ∧ Ext w' w'') := fun r1 r2 w' hr1 hr2 => times_isI a b r1 r2 w' hr1 hr2 (fa.small (by omega)) (fb.small (by omega)) ((fa.mul fb).small (by omega))
  clear fa fb h1 h2 k1 k2
  generalize a * b = P at *
  have XS : Hid (Ext w (w.alloc (.cells #[.bool false, .slice none 0 0] 62))) := (Ext.refl _).alloc _
  have BS : Hid (Has (w.alloc (.cells #[.bool false, .slice none 0 0] 62)) w.heap.size (.bool false) (.slice none 0 0)) := ext_new1 (Ext.refl _)
  go_enter Try.func54, Try.ntmps54
  go_wp2_with fail
  generalize w.alloc (.cells #[.bool false, .slice none 0 0] 62) = W at *
  refine (HA.out _).mono ?_
  rintro e w1 ⟨⟨r1, rfl, hr1⟩, x1⟩
  go_wp2_with fail
  refine (HB.out _).mono ?_
  rintro e w2 ⟨⟨r2, rfl, hr2⟩, x2⟩
  go_wp2_with fail
  refine (HT.out _ _ _ (hr1.ext x2) hr2).mono ?_
  rintro e w3 ⟨⟨r3, rfl, hr3⟩, x3⟩
  obtain ⟨t0, t1, t2, t3⟩ := BS.out.ext ((x1.trans x2).trans x3)
  obtain ⟨u, hu, hk⟩ := hr3
  obtain ⟨au, lu, cu, hau⟩ := hk.isSlice
  subst hau
  subst hu
  have X3 : Hid (Ext w w3) := XS.out.trans ((x1.trans x2).trans x3)
  have HI : Hid (IsI w3 (.agg #[.bool (decide (P < 0)), .slice au lu cu]) P) := ⟨_, rfl, hk⟩
  clear hk x1 x2 x3 hr1 hr2
  go_wp2_with fail
  exact bodyPost_ret (v := .agg #[.bool (decide (P < 0)), .slice au lu cu]) (by simp [results, Try.results54, go_sem, t0, t1]) rfl ⟨⟨_, rfl, HI.out.set2 t0 t1⟩, (X3.out.setCell (Nat.le_refl _) _).setCell (Nat.le_refl _) _⟩

set_option maxHeartbeats 1000000 in
theorem refmul_any (a b z : Int) (w : World) (h1 : -9223372036854775808 ≤ a) (h2 : a ≤ 9223372036854775807) (k1 : -9223372036854775808 ≤ b) (k2 : b ≤ 9223372036854775807) (hz : IsNear (a * b) 1073741824 z) :
    Calls Try.prog 35 #[.int .i64 a, .int .i64 b] w fun e w' => e = .returned (.tuple #[.int .i64 (wordR z).1, .int .i64 (wordR z).2]) ∧ Ext w w' := by
  have fp : Fit 128 (a * b) := (fit_word a h1 h2).mul (fit_word b k1 k2)
  have HP : Hid (∀ w', Calls Try.prog 54 #[.int .i64 a, .int .i64 b] w' fun e w'' => (∃ r, e = .returned r ∧ IsI w'' r (a * b)) ∧ Ext w' w'') := fun w' => prod_any a b w' h1 h2 k1 k2
  have HN : Hid (∀ r w', IsI w' r (a * b) → Calls Try.prog 31 #[r] w' fun e w'' => e = .returned (.tuple #[.int .i64 (wordR z).1, .int .i64 (wordR z).2]) ∧ Ext w' w'') := fun r w' hr => nearq_any (a * b) z 128 r w' hr (by omega) (by omega) fp hz
  clear fp hz h1 h2 k1 k2
  generalize (wordR z).1 = o1 at *
  generalize (wordR z).2 = o2 at *
  generalize a * b = P at *
  go_enter Try.func35, Try.ntmps35
  go_wp2_with fail
  refine (HP.out _).mono ?_
  rintro e w1 ⟨⟨r, rfl, hr⟩, x1⟩
  go_wp2_with fail
  refine (HN.out _ _ hr).mono ?_
  rintro e w2 ⟨rfl, x2⟩
  go_wp2_with fail
  go_ret2
  exact ⟨rfl, x1.trans x2⟩

set_option maxHeartbeats 1000000 in
theorem refadd_any (a b : Int) (w : World) (h1 : -9223372036854775808 ≤ a) (h2 : a ≤ 9223372036854775807) (k1 : -9223372036854775808 ≤ b) (k2 : b ≤ 9223372036854775807) :
    Calls Try.prog 24 #[.int .i64 a, .int .i64 b] w fun e w' => e = .returned (.tuple #[.int .i64 (wordR (a + b)).1, .int .i64 (wordR (a + b)).2]) ∧ Ext w w' := by
  have fa : Fit 64 a := fit_word a h1 h2
  have fb : Fit 64 b := fit_word b k1 k2
  have HA : Hid (∀ w', Calls Try.prog 44 #[.int .i64 a] w' fun e w'' => (∃ r, e = .returned r ∧ IsI w'' r a) ∧ Ext w' w'') := fun w' => from_any a w' h1 h2
  have HB : Hid (∀ w', Calls Try.prog 44 #[.int .i64 b] w' fun e w'' => (∃ r, e = .returned r ∧ IsI w'' r b) ∧ Ext w' w'') := fun w' => from_any b w' k1 k2
  have HT : Hid (∀ r1 r2 w', IsI w' r1 a → IsI w' r2 b → Calls Try.prog 43 #[r1, r2] w' fun e w'' => (∃ r', e = .returned r' ∧ IsI w'' r' (a + b)) ∧ Ext w' w'') := fun r1 r2 w' hr1 hr2 => plus_isI a b r1 r2 w' hr1 hr2 (fa.small (by omega)) (fb.small (by omega)) ((fa.add fb).small (by omega))
  have HW : Hid (∀ r w', IsI w' r (a + b) → Calls Try.prog 42 #[r] w' fun e w'' => e = .returned (.tuple #[.int .i64 (wordR (a + b)).1, .int .i64 (wordR (a + b)).2]) ∧ Ext w' w'') := fun r w' hr => word_any _ r w' hr ((fa.add fb).small (by omega))
  clear fa fb h1 h2 k1 k2
  generalize (wordR (a + b)).1 = o1 at *
  generalize (wordR (a + b)).2 = o2 at *
  generalize a + b = P at *
  go_enter Try.func24, Try.ntmps24
  go_wp2_with fail
  refine (HA.out _).mono ?_
  rintro e w1 ⟨⟨r1, rfl, hr1⟩, x1⟩
  go_wp2_with fail
  refine (HB.out _).mono ?_
  rintro e w2 ⟨⟨r2, rfl, hr2⟩, x2⟩
  go_wp2_with fail
  refine (HT.out _ _ _ (hr1.ext x2) hr2).mono ?_
  rintro e w3 ⟨⟨r3, rfl, hr3⟩, x3⟩
  go_wp2_with fail
  refine (HW.out _ _ hr3).mono ?_
  rintro e w4 ⟨rfl, x4⟩
  go_wp2_with fail
  go_ret2
  exact ⟨rfl, ((x1.trans x2).trans x3).trans x4⟩

theorem over_abs (x d : Int) : (over x d).natAbs = x.natAbs := by unfold over; split <;> omega
structure LaidO (p : Nat) (W : World) (u1 v1 u2 v2 : Value) : Prop where
  a : Has W p u1 v1
  b : Has W (p + 1) u2 v2
  c : Has3 W (p + 1 + 1) (.bool false) (.slice none 0 0) (.slice none 0 0)
theorem LaidO.ext {p : Nat} {W W' : World} {u1 v1 u2 v2 : Value} (h : LaidO p W u1 v1 u2 v2) (hx : Ext W W') : LaidO p W' u1 v1 u2 v2 := ⟨h.a.ext hx, h.b.ext hx, h.c.ext hx⟩
theorem laidO_start (w : World) (u1 v1 u2 v2 : Value) : LaidO w.heap.size (((w.alloc (.cells #[u1, v1] 62)).alloc (.cells #[u2, v2] 62)).alloc (.cells #[.bool false, .slice none 0 0, .slice none 0 0] 83)) u1 v1 u2 v2 := by
  constructor <;> constructor <;> simp [go_sem]
theorem Has3.far {w : World} {b g : Nat} {u v x y z : Value} (h : Has3 w b u v z) (hb : b ≠ g) : Has3 ((w.setCell ⟨g, 0, none⟩ x).setCell ⟨g, 1, none⟩ y) b u v z :=
  ⟨by rw [far2 _ _ _ _ _ hb]; exact h.c0, by rw [far2 _ _ _ _ _ hb]; exact h.c1, by rw [far2 _ _ _ _ _ hb]; exact h.c2, by simp [h.f0], by simp [h.f1], by simp [h.f2]⟩
theorem IsQ.set3 {w : World} {v : Value} {n : Int} {d g : Nat} {b0 : Bool} {a a' : Option Addr} {l c l' c' : Nat} {x y z : Value} (h : IsQ w v n d) (c0 : w.cell? ⟨g, 0, none⟩ = some (.bool b0)) (c1 : w.cell? ⟨g, 1, none⟩ = some (.slice a l c)) (c2 : w.cell? ⟨g, 2, none⟩ = some (.slice a' l' c')) :
    IsQ (((w.setCell ⟨g, 0, none⟩ x).setCell ⟨g, 1, none⟩ y).setCell ⟨g, 2, none⟩ z) v n d := by
  obtain ⟨u1, u2, h1, h2, h3⟩ := h
  exact ⟨u1, u2, h1, h2.set3 c0 c1 c2, h3.set3 c0 c1 c2⟩

end Go.Proofs.Ytbmodfhnenlmgaa

namespace Go.Proofs.Ytbmodfhnenlmgaa
open Go.RowKit Go.Shelf

theorem word_fit (z : Int) : wordR z = fitR z := rfl
theorem fit_two (z : Int) : (fitR z).2 = 0 ∧ okW z = true ∧ (fitR z).1 = z ∨ (fitR z).2 = 2 ∧ okW z = false ∧ (fitR z).1 = 0 := by
  cases h : okW z
  · rw [fit_no' h]; exact .inr ⟨rfl, rfl, rfl⟩
  · rw [fit_yes' h]; exact .inl ⟨rfl, rfl, rfl⟩
set_option maxHeartbeats 2000000 in
theorem three_any (z0 z1 z2 : Int) (w : World) :
    Calls Try.prog 25 #[.int .i64 (fitR z0).1, .int .i64 (fitR z0).2, .int .i64 (fitR z1).1, .int .i64 (fitR z1).2, .int .i64 (fitR z2).1, .int .i64 (fitR z2).2] w fun e w' => e = .returned (vres z0 z1 z2) ∧ Ext w w' := by
  rcases fit_two z0 with ⟨e0, k0, f0⟩ | ⟨e0, k0, f0⟩
  · rcases fit_two z1 with ⟨e1, k1, f1⟩ | ⟨e1, k1, f1⟩
    · rcases fit_two z2 with ⟨e2, k2, f2⟩ | ⟨e2, k2, f2⟩
      · have hv : Hid (vres z0 z1 z2 = .tuple #[.agg #[.int .i64 z0, .int .i64 z1, .int .i64 z2], .int .i64 0]) := by show _ = _; unfold vres ok3; rw [k0, k1, k2]; rfl
        rw [e0, e1, e2, f0, f1, f2, hv.out]
        clear e0 e1 e2 f0 f1 f2 k0 k1 k2 hv
        go_enter Try.func25, Try.ntmps25
        go_wp2_with fail
        exact bodyPost_ret (v := .tuple #[.agg #[.int .i64 z0, .int .i64 z1, .int .i64 z2], .int .i64 0]) (by simp [results, Try.results25, go_sem]) rfl ⟨rfl, by repeat (first | with_reducible assumption | with_reducible exact Ext.refl _ | with_reducible refine Ext.drew ?_ | with_reducible refine Ext.drewN ?_ _ | with_reducible refine Ext.alloc ?_ _ | with_reducible refine Ext.set ?_ (by first | exact Nat.le_refl _ | (dsimp only; omega) | (simp; done)) _)⟩
      · have hv : Hid (vres z0 z1 z2 = .tuple #[.agg #[.int .i64 0, .int .i64 0, .int .i64 0], .int .i64 2]) := by show _ = _; unfold vres ok3; rw [k0, k1, k2]; rfl
        rw [e0, e1, e2, f0, f1, f2, hv.out]
        clear e0 e1 e2 f0 f1 f2 k0 k1 k2 hv
        go_enter Try.func25, Try.ntmps25
        go_wp2_with fail
        exact bodyPost_ret (v := .tuple #[.agg #[.int .i64 0, .int .i64 0, .int .i64 0], .int .i64 2]) (by simp [results, Try.results25, go_sem]) rfl ⟨rfl, by repeat (first | with_reducible assumption | with_reducible exact Ext.refl _ | with_reducible refine Ext.drew ?_ | with_reducible refine Ext.drewN ?_ _ | with_reducible refine Ext.alloc ?_ _ | with_reducible refine Ext.set ?_ (by first | exact Nat.le_refl _ | (dsimp only; omega) | (simp; done)) _)⟩
    · have hv : Hid (vres z0 z1 z2 = .tuple #[.agg #[.int .i64 0, .int .i64 0, .int .i64 0], .int .i64 2]) := by show _ = _; unfold vres ok3; rw [k0, k1]; rfl
      rw [e0, e1, f0, f1, hv.out]
      clear e0 e1 f0 f1 k0 k1 hv
      generalize (fitR z2).1 = c1
      generalize (fitR z2).2 = c2
      go_enter Try.func25, Try.ntmps25
      go_wp2_with fail
      exact bodyPost_ret (v := .tuple #[.agg #[.int .i64 0, .int .i64 0, .int .i64 0], .int .i64 2]) (by simp [results, Try.results25, go_sem]) rfl ⟨rfl, by repeat (first | with_reducible assumption | with_reducible exact Ext.refl _ | with_reducible refine Ext.drew ?_ | with_reducible refine Ext.drewN ?_ _ | with_reducible refine Ext.alloc ?_ _ | with_reducible refine Ext.set ?_ (by first | exact Nat.le_refl _ | (dsimp only; omega) | (simp; done)) _)⟩
  · have hv : Hid (vres z0 z1 z2 = .tuple #[.agg #[.int .i64 0, .int .i64 0, .int .i64 0], .int .i64 2]) := by show _ = _; unfold vres ok3; rw [k0]; rfl
    rw [e0, f0, hv.out]
    clear e0 f0 k0 hv
    generalize (fitR z2).1 = c1
    generalize (fitR z2).2 = c2
    generalize (fitR z1).1 = c3
    generalize (fitR z1).2 = c4
    go_enter Try.func25, Try.ntmps25
    go_wp2_with fail
    exact bodyPost_ret (v := .tuple #[.agg #[.int .i64 0, .int .i64 0, .int .i64 0], .int .i64 2]) (by simp [results, Try.results25, go_sem]) rfl ⟨rfl, by repeat (first | with_reducible assumption | with_reducible exact Ext.refl _ | with_reducible refine Ext.drew ?_ | with_reducible refine Ext.drewN ?_ _ | with_reducible refine Ext.alloc ?_ _ | with_reducible refine Ext.set ?_ (by first | exact Nat.le_refl _ | (dsimp only; omega) | (simp; done)) _)⟩
set_option maxHeartbeats 1000000 in
theorem rneg_any (a0 a1 a2 : Int) (w : World) (h : ok3 a0 a1 a2 = true) :
    Calls Try.prog 26 #[.agg #[.int .i64 a0, .int .i64 a1, .int .i64 a2]] w fun e w' => e = .returned (.agg #[.int .i64 (-a0), .int .i64 (-a1), .int .i64 (-a2)]) ∧ Ext w w' := by
  obtain ⟨g0, g1, g2⟩ := ok3_parts h
  have b0 := okW_bounds g0
  have b1 := okW_bounds g1
  have b2 := okW_bounds g2
  obtain ⟨b00, b01⟩ := b0
  obtain ⟨b10, b11⟩ := b1
  obtain ⟨b20, b21⟩ := b2
  clear h g0 g1 g2
  go_enter Try.func26, Try.ntmps26
  go_wp2_with fail
  exact bodyPost_ret (v := .agg #[.int .i64 (-a0), .int .i64 (-a1), .int .i64 (-a2)]) (by simp [results, Try.results26, go_sem]) rfl ⟨rfl, by repeat (first | with_reducible assumption | with_reducible exact Ext.refl _ | with_reducible refine Ext.drew ?_ | with_reducible refine Ext.drewN ?_ _ | with_reducible refine Ext.alloc ?_ _ | with_reducible refine Ext.set ?_ (by first | exact Nat.le_refl _ | (dsimp only; omega) | (simp; done)) _)⟩

set_option maxHeartbeats 4000000 in
theorem radd_raw (a0 a1 a2 b0 b1 b2 z0 z1 z2 : Int) (w : World)
    (C0 : Hid (∀ w', Calls Try.prog 24 #[.int .i64 a0, .int .i64 b0] w' fun e w'' => e = .returned (.tuple #[.int .i64 (fitR z0).1, .int .i64 (fitR z0).2]) ∧ Ext w' w''))
    (C1 : Hid (∀ w', Calls Try.prog 24 #[.int .i64 a1, .int .i64 b1] w' fun e w'' => e = .returned (.tuple #[.int .i64 (fitR z1).1, .int .i64 (fitR z1).2]) ∧ Ext w' w''))
    (C2 : Hid (∀ w', Calls Try.prog 24 #[.int .i64 a2, .int .i64 b2] w' fun e w'' => e = .returned (.tuple #[.int .i64 (fitR z2).1, .int .i64 (fitR z2).2]) ∧ Ext w' w'')) :
    Calls Try.prog 9 #[.agg #[.int .i64 a0, .int .i64 a1, .int .i64 a2], .agg #[.int .i64 b0, .int .i64 b1, .int .i64 b2]] w fun e w' => e = .returned (vres z0 z1 z2) ∧ Ext w w' := by
  have HT : Hid (∀ w', Calls Try.prog 25 #[.int .i64 (fitR z0).1, .int .i64 (fitR z0).2, .int .i64 (fitR z1).1, .int .i64 (fitR z1).2, .int .i64 (fitR z2).1, .int .i64 (fitR z2).2] w' fun e w'' => e = .returned (vres z0 z1 z2) ∧ Ext w' w'') := three_any z0 z1 z2
  obtain ⟨x, y, z, e, hr⟩ := vres_shape z0 z1 z2
  rw [hr] at HT ⊢
  clear hr
  generalize (fitR z0).1 = o0 at *
  generalize (fitR z0).2 = c0 at *
  generalize (fitR z1).1 = o1 at *
  generalize (fitR z1).2 = c1 at *
  generalize (fitR z2).1 = o2 at *
  generalize (fitR z2).2 = c2 at *
  go_enter Try.func9, Try.ntmps9
  go_wp2_with fail
  refine (C0.out _).mono ?_
  rintro e1 w1 ⟨rfl, x1⟩
  have E1 : Ext w w1 := Ext.trans (Ext.alloc (Ext.alloc (Ext.alloc (Ext.refl _) _) _) _) x1
  have F0_1 : Hid (H3 w1 (w.heap.size) (.int .i64 a0) (.int .i64 a1) (.int .i64 a2)) := (H3.alloc (H3.alloc (h3_at rfl) _) _).ext x1
  obtain ⟨q00, q01, q02, q03, q04, q05, q06⟩ := F0_1.out
  have F1_1 : Hid (H3 w1 (w.heap.size + 1) (.int .i64 b0) (.int .i64 b1) (.int .i64 b2)) := (H3.alloc (h3_at (by simp)) _).ext x1
  obtain ⟨q10, q11, q12, q13, q14, q15, q16⟩ := F1_1.out
  have F2_1 : Hid (H3 w1 (w.heap.size + 1 + 1) (.int .i64 0) (.int .i64 0) (.int .i64 0)) := (h3_at (by simp)).ext x1
  obtain ⟨q20, q21, q22, q23, q24, q25, q26⟩ := F2_1.out
  go_wp2_with fail
  refine (C1.out _).mono ?_
  rintro e2 w2 ⟨rfl, x2⟩
  have E2 : Ext w w2 := Ext.trans (E1) x2
  have F0_2 : Hid (H3 w2 (w.heap.size) (.int .i64 a0) (.int .i64 a1) (.int .i64 a2)) := (F0_1.out).ext x2
  obtain ⟨q00, q01, q02, q03, q04, q05, q06⟩ := F0_2.out
  have F1_2 : Hid (H3 w2 (w.heap.size + 1) (.int .i64 b0) (.int .i64 b1) (.int .i64 b2)) := (F1_1.out).ext x2
  obtain ⟨q10, q11, q12, q13, q14, q15, q16⟩ := F1_2.out
  have F2_2 : Hid (H3 w2 (w.heap.size + 1 + 1) (.int .i64 0) (.int .i64 0) (.int .i64 0)) := (F2_1.out).ext x2
  obtain ⟨q20, q21, q22, q23, q24, q25, q26⟩ := F2_2.out
  go_wp2_with fail
  refine (C2.out _).mono ?_
  rintro e3 w3 ⟨rfl, x3⟩
  have E3 : Ext w w3 := Ext.trans (E2) x3
  have F0_3 : Hid (H3 w3 (w.heap.size) (.int .i64 a0) (.int .i64 a1) (.int .i64 a2)) := (F0_2.out).ext x3
  obtain ⟨q00, q01, q02, q03, q04, q05, q06⟩ := F0_3.out
  have F1_3 : Hid (H3 w3 (w.heap.size + 1) (.int .i64 b0) (.int .i64 b1) (.int .i64 b2)) := (F1_2.out).ext x3
  obtain ⟨q10, q11, q12, q13, q14, q15, q16⟩ := F1_3.out
  have F2_3 : Hid (H3 w3 (w.heap.size + 1 + 1) (.int .i64 0) (.int .i64 0) (.int .i64 0)) := (F2_2.out).ext x3
  obtain ⟨q20, q21, q22, q23, q24, q25, q26⟩ := F2_3.out
  go_wp2_with fail
  refine (HT.out _).mono ?_
  rintro e4 w4 ⟨rfl, x4⟩
  have E4 : Ext w w4 := Ext.trans (E3) x4
  have F0_4 : Hid (H3 w4 (w.heap.size) (.int .i64 a0) (.int .i64 a1) (.int .i64 a2)) := (F0_3.out).ext x4
  obtain ⟨q00, q01, q02, q03, q04, q05, q06⟩ := F0_4.out
  have F1_4 : Hid (H3 w4 (w.heap.size + 1) (.int .i64 b0) (.int .i64 b1) (.int .i64 b2)) := (F1_3.out).ext x4
  obtain ⟨q10, q11, q12, q13, q14, q15, q16⟩ := F1_4.out
  have F2_4 : Hid (H3 w4 (w.heap.size + 1 + 1) (.int .i64 0) (.int .i64 0) (.int .i64 0)) := (F2_3.out).ext x4
  obtain ⟨q20, q21, q22, q23, q24, q25, q26⟩ := F2_4.out
  go_wp2_with fail
  exact bodyPost_ret (v := .tuple #[.agg #[.int .i64 x, .int .i64 y, .int .i64 z], .int .i64 e]) (by simp [results, Try.results9, go_sem, q20, q21, q22]) rfl ⟨rfl, by repeat (first | with_reducible assumption | with_reducible exact Ext.refl _ | with_reducible refine Ext.drew ?_ | with_reducible refine Ext.drewN ?_ _ | with_reducible refine Ext.alloc ?_ _ | with_reducible refine Ext.set ?_ (by first | exact Nat.le_refl _ | (dsimp only; omega) | (simp; done)) _)⟩

set_option maxHeartbeats 4000000 in
theorem rscale_raw (a0 a1 a2 k z0 z1 z2 : Int) (w : World)
    (C0 : Hid (∀ w', Calls Try.prog 35 #[.int .i64 a0, .int .i64 k] w' fun e w'' => e = .returned (.tuple #[.int .i64 (fitR z0).1, .int .i64 (fitR z0).2]) ∧ Ext w' w''))
    (C1 : Hid (∀ w', Calls Try.prog 35 #[.int .i64 a1, .int .i64 k] w' fun e w'' => e = .returned (.tuple #[.int .i64 (fitR z1).1, .int .i64 (fitR z1).2]) ∧ Ext w' w''))
    (C2 : Hid (∀ w', Calls Try.prog 35 #[.int .i64 a2, .int .i64 k] w' fun e w'' => e = .returned (.tuple #[.int .i64 (fitR z2).1, .int .i64 (fitR z2).2]) ∧ Ext w' w'')) :
    Calls Try.prog 19 #[.agg #[.int .i64 a0, .int .i64 a1, .int .i64 a2], .int .i64 k] w fun e w' => e = .returned (vres z0 z1 z2) ∧ Ext w w' := by
  have HT : Hid (∀ w', Calls Try.prog 25 #[.int .i64 (fitR z0).1, .int .i64 (fitR z0).2, .int .i64 (fitR z1).1, .int .i64 (fitR z1).2, .int .i64 (fitR z2).1, .int .i64 (fitR z2).2] w' fun e w'' => e = .returned (vres z0 z1 z2) ∧ Ext w' w'') := three_any z0 z1 z2
  obtain ⟨x, y, z, e, hr⟩ := vres_shape z0 z1 z2
  rw [hr] at HT ⊢
  clear hr
  generalize (fitR z0).1 = o0 at *
  generalize (fitR z0).2 = c0 at *
  generalize (fitR z1).1 = o1 at *
  generalize (fitR z1).2 = c1 at *
  generalize (fitR z2).1 = o2 at *
  generalize (fitR z2).2 = c2 at *
  go_enter Try.func19, Try.ntmps19
  go_wp2_with fail
  refine (C0.out _).mono ?_
  rintro e1 w1 ⟨rfl, x1⟩
  have E1 : Ext w w1 := Ext.trans (Ext.alloc (Ext.alloc (Ext.refl _) _) _) x1
  have F0_1 : Hid (H3 w1 (w.heap.size) (.int .i64 a0) (.int .i64 a1) (.int .i64 a2)) := (H3.alloc (h3_at rfl) _).ext x1
  obtain ⟨q00, q01, q02, q03, q04, q05, q06⟩ := F0_1.out
  have F1_1 : Hid (H3 w1 (w.heap.size + 1) (.int .i64 0) (.int .i64 0) (.int .i64 0)) := (h3_at (by simp)).ext x1
  obtain ⟨q10, q11, q12, q13, q14, q15, q16⟩ := F1_1.out
  go_wp2_with fail
  refine (C1.out _).mono ?_
  rintro e2 w2 ⟨rfl, x2⟩
  have E2 : Ext w w2 := Ext.trans (E1) x2
  have F0_2 : Hid (H3 w2 (w.heap.size) (.int .i64 a0) (.int .i64 a1) (.int .i64 a2)) := (F0_1.out).ext x2
  obtain ⟨q00, q01, q02, q03, q04, q05, q06⟩ := F0_2.out
  have F1_2 : Hid (H3 w2 (w.heap.size + 1) (.int .i64 0) (.int .i64 0) (.int .i64 0)) := (F1_1.out).ext x2
  obtain ⟨q10, q11, q12, q13, q14, q15, q16⟩ := F1_2.out
  go_wp2_with fail
  refine (C2.out _).mono ?_
  rintro e3 w3 ⟨rfl, x3⟩
  have E3 : Ext w w3 := Ext.trans (E2) x3
  have F0_3 : Hid (H3 w3 (w.heap.size) (.int .i64 a0) (.int .i64 a1) (.int .i64 a2)) := (F0_2.out).ext x3
  obtain ⟨q00, q01, q02, q03, q04, q05, q06⟩ := F0_3.out
  have F1_3 : Hid (H3 w3 (w.heap.size + 1) (.int .i64 0) (.int .i64 0) (.int .i64 0)) := (F1_2.out).ext x3
  obtain ⟨q10, q11, q12, q13, q14, q15, q16⟩ := F1_3.out
  go_wp2_with fail
  refine (HT.out _).mono ?_
  rintro e4 w4 ⟨rfl, x4⟩
  have E4 : Ext w w4 := Ext.trans (E3) x4
  have F0_4 : Hid (H3 w4 (w.heap.size) (.int .i64 a0) (.int .i64 a1) (.int .i64 a2)) := (F0_3.out).ext x4
  obtain ⟨q00, q01, q02, q03, q04, q05, q06⟩ := F0_4.out
  have F1_4 : Hid (H3 w4 (w.heap.size + 1) (.int .i64 0) (.int .i64 0) (.int .i64 0)) := (F1_3.out).ext x4
  obtain ⟨q10, q11, q12, q13, q14, q15, q16⟩ := F1_4.out
  go_wp2_with fail
  exact bodyPost_ret (v := .tuple #[.agg #[.int .i64 x, .int .i64 y, .int .i64 z], .int .i64 e]) (by simp [results, Try.results19, go_sem, q10, q11, q12]) rfl ⟨rfl, by repeat (first | with_reducible assumption | with_reducible exact Ext.refl _ | with_reducible refine Ext.drew ?_ | with_reducible refine Ext.drewN ?_ _ | with_reducible refine Ext.alloc ?_ _ | with_reducible refine Ext.set ?_ (by first | exact Nat.le_refl _ | (dsimp only; omega) | (simp; done)) _)⟩

theorem radd_any (a0 a1 a2 b0 b1 b2 : Int) (w : World) (h1 : ok3 a0 a1 a2 = true) (h2 : ok3 b0 b1 b2 = true) :
    Calls Try.prog 9 #[.agg #[.int .i64 a0, .int .i64 a1, .int .i64 a2], .agg #[.int .i64 b0, .int .i64 b1, .int .i64 b2]] w fun e w' => e = .returned (vres (a0 + b0) (a1 + b1) (a2 + b2)) ∧ Ext w w' := by
  obtain ⟨g0, g1, g2⟩ := ok3_parts h1
  obtain ⟨k0, k1, k2⟩ := ok3_parts h2
  exact radd_raw a0 a1 a2 b0 b1 b2 _ _ _ w (fun w' => refadd_any a0 b0 w' (word64 g0).1 (word64 g0).2 (word64 k0).1 (word64 k0).2) (fun w' => refadd_any a1 b1 w' (word64 g1).1 (word64 g1).2 (word64 k1).1 (word64 k1).2) (fun w' => refadd_any a2 b2 w' (word64 g2).1 (word64 g2).2 (word64 k2).1 (word64 k2).2)
theorem rscale_any (a0 a1 a2 k : Int) (w : World) (h1 : ok3 a0 a1 a2 = true) (h2 : okW k = true) :
    Calls Try.prog 19 #[.agg #[.int .i64 a0, .int .i64 a1, .int .i64 a2], .int .i64 k] w fun e w' => e = .returned (vres (nearQ (a0 * k)) (nearQ (a1 * k)) (nearQ (a2 * k))) ∧ Ext w w' := by
  obtain ⟨g0, g1, g2⟩ := ok3_parts h1
  exact rscale_raw a0 a1 a2 k _ _ _ w (fun w' => refmul_any a0 k _ w' (word64 g0).1 (word64 g0).2 (word64 h2).1 (word64 h2).2 (nearQ_spec _)) (fun w' => refmul_any a1 k _ w' (word64 g1).1 (word64 g1).2 (word64 h2).1 (word64 h2).2 (nearQ_spec _)) (fun w' => refmul_any a2 k _ w' (word64 g2).1 (word64 g2).2 (word64 h2).1 (word64 h2).2 (nearQ_spec _))

set_option maxHeartbeats 4000000 in
theorem rsub_raw (a0 a1 a2 b0 b1 b2 n0 n1 n2 x y z e : Int) (w : World)
    (HN : Hid (∀ w', Calls Try.prog 26 #[.agg #[.int .i64 b0, .int .i64 b1, .int .i64 b2]] w' fun e' w'' => e' = .returned (.agg #[.int .i64 n0, .int .i64 n1, .int .i64 n2]) ∧ Ext w' w''))
    (HP : Hid (∀ w', Calls Try.prog 9 #[.agg #[.int .i64 a0, .int .i64 a1, .int .i64 a2], .agg #[.int .i64 n0, .int .i64 n1, .int .i64 n2]] w' fun e' w'' => e' = .returned (.tuple #[.agg #[.int .i64 x, .int .i64 y, .int .i64 z], .int .i64 e]) ∧ Ext w' w'')) :
    Calls Try.prog 10 #[.agg #[.int .i64 a0, .int .i64 a1, .int .i64 a2], .agg #[.int .i64 b0, .int .i64 b1, .int .i64 b2]] w fun e' w' => e' = .returned (.tuple #[.agg #[.int .i64 x, .int .i64 y, .int .i64 z], .int .i64 e]) ∧ Ext w w' := by
  have PB : Hid (H3 (((w.alloc (.cells #[.int .i64 a0, .int .i64 a1, .int .i64 a2] 24)).alloc (.cells #[.int .i64 b0, .int .i64 b1, .int .i64 b2] 24)).alloc (.cells #[.int .i64 0, .int .i64 0, .int .i64 0] 24)).drew w.heap.size (.int .i64 a0) (.int .i64 a1) (.int .i64 a2)) := H3.drew (H3.alloc (H3.alloc (h3_at rfl) _) _)
  have RB : Hid (H3 (((w.alloc (.cells #[.int .i64 a0, .int .i64 a1, .int .i64 a2] 24)).alloc (.cells #[.int .i64 b0, .int .i64 b1, .int .i64 b2] 24)).alloc (.cells #[.int .i64 0, .int .i64 0, .int .i64 0] 24)).drew (w.heap.size + 1 + 1) (.int .i64 0) (.int .i64 0) (.int .i64 0)) := H3.drew (h3_at (by simp))
  have y0 : Ext (((w.alloc (.cells #[.int .i64 a0, .int .i64 a1, .int .i64 a2] 24)).alloc (.cells #[.int .i64 b0, .int .i64 b1, .int .i64 b2] 24)).alloc (.cells #[.int .i64 0, .int .i64 0, .int .i64 0] 24)).drew (((w.alloc (.cells #[.int .i64 a0, .int .i64 a1, .int .i64 a2] 24)).alloc (.cells #[.int .i64 b0, .int .i64 b1, .int .i64 b2] 24)).alloc (.cells #[.int .i64 0, .int .i64 0, .int .i64 0] 24)).drew := Ext.refl _
  have E0 : Ext w (((w.alloc (.cells #[.int .i64 a0, .int .i64 a1, .int .i64 a2] 24)).alloc (.cells #[.int .i64 b0, .int .i64 b1, .int .i64 b2] 24)).alloc (.cells #[.int .i64 0, .int .i64 0, .int .i64 0] 24)).drew := ((((Ext.refl _).alloc _).alloc _).alloc _).drew
  go_enter Try.func10, Try.ntmps10
  go_wp2_with fail
  go_region_with (first | (go_at_call 26; refine (HN.out _).mono ?_; rintro e wN ⟨rfl, xN⟩; have yN : Ext (((w.alloc (.cells #[.int .i64 a0, .int .i64 a1, .int .i64 a2] 24)).alloc (.cells #[.int .i64 b0, .int .i64 b1, .int .i64 b2] 24)).alloc (.cells #[.int .i64 0, .int .i64 0, .int .i64 0] 24)).drew wN := Ext.trans (by with_reducible assumption) xN; obtain ⟨p0, p1, p2, p3, p4, p5, p6⟩ := PB.out.ext yN; obtain ⟨m0, m1, m2, m3, m4, m5, m6⟩ := RB.out.ext yN) | (go_at_call 9; refine (HP.out _).mono ?_; rintro e wP ⟨rfl, xP⟩; have yP : Ext (((w.alloc (.cells #[.int .i64 a0, .int .i64 a1, .int .i64 a2] 24)).alloc (.cells #[.int .i64 b0, .int .i64 b1, .int .i64 b2] 24)).alloc (.cells #[.int .i64 0, .int .i64 0, .int .i64 0] 24)).drew wP := Ext.trans (by with_reducible assumption) xP; obtain ⟨p0, p1, p2, p3, p4, p5, p6⟩ := PB.out.ext yP; obtain ⟨m0, m1, m2, m3, m4, m5, m6⟩ := RB.out.ext yP))
  all_goals
    have E8 : Ext w wP := E0.trans yP
    clear y0 E0 yP
    go_wp2_with fail
    exact bodyPost_ret (v := .tuple #[.agg #[.int .i64 x, .int .i64 y, .int .i64 z], .int .i64 e]) (by simp [results, Try.results10, go_sem, m0, m1, m2]) rfl ⟨rfl, by repeat (first | with_reducible assumption | with_reducible exact Ext.refl _ | with_reducible refine Ext.drew ?_ | with_reducible refine Ext.drewN ?_ _ | with_reducible refine Ext.alloc ?_ _ | with_reducible refine Ext.set ?_ (by first | exact Nat.le_refl _ | (dsimp only; omega) | (simp; done)) _)⟩
theorem ok3_negs {a b c : Int} (h : ok3 a b c = true) : ok3 (-a) (-b) (-c) = true := by
  obtain ⟨h0, h1, h2⟩ := ok3_parts h
  have n : ∀ b, okW b = true → okW (-b) = true := fun b h => by have := okW_bounds h; unfold okW; simp; omega
  unfold ok3; rw [n _ h0, n _ h1, n _ h2]; rfl
theorem rsub_any (a0 a1 a2 b0 b1 b2 : Int) (w : World) (h1 : ok3 a0 a1 a2 = true) (h2 : ok3 b0 b1 b2 = true) :
    Calls Try.prog 10 #[.agg #[.int .i64 a0, .int .i64 a1, .int .i64 a2], .agg #[.int .i64 b0, .int .i64 b1, .int .i64 b2]] w fun e w' => e = .returned (vres (a0 - b0) (a1 - b1) (a2 - b2)) ∧ Ext w w' := by
  have hp := fun w' => radd_any a0 a1 a2 (-b0) (-b1) (-b2) w' h1 (ok3_negs h2)
  rw [← Int.sub_eq_add_neg, ← Int.sub_eq_add_neg, ← Int.sub_eq_add_neg] at hp
  obtain ⟨x, y, z, e, hr⟩ := vres_shape (a0 - b0) (a1 - b1) (a2 - b2)
  rw [hr] at hp ⊢
  exact rsub_raw a0 a1 a2 b0 b1 b2 _ _ _ x y z e w (fun w' => rneg_any b0 b1 b2 w' h2) hp
end Go.Proofs.Ytbmodfhnenlmgaa

namespace Go.Proofs.Ytbmodfhnenlmgaa
open Go.RowKit Go.Shelf

theorem fit_i64 {a : Int} (h : okW a = true) : Fit 64 a := fit_word a (word64 h).1 (word64 h).2
set_option maxHeartbeats 2000000 in
theorem rless_any (a b c d : Int) (w : World) (ha : okW a = true) (hb : okW b = true) (hc : okW c = true) (hd : okW d = true) :
    Calls Try.prog 32 #[.int .i64 a, .int .i64 b, .int .i64 c, .int .i64 d] w fun e w' => (∃ r, e = .returned r ∧ IsI w' r (a * b - c * d)) ∧ Ext w w' := by
  have fab : Fit 128 (a * b) := (fit_i64 ha).mul (fit_i64 hb)
  have fcd : Fit 128 (c * d) := (fit_i64 hc).mul (fit_i64 hd)
  have p1 := prod_abs ha hb
  have p2 := prod_abs hc hd
  have fs : Fit 129 (a * b - c * d) := by
    unfold Fit
    have e : (2 : Nat) ^ 129 = 680564733841876926926749214863536422912 := by decide
    omega
  have HA : Hid (∀ w', Calls Try.prog 54 #[.int .i64 a, .int .i64 b] w' fun e w'' => (∃ r, e = .returned r ∧ IsI w'' r (a * b)) ∧ Ext w' w'') := fun w' => prod_any a b w' (word64 ha).1 (word64 ha).2 (word64 hb).1 (word64 hb).2
  have HB : Hid (∀ w', Calls Try.prog 54 #[.int .i64 c, .int .i64 d] w' fun e w'' => (∃ r, e = .returned r ∧ IsI w'' r (c * d)) ∧ Ext w' w'') := fun w' => prod_any c d w' (word64 hc).1 (word64 hc).2 (word64 hd).1 (word64 hd).2
  have HT : Hid (∀ r1 r2 w', IsI w' r1 (a * b) → IsI w' r2 (c * d) → Calls Try.prog 53 #[r1, r2] w' fun e w'' => (∃ r', e = .returned r' ∧ IsI w'' r' (a * b - c * d)) ∧ Ext w' w'') := fun r1 r2 w' hr1 hr2 => less_isI _ _ r1 r2 w' hr1 hr2 (fab.small (by omega)) (fcd.small (by omega)) (fs.small (by omega))
  clear fab fcd fs p1 p2 ha hb hc hd
  generalize a * b = P1 at *
  generalize c * d = P2 at *
  generalize P1 - P2 = P at *
  have XS : Hid (Ext w (w.alloc (.cells #[.bool false, .slice none 0 0] 62))) := (Ext.refl _).alloc _
  have BS : Hid (Has (w.alloc (.cells #[.bool false, .slice none 0 0] 62)) w.heap.size (.bool false) (.slice none 0 0)) := ext_new1 (Ext.refl _)
  go_enter Try.func32, Try.ntmps32
  go_wp2_with fail
  generalize w.alloc (.cells #[.bool false, .slice none 0 0] 62) = W at *
  refine (HA.out _).mono ?_
  rintro e w1 ⟨⟨r1, rfl, hr1⟩, x1⟩
  go_wp2_with fail
  refine (HB.out _).mono ?_
  rintro e w2 ⟨⟨r2, rfl, hr2⟩, x2⟩
  go_wp2_with fail
  refine (HT.out _ _ _ (hr1.ext x2) hr2).mono ?_
  rintro e w3 ⟨⟨r3, rfl, hr3⟩, x3⟩
  obtain ⟨t0, t1, t2, t3⟩ := BS.out.ext ((x1.trans x2).trans x3)
  obtain ⟨u, hu, hk⟩ := hr3
  obtain ⟨au, lu, cu, hau⟩ := hk.isSlice
  subst hau
  subst hu
  have X3 : Hid (Ext w w3) := XS.out.trans ((x1.trans x2).trans x3)
  have HI : Hid (IsI w3 (.agg #[.bool (decide (P < 0)), .slice au lu cu]) P) := ⟨_, rfl, hk⟩
  clear hk x1 x2 x3 hr1 hr2
  go_wp2_with fail
  exact bodyPost_ret (v := .agg #[.bool (decide (P < 0)), .slice au lu cu]) (by simp [results, Try.results32, go_sem, t0, t1]) rfl ⟨⟨_, rfl, HI.out.set2 t0 t1⟩, (X3.out.setCell (Nat.le_refl _) _).setCell (Nat.le_refl _) _⟩
theorem nearQ_word (x : Int) (r : Value) (w : World) (h : IsI w r x) (f : Fit 200 x) :
    Calls Try.prog 31 #[r] w fun e w' => e = .returned (.tuple #[.int .i64 (fitR (nearQ x)).1, .int .i64 (fitR (nearQ x)).2]) ∧ Ext w w' := nearq_any x (nearQ x) 200 r w h (by omega) (by omega) f (nearQ_spec x)

set_option maxHeartbeats 8000000 in
theorem rcross_raw (a0 a1 a2 b0 b1 b2 d0 d1 d2 z0 z1 z2 : Int) (w : World)
    (L0 : Hid (∀ w', Calls Try.prog 32 #[.int .i64 a1, .int .i64 b2, .int .i64 a2, .int .i64 b1] w' fun e w'' => (∃ r, e = .returned r ∧ IsI w'' r d0) ∧ Ext w' w''))
    (N0 : Hid (∀ r w', IsI w' r d0 → Calls Try.prog 31 #[r] w' fun e w'' => e = .returned (.tuple #[.int .i64 (fitR z0).1, .int .i64 (fitR z0).2]) ∧ Ext w' w''))
    (L1 : Hid (∀ w', Calls Try.prog 32 #[.int .i64 a2, .int .i64 b0, .int .i64 a0, .int .i64 b2] w' fun e w'' => (∃ r, e = .returned r ∧ IsI w'' r d1) ∧ Ext w' w''))
    (N1 : Hid (∀ r w', IsI w' r d1 → Calls Try.prog 31 #[r] w' fun e w'' => e = .returned (.tuple #[.int .i64 (fitR z1).1, .int .i64 (fitR z1).2]) ∧ Ext w' w''))
    (L2 : Hid (∀ w', Calls Try.prog 32 #[.int .i64 a0, .int .i64 b1, .int .i64 a1, .int .i64 b0] w' fun e w'' => (∃ r, e = .returned r ∧ IsI w'' r d2) ∧ Ext w' w''))
    (N2 : Hid (∀ r w', IsI w' r d2 → Calls Try.prog 31 #[r] w' fun e w'' => e = .returned (.tuple #[.int .i64 (fitR z2).1, .int .i64 (fitR z2).2]) ∧ Ext w' w'')) :
    Calls Try.prog 14 #[.agg #[.int .i64 a0, .int .i64 a1, .int .i64 a2], .agg #[.int .i64 b0, .int .i64 b1, .int .i64 b2]] w fun e w' => e = .returned (vres z0 z1 z2) ∧ Ext w w' := by
  have HT : Hid (∀ w', Calls Try.prog 25 #[.int .i64 (fitR z0).1, .int .i64 (fitR z0).2, .int .i64 (fitR z1).1, .int .i64 (fitR z1).2, .int .i64 (fitR z2).1, .int .i64 (fitR z2).2] w' fun e w'' => e = .returned (vres z0 z1 z2) ∧ Ext w' w'') := three_any z0 z1 z2
  obtain ⟨x, y, z, e, hr⟩ := vres_shape z0 z1 z2
  rw [hr] at HT ⊢
  clear hr
  generalize (fitR z0).1 = o0 at *
  generalize (fitR z0).2 = c0 at *
  generalize (fitR z1).1 = o1 at *
  generalize (fitR z1).2 = c1 at *
  generalize (fitR z2).1 = o2 at *
  generalize (fitR z2).2 = c2 at *
  go_enter Try.func14, Try.ntmps14
  go_wp2_with fail
  refine (L0.out _).mono ?_
  rintro e1 w1 ⟨⟨u1, rfl, hu1⟩, x1⟩
  have E1 : Ext w w1 := Ext.trans (Ext.alloc (Ext.alloc (Ext.alloc (Ext.refl _) _) _) _) x1
  have F0_1 : Hid (H3 w1 (w.heap.size) (.int .i64 a0) (.int .i64 a1) (.int .i64 a2)) := (H3.alloc (H3.alloc (h3_at rfl) _) _).ext x1
  obtain ⟨q00, q01, q02, q03, q04, q05, q06⟩ := F0_1.out
  have F1_1 : Hid (H3 w1 (w.heap.size + 1) (.int .i64 b0) (.int .i64 b1) (.int .i64 b2)) := (H3.alloc (h3_at (by simp)) _).ext x1
  obtain ⟨q10, q11, q12, q13, q14, q15, q16⟩ := F1_1.out
  have F2_1 : Hid (H3 w1 (w.heap.size + 1 + 1) (.int .i64 0) (.int .i64 0) (.int .i64 0)) := (h3_at (by simp)).ext x1
  obtain ⟨q20, q21, q22, q23, q24, q25, q26⟩ := F2_1.out
  go_wp2_with fail
  refine (N0.out _ _ hu1).mono ?_
  rintro e2 w2 ⟨rfl, x2⟩
  have E2 : Ext w w2 := Ext.trans (E1) x2
  have F0_2 : Hid (H3 w2 (w.heap.size) (.int .i64 a0) (.int .i64 a1) (.int .i64 a2)) := (F0_1.out).ext x2
  obtain ⟨q00, q01, q02, q03, q04, q05, q06⟩ := F0_2.out
  have F1_2 : Hid (H3 w2 (w.heap.size + 1) (.int .i64 b0) (.int .i64 b1) (.int .i64 b2)) := (F1_1.out).ext x2
  obtain ⟨q10, q11, q12, q13, q14, q15, q16⟩ := F1_2.out
  have F2_2 : Hid (H3 w2 (w.heap.size + 1 + 1) (.int .i64 0) (.int .i64 0) (.int .i64 0)) := (F2_1.out).ext x2
  obtain ⟨q20, q21, q22, q23, q24, q25, q26⟩ := F2_2.out
  go_wp2_with fail
  refine (L1.out _).mono ?_
  rintro e3 w3 ⟨⟨u3, rfl, hu3⟩, x3⟩
  have E3 : Ext w w3 := Ext.trans (E2) x3
  have F0_3 : Hid (H3 w3 (w.heap.size) (.int .i64 a0) (.int .i64 a1) (.int .i64 a2)) := (F0_2.out).ext x3
  obtain ⟨q00, q01, q02, q03, q04, q05, q06⟩ := F0_3.out
  have F1_3 : Hid (H3 w3 (w.heap.size + 1) (.int .i64 b0) (.int .i64 b1) (.int .i64 b2)) := (F1_2.out).ext x3
  obtain ⟨q10, q11, q12, q13, q14, q15, q16⟩ := F1_3.out
  have F2_3 : Hid (H3 w3 (w.heap.size + 1 + 1) (.int .i64 0) (.int .i64 0) (.int .i64 0)) := (F2_2.out).ext x3
  obtain ⟨q20, q21, q22, q23, q24, q25, q26⟩ := F2_3.out
  go_wp2_with fail
  refine (N1.out _ _ hu3).mono ?_
  rintro e4 w4 ⟨rfl, x4⟩
  have E4 : Ext w w4 := Ext.trans (E3) x4
  have F0_4 : Hid (H3 w4 (w.heap.size) (.int .i64 a0) (.int .i64 a1) (.int .i64 a2)) := (F0_3.out).ext x4
  obtain ⟨q00, q01, q02, q03, q04, q05, q06⟩ := F0_4.out
  have F1_4 : Hid (H3 w4 (w.heap.size + 1) (.int .i64 b0) (.int .i64 b1) (.int .i64 b2)) := (F1_3.out).ext x4
  obtain ⟨q10, q11, q12, q13, q14, q15, q16⟩ := F1_4.out
  have F2_4 : Hid (H3 w4 (w.heap.size + 1 + 1) (.int .i64 0) (.int .i64 0) (.int .i64 0)) := (F2_3.out).ext x4
  obtain ⟨q20, q21, q22, q23, q24, q25, q26⟩ := F2_4.out
  go_wp2_with fail
  refine (L2.out _).mono ?_
  rintro e5 w5 ⟨⟨u5, rfl, hu5⟩, x5⟩
  have E5 : Ext w w5 := Ext.trans (E4) x5
  have F0_5 : Hid (H3 w5 (w.heap.size) (.int .i64 a0) (.int .i64 a1) (.int .i64 a2)) := (F0_4.out).ext x5
  obtain ⟨q00, q01, q02, q03, q04, q05, q06⟩ := F0_5.out
  have F1_5 : Hid (H3 w5 (w.heap.size + 1) (.int .i64 b0) (.int .i64 b1) (.int .i64 b2)) := (F1_4.out).ext x5
  obtain ⟨q10, q11, q12, q13, q14, q15, q16⟩ := F1_5.out
  have F2_5 : Hid (H3 w5 (w.heap.size + 1 + 1) (.int .i64 0) (.int .i64 0) (.int .i64 0)) := (F2_4.out).ext x5
  obtain ⟨q20, q21, q22, q23, q24, q25, q26⟩ := F2_5.out
  go_wp2_with fail
  refine (N2.out _ _ hu5).mono ?_
  rintro e6 w6 ⟨rfl, x6⟩
  have E6 : Ext w w6 := Ext.trans (E5) x6
  have F0_6 : Hid (H3 w6 (w.heap.size) (.int .i64 a0) (.int .i64 a1) (.int .i64 a2)) := (F0_5.out).ext x6
  obtain ⟨q00, q01, q02, q03, q04, q05, q06⟩ := F0_6.out
  have F1_6 : Hid (H3 w6 (w.heap.size + 1) (.int .i64 b0) (.int .i64 b1) (.int .i64 b2)) := (F1_5.out).ext x6
  obtain ⟨q10, q11, q12, q13, q14, q15, q16⟩ := F1_6.out
  have F2_6 : Hid (H3 w6 (w.heap.size + 1 + 1) (.int .i64 0) (.int .i64 0) (.int .i64 0)) := (F2_5.out).ext x6
  obtain ⟨q20, q21, q22, q23, q24, q25, q26⟩ := F2_6.out
  go_wp2_with fail
  refine (HT.out _).mono ?_
  rintro e7 w7 ⟨rfl, x7⟩
  have E7 : Ext w w7 := Ext.trans (E6) x7
  have F0_7 : Hid (H3 w7 (w.heap.size) (.int .i64 a0) (.int .i64 a1) (.int .i64 a2)) := (F0_6.out).ext x7
  obtain ⟨q00, q01, q02, q03, q04, q05, q06⟩ := F0_7.out
  have F1_7 : Hid (H3 w7 (w.heap.size + 1) (.int .i64 b0) (.int .i64 b1) (.int .i64 b2)) := (F1_6.out).ext x7
  obtain ⟨q10, q11, q12, q13, q14, q15, q16⟩ := F1_7.out
  have F2_7 : Hid (H3 w7 (w.heap.size + 1 + 1) (.int .i64 0) (.int .i64 0) (.int .i64 0)) := (F2_6.out).ext x7
  obtain ⟨q20, q21, q22, q23, q24, q25, q26⟩ := F2_7.out
  go_wp2_with fail
  exact bodyPost_ret (v := .tuple #[.agg #[.int .i64 x, .int .i64 y, .int .i64 z], .int .i64 e]) (by simp [results, Try.results14, go_sem, q20, q21, q22]) rfl ⟨rfl, by repeat (first | with_reducible assumption | with_reducible exact Ext.refl _ | with_reducible refine Ext.drew ?_ | with_reducible refine Ext.drewN ?_ _ | with_reducible refine Ext.alloc ?_ _ | with_reducible refine Ext.set ?_ (by first | exact Nat.le_refl _ | (dsimp only; omega) | (simp; done)) _)⟩

theorem rcross_any (a0 a1 a2 b0 b1 b2 : Int) (w : World) (h1 : ok3 a0 a1 a2 = true) (h2 : ok3 b0 b1 b2 = true) :
    Calls Try.prog 14 #[.agg #[.int .i64 a0, .int .i64 a1, .int .i64 a2], .agg #[.int .i64 b0, .int .i64 b1, .int .i64 b2]] w fun e w' => e = .returned (vres (nearQ (a1 * b2 - a2 * b1)) (nearQ (a2 * b0 - a0 * b2)) (nearQ (a0 * b1 - a1 * b0))) ∧ Ext w w' := by
  obtain ⟨g0, g1, g2⟩ := ok3_parts h1
  obtain ⟨k0, k1, k2⟩ := ok3_parts h2
  have f : ∀ a b c d : Int, okW a = true → okW b = true → okW c = true → okW d = true → Fit 200 (a * b - c * d) := fun a b c d ha hb hc hd => by
    have p1 := prod_abs ha hb
    have p2 := prod_abs hc hd
    unfold Fit
    have e : (2 : Nat) ^ 200 = 1606938044258990275541962092341162602522202993782792835301376 := by decide
    omega
  exact rcross_raw a0 a1 a2 b0 b1 b2 _ _ _ _ _ _ w (fun w' => rless_any a1 b2 a2 b1 w' g1 k2 g2 k1) (fun r w' hr => nearQ_word _ r w' hr (f _ _ _ _ g1 k2 g2 k1)) (fun w' => rless_any a2 b0 a0 b2 w' g2 k0 g0 k2) (fun r w' hr => nearQ_word _ r w' hr (f _ _ _ _ g2 k0 g0 k2)) (fun w' => rless_any a0 b1 a1 b0 w' g0 k1 g1 k0) (fun r w' hr => nearQ_word _ r w' hr (f _ _ _ _ g0 k1 g1 k0))
end Go.Proofs.Ytbmodfhnenlmgaa

namespace Go.Proofs.Ytbmodfhnenlmgaa
open Go.RowKit Go.Shelf
theorem vres_is (s0 s1 s2 : Int) : ∃ x y z e : Int, vres s0 s1 s2 = .tuple #[.agg #[.int .i64 x, .int .i64 y, .int .i64 z], .int .i64 e] ∧ (e = 0 ∨ x = 0 ∧ y = 0 ∧ z = 0 ∧ e ≠ 0) := by
  cases h : ok3 s0 s1 s2
  · exact ⟨0, 0, 0, 2, by unfold vres; rw [h]; rfl, .inr ⟨rfl, rfl, rfl, by decide⟩⟩
  · exact ⟨s0, s1, s2, 0, by unfold vres; rw [h]; rfl, .inl rfl⟩
set_option maxHeartbeats 1000000 in
theorem is3_any (x y z e : Int) (w : World) (h : e = 0 ∨ x = 0 ∧ y = 0 ∧ z = 0 ∧ e ≠ 0) :
    Calls Try.prog 11 #[.agg #[.int .i64 x, .int .i64 y, .int .i64 z], .int .i64 e, .agg #[.int .i64 x, .int .i64 y, .int .i64 z], .int .i64 e] w fun e' w' => e' = .returned (.bool true) ∧ Ext w w' := by
  rcases h with rfl | ⟨rfl, rfl, rfl, h⟩
  · go_enter Try.func11, Try.ntmps11
    go_wp2_with (go_at_call 27; refine (num3_any _ _).mono ?_; rintro e wx ⟨rfl, hwx⟩; have hwy := hwx.symm; clear hwx; subst hwy)
    go_ret
    exact ⟨by simp, by repeat (first | with_reducible assumption | with_reducible exact Ext.refl _ | with_reducible refine Ext.drew ?_ | with_reducible refine Ext.drewN ?_ _ | with_reducible refine Ext.alloc ?_ _ | with_reducible refine Ext.set ?_ (by first | exact Nat.le_refl _ | (dsimp only; omega) | (simp; done)) _)⟩
  · have h' : (e != 0) = true := by simpa using h
    clear h
    go_enter Try.func11, Try.ntmps11
    go_wp2_with (go_at_call 27; refine (num3_any _ _).mono ?_; rintro e wx ⟨rfl, hwx⟩; have hwy := hwx.symm; clear hwx; subst hwy)
    go_ret
    exact ⟨by simp, by repeat (first | with_reducible assumption | with_reducible exact Ext.refl _ | with_reducible refine Ext.drew ?_ | with_reducible refine Ext.drewN ?_ _ | with_reducible refine Ext.alloc ?_ _ | with_reducible refine Ext.set ?_ (by first | exact Nat.le_refl _ | (dsimp only; omega) | (simp; done)) _)⟩
end Go.Proofs.Ytbmodfhnenlmgaa
