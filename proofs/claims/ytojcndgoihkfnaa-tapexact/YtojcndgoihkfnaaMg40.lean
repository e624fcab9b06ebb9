/- The reference's whole numbers with a sign: Small; words of them. The reference of layer 1: Near, NearQ, Over, Prod, Mul, Div, Ratio, Add, Sub. -/
import Derived.Test.YtojcndgoihkfnaaRightm
import Derived.Test.YtojcndgoihkfnaaMaym
import Derived.Test.YtojcndgoihkfnaaMg39
namespace Go.Proofs.Ytojcndgoihkfnaa
open Go.RowKit

def smallR (z : Int) : Int × Bool := if -9223372036854775808 ≤ z ∧ z < 9223372036854775808 then (z, true) else (0, false)

theorem big_len (n : Nat) (h : 1 < (Dig.digs 18446744073709551616 n).length) : 18446744073709551616 ≤ n := by
  apply Nat.le_of_not_lt
  intro hlt
  have := Dig.digs_length_le 18446744073709551616 (by omega) n 1 (by simpa using hlt)
  omega
theorem ret_two {a a' b b' : Int} (h : a = a') (k : b = b') : Ending.returned (.tuple #[.int .i64 a, .int .i64 b]) = .returned (.tuple #[.int .i64 a', .int .i64 b']) := by rw [h, k]
theorem ret_pair {a a' : Int} {b b' : Bool} (h : a = a') (k : b = b') : Ending.returned (.tuple #[.int .i64 a, .bool b]) = .returned (.tuple #[.int .i64 a', .bool b']) := by rw [h, k]

set_option maxHeartbeats 2000000 in
theorem small_any (z : Int) (r : Value) (w : World) (h : IsI w r z) (hs : SmallI z) :
    Calls Try.prog 43 #[r] w fun e w' => e = .returned (.tuple #[.int .i64 (smallR z).1, .bool (smallR z).2]) ∧ Ext w w' := by
  obtain ⟨u, rfl, hu⟩ := h
  obtain ⟨a, cap, rfl, gx⟩ := Row.shape hu
  have hz : (Dig.digs 18446744073709551616 z.natAbs).length = 0 → z = 0 := fun h0 => by have := Dig.digs_nil _ z.natAbs (by omega) (List.eq_nil_of_length_eq_zero h0); omega
  have hbig : 1 < (Dig.digs 18446744073709551616 z.natAbs).length → 18446744073709551616 ≤ z.natAbs := big_len _
  have hsm : (Dig.digs 18446744073709551616 z.natAbs).length = 1 → z.natAbs < 18446744073709551616 := fun h1 => by have := (Dig.length_bounds 18446744073709551616 z.natAbs 0 (by omega) h1).2; simpa using this
  have hl' : (Dig.digs 18446744073709551616 z.natAbs).length ≤ 1000 := hs.1
  have hd0 : (Dig.digs 18446744073709551616 z.natAbs).getD 0 0 = z.natAbs % 18446744073709551616 := by rw [Dig.digs_getD _ (by omega), Nat.pow_zero, Nat.div_one]
  clear hu hs
  generalize Dig.digs 18446744073709551616 z.natAbs = xs at *
  obtain ⟨l, hl⟩ : ∃ l, xs.length = l := ⟨_, rfl⟩
  rw [hl] at gx hz hbig hsm hl' ⊢
  by_cases h0 : l = 0
  · have e0 : z = 0 := hz h0
    have e1 : Hid (0 = (smallR z).1) := by show _ = _; rw [e0]; decide
    have e2 : Hid (true = (smallR z).2) := by show _ = _; rw [e0]; decide
    subst h0
    clear hz hl gx hbig hsm e0 hd0
    generalize decide (z < 0) = b at *
    go_enter Try.func43, Try.ntmps43
    go_wp2_with fail
    go_ret2
    exact ⟨ret_pair e1.out e2.out, (Ext.refl _).alloc _⟩
  · obtain ⟨b0, o0, rfl, hcell⟩ := gx (by omega)
    have hc0 := hcell 0 (by omega)
    rw [Nat.add_zero, hd0] at hc0
    have hne : ((l : Int) == 0) = false := by simp; omega
    have XS : Hid (Ext w (w.alloc (.cells #[.bool (decide (z < 0)), .slice (some ⟨b0, o0, none⟩) l cap] 72))) := (Ext.refl _).alloc _
    have hm2 : z.natAbs % 18446744073709551616 < 18446744073709551616 := Nat.mod_lt _ (by omega)
    obtain ⟨M, gM, gM1, gM2⟩ : ∃ M : Int, ((z.natAbs % 18446744073709551616 : Nat) : Int) = M ∧ 0 ≤ M ∧ M < 18446744073709551616 := ⟨_, rfl, by omega, by omega⟩
    rw [gM] at hc0
    have hcw := XS.out.kept hc0
    have hp : (0 : Int) < (l : Int) := by omega
    by_cases h1 : 1 < l
    · have hb := hbig h1
      have e1 : Hid (0 = (smallR z).1) := by show _ = _; unfold smallR; rw [if_neg (by omega)]
      have e2 : Hid (false = (smallR z).2) := by show _ = _; unfold smallR; rw [if_neg (by omega)]
      have hl1 : (1 : Int) < (l : Int) := by omega
      have hl1' : decide ((1 : Int) < (l : Int)) = true := decide_eq_true hl1
      clear hz hl hcell gx hbig hsm hb hm2 gM hd0 hc0 h0 h1
      generalize decide (z < 0) = b at *
      go_enter Try.func43, Try.ntmps43
      go_wp2_with fail
      go_ret2
      exact ⟨ret_pair e1.out e2.out, XS.out⟩
    · obtain rfl : l = 1 := by omega
      have hm := hsm rfl
      have hMz : Hid (M = (z.natAbs : Int)) := by show _ = _; rw [← gM, Nat.mod_eq_of_lt hm]
      by_cases hn : z < 0
      · rw [decide_eq_true hn] at hcw XS ⊢
        by_cases hb : 9223372036854775808 < M
        · have e1 : Hid (0 = (smallR z).1) := by have := hMz.out; show _ = _; unfold smallR; rw [if_neg (by omega)]
          have e2 : Hid (false = (smallR z).2) := by have := hMz.out; show _ = _; unfold smallR; rw [if_neg (by omega)]
          have hb' : decide (9223372036854775808 < M) = true := decide_eq_true hb
          clear hz hl hcell gx hbig hsm hm hm2 gM hd0 hc0 h0 h1 hn
          go_enter Try.func43, Try.ntmps43
          go_wp2_with fail
          go_ret2
          exact ⟨ret_pair e1.out e2.out, XS.out⟩
        · have e1 : Hid (z = (smallR z).1) := by have := hMz.out; show _ = _; unfold smallR; rw [if_pos (by omega)]
          have e2 : Hid (true = (smallR z).2) := by have := hMz.out; show _ = _; unfold smallR; rw [if_pos (by omega)]
          have hb' : decide (9223372036854775808 < M) = false := decide_eq_false hb
          have hv : Hid (IntKind.i64.wrap (IntKind.u64.wrap (0 - M)) = z) := by
            have := hMz.out
            show _ = _
            rw [IntKind.wrap_u64, IntKind.wrap_i64]
            omega
          have hv2 : Hid (wrap64 (IntKind.u64.wrap (-M)) = z) := by
            have := hMz.out
            show _ = _
            rw [IntKind.wrap_u64]
            unfold wrap64
            omega
          clear hz hl hcell gx hbig hsm hm hm2 gM hd0 hc0 h0 h1 hn
          go_enter Try.func43, Try.ntmps43
          go_wp2_with fail
          go_ret2
          exact ⟨ret_pair (by first | exact hv.out.trans e1.out | exact hv2.out.trans e1.out) e2.out, XS.out⟩
      · rw [decide_eq_false hn] at hcw XS ⊢
        by_cases hb : 9223372036854775808 ≤ M
        · have e1 : Hid (0 = (smallR z).1) := by have := hMz.out; show _ = _; unfold smallR; rw [if_neg (by omega)]
          have e2 : Hid (false = (smallR z).2) := by have := hMz.out; show _ = _; unfold smallR; rw [if_neg (by omega)]
          have hb' : decide (9223372036854775808 ≤ M) = true := decide_eq_true hb
          clear hz hl hcell gx hbig hsm hm hm2 gM hd0 hc0 h0 h1 hn
          go_enter Try.func43, Try.ntmps43
          go_wp2_with fail
          go_ret2
          exact ⟨ret_pair e1.out e2.out, XS.out⟩
        · have e1 : Hid (M = (smallR z).1) := by have := hMz.out; show _ = _; unfold smallR; rw [if_pos (by omega)]; show M = z; omega
          have e2 : Hid (true = (smallR z).2) := by have := hMz.out; show _ = _; unfold smallR; rw [if_pos (by omega)]
          have hb' : decide (9223372036854775808 ≤ M) = false := decide_eq_false hb
          have hb2 : M < 9223372036854775808 := by omega
          clear hz hl hcell gx hbig hsm hm hm2 gM hd0 hc0 h0 h1 hn
          go_enter Try.func43, Try.ntmps43
          go_wp2_with fail
          go_ret2
          exact ⟨ret_pair e1.out e2.out, XS.out⟩

def wordR (z : Int) : Int × Int := if okW z then (z, 0) else (0, 2)
set_option maxHeartbeats 2000000 in
theorem word_any (z : Int) (r : Value) (w : World) (h : IsI w r z) (hs : SmallI z) :
    Calls Try.prog 33 #[r] w fun e w' => e = .returned (.tuple #[.int .i64 (wordR z).1, .int .i64 (wordR z).2]) ∧ Ext w w' := by
  have HS : Hid (∀ w', Ext w w' → Calls Try.prog 43 #[r] w' fun e w'' => e = .returned (.tuple #[.int .i64 (smallR z).1, .bool (smallR z).2]) ∧ Ext w' w'') := fun w' hx => small_any z r w' (h.ext hx) hs
  obtain ⟨u, rfl, hu⟩ := h
  obtain ⟨a1, l1, c1, rfl⟩ := hu.isSlice
  clear hu hs
  generalize decide (z < 0) = b at *
  have XS : Hid (Ext w (w.alloc (.cells #[.bool b, .slice a1 l1 c1] 72))) := (Ext.refl _).alloc _
  by_cases hsm : -9223372036854775808 ≤ z ∧ z < 9223372036854775808
  · have e1 : smallR z = (z, true) := by unfold smallR; rw [if_pos hsm]
    rw [e1] at HS
    have HM : Hid (∀ w', Calls Try.prog 23 #[.int .i64 z] w' fun e w'' => e = .returned (.bool (okW z)) ∧ w'' = w') := fun w' => may_any z w'
    by_cases hw : okW z = true
    · rw [hw] at HM
      have e2 : Hid (z = (wordR z).1) := by show _ = _; unfold wordR; rw [if_pos hw]
      have e3 : Hid (0 = (wordR z).2) := by show _ = _; unfold wordR; rw [if_pos hw]
      clear e1 hw hsm
      go_enter Try.func33, Try.ntmps33
      go_wp2_with fail
      refine (HS.out _ XS.out).mono ?_
      rintro e w1 ⟨rfl, x1⟩
      go_wp2_with fail
      refine (HM.out _).mono ?_
      rintro e wx ⟨rfl, hwx⟩
      have hwy := hwx.symm
      clear hwx
      subst hwy
      go_wp2_with fail
      go_ret2
      exact ⟨ret_two e2.out e3.out, XS.out.trans x1⟩
    · have hw' : okW z = false := by simpa using hw
      rw [hw'] at HM
      have e2 : Hid (0 = (wordR z).1) := by show _ = _; unfold wordR; rw [if_neg hw]
      have e3 : Hid (2 = (wordR z).2) := by show _ = _; unfold wordR; rw [if_neg hw]
      clear e1 hw hw' hsm
      go_enter Try.func33, Try.ntmps33
      go_wp2_with fail
      refine (HS.out _ XS.out).mono ?_
      rintro e w1 ⟨rfl, x1⟩
      go_wp2_with fail
      refine (HM.out _).mono ?_
      rintro e wx ⟨rfl, hwx⟩
      have hwy := hwx.symm
      clear hwx
      subst hwy
      go_wp2_with fail
      go_ret2
      exact ⟨ret_two e2.out e3.out, XS.out.trans x1⟩
  · have e1 : smallR z = (0, false) := by unfold smallR; rw [if_neg hsm]
    rw [e1] at HS
    have hw : okW z = false := by unfold okW; simp; omega
    have e2 : Hid (0 = (wordR z).1) := by show _ = _; unfold wordR; rw [hw]; rfl
    have e3 : Hid (2 = (wordR z).2) := by show _ = _; unfold wordR; rw [hw]; rfl
    clear e1 hw hsm
    go_enter Try.func33, Try.ntmps33
    go_wp2_with fail
    refine (HS.out _ XS.out).mono ?_
    rintro e w1 ⟨rfl, x1⟩
    go_wp2_with fail
    go_ret2
    exact ⟨ret_two e2.out e3.out, XS.out.trans x1⟩
end Go.Proofs.Ytojcndgoihkfnaa

namespace Go.Proofs.Ytojcndgoihkfnaa
open Go.RowKit

theorem nearI_fit (n d : Int) (k : Nat) (f : Fit k n) (hd : 0 < d) : Fit (k + 2) (nearI n d) := by
  have h1 : (n * 2 / d / 2).natAbs ≤ (n * 2).natAbs := Nat.le_trans (natAbs_ediv_le _ _ (by omega)) (natAbs_ediv_le _ _ hd)
  have f1 : Fit (k + 1) (n * 2) := by have := f.shl 1; rwa [Int.pow_succ, Int.pow_zero, Int.one_mul] at this
  have f2 : Fit (k + 1) (n * 2 / d / 2) := f1.of_le h1
  unfold nearI
  split
  · exact f2.le (by omega)
  · split
    · exact f2.le (by omega)
    · exact f2.add (fit_one _ (by omega))
theorem fit_word (a : Int) (h1 : -9223372036854775808 ≤ a) (h2 : a ≤ 9223372036854775807) : Fit 64 a := by
  unfold Fit
  have e : (2 : Nat) ^ 64 = 18446744073709551616 := by decide
  omega

theorem near_lowest (x : Int) (d : Nat) (hd : d ≠ 0) (z : Int) (hz : IsNear x d z) : IsNear (x / (Nat.gcd x.natAbs d : Int)) ((d / Nat.gcd x.natAbs d : Nat) : Int) z := by
  have hg : 0 < Nat.gcd x.natAbs d := Nat.gcd_pos_of_pos_right _ (by omega)
  have h1 : (Nat.gcd x.natAbs d : Int) ∣ x := Int.ofNat_dvd_left.2 (Nat.gcd_dvd_left _ _)
  have h2 : Nat.gcd x.natAbs d ∣ d := Nat.gcd_dvd_right _ _
  generalize Nat.gcd x.natAbs d = g at *
  obtain ⟨c, hc⟩ := h1
  obtain ⟨e, he⟩ := h2
  have e1 : x / (g : Int) = c := by rw [hc, Int.mul_ediv_cancel_left _ (by omega)]
  have e2 : d / g = e := by rw [he, Nat.mul_div_cancel_left _ hg]
  have he0 : 0 < e := by
    apply Nat.pos_of_ne_zero
    intro h0
    rw [h0, Nat.mul_zero] at he
    exact hd he
  rw [e1, e2]
  have hs := nearI_spec c (e : Int) (by omega)
  have h3 := hs.scale (g := (g : Int)) (by omega)
  rw [← hc, ← Int.natCast_mul, ← he] at h3
  rw [hz.unique (by omega) h3]
  exact hs

set_option maxHeartbeats 1000000 in
theorem prod_any (a b : Int) (w : World) (h1 : -9223372036854775808 ≤ a) (h2 : a ≤ 9223372036854775807) (k1 : -9223372036854775808 ≤ b) (k2 : b ≤ 9223372036854775807) :
    Calls Try.prog 49 #[.int .i64 a, .int .i64 b] w fun e w' => (∃ r, e = .returned r ∧ IsI w' r (a * b)) ∧ Ext w w' := by
  have fa : Fit 64 a := fit_word a h1 h2
  have fb : Fit 64 b := fit_word b k1 k2
  have HA : Hid (∀ w', Calls Try.prog 51 #[.int .i64 a] w' fun e w'' => (∃ r, e = .returned r ∧ IsI w'' r a) ∧ Ext w' w'') := fun w' => from_any a w' h1 h2
  have HB : Hid (∀ w', Calls Try.prog 51 #[.int .i64 b] w' fun e w'' => (∃ r, e = .returned r ∧ IsI w'' r b) ∧ Ext w' w'') := fun w' => from_any b w' k1 k2
  have HT : Hid (∀ r1 r2 w', IsI w' r1 a → IsI w' r2 b → Calls Try.prog 46 #[r1, r2] w' fun e w'' => (∃ r', e = .returned r' ∧ IsI w'' r' (a * b)) ∧ Ext w' w'') := fun r1 r2 w' hr1 hr2 => times_isI a b r1 r2 w' hr1 hr2 (fa.small (by omega)) (fb.small (by omega)) ((fa.mul fb).small (by omega))
  clear fa fb h1 h2 k1 k2
  generalize a * b = P at *
  have XS : Hid (Ext w (w.alloc (.cells #[.bool false, .slice none 0 0] 72))) := (Ext.refl _).alloc _
  have BS : Hid (Has (w.alloc (.cells #[.bool false, .slice none 0 0] 72)) w.heap.size (.bool false) (.slice none 0 0)) := ext_new1 (Ext.refl _)
  go_enter Try.func49, Try.ntmps49
  go_wp2_with fail
  generalize w.alloc (.cells #[.bool false, .slice none 0 0] 72) = W at *
  refine (HA.out _).mono ?_
  rintro e w1 ⟨⟨r1, rfl, hr1⟩, x1⟩
  go_wp2_with fail
  refine (HB.out _).mono ?_
  rintro e w2 ⟨⟨r2, rfl, hr2⟩, x2⟩
  go_wp2_with fail
  refine (HT.out _ _ _ (hr1.ext x2) hr2).mono ?_
  rintro e w3 ⟨⟨r3, rfl, hr3⟩, x3⟩
  obtain ⟨t0, t1, t2, t3⟩ := BS.out.ext ((x1.trans x2).trans x3)
  obtain ⟨u, hu, hk⟩ := hr3
  obtain ⟨au, lu, cu, hau⟩ := hk.isSlice
  subst hau
  subst hu
  have X3 : Hid (Ext w w3) := XS.out.trans ((x1.trans x2).trans x3)
  have HI : Hid (IsI w3 (.agg #[.bool (decide (P < 0)), .slice au lu cu]) P) := ⟨_, rfl, hk⟩
  clear hk x1 x2 x3 hr1 hr2
  go_wp2_with fail
  exact bodyPost_ret (v := .agg #[.bool (decide (P < 0)), .slice au lu cu]) (by simp [results, Try.results49, go_sem, t0, t1]) rfl ⟨⟨_, rfl, HI.out.set2 t0 t1⟩, (X3.out.setCell (Nat.le_refl _) _).setCell (Nat.le_refl _) _⟩

set_option maxHeartbeats 1000000 in
theorem refadd_any (a b : Int) (w : World) (h1 : -9223372036854775808 ≤ a) (h2 : a ≤ 9223372036854775807) (k1 : -9223372036854775808 ≤ b) (k2 : b ≤ 9223372036854775807) :
    Calls Try.prog 41 #[.int .i64 a, .int .i64 b] w fun e w' => e = .returned (.tuple #[.int .i64 (wordR (a + b)).1, .int .i64 (wordR (a + b)).2]) ∧ Ext w w' := by
  have fa : Fit 64 a := fit_word a h1 h2
  have fb : Fit 64 b := fit_word b k1 k2
  have HA : Hid (∀ w', Calls Try.prog 51 #[.int .i64 a] w' fun e w'' => (∃ r, e = .returned r ∧ IsI w'' r a) ∧ Ext w' w'') := fun w' => from_any a w' h1 h2
  have HB : Hid (∀ w', Calls Try.prog 51 #[.int .i64 b] w' fun e w'' => (∃ r, e = .returned r ∧ IsI w'' r b) ∧ Ext w' w'') := fun w' => from_any b w' k1 k2
  have HT : Hid (∀ r1 r2 w', IsI w' r1 a → IsI w' r2 b → Calls Try.prog 48 #[r1, r2] w' fun e w'' => (∃ r', e = .returned r' ∧ IsI w'' r' (a + b)) ∧ Ext w' w'') := fun r1 r2 w' hr1 hr2 => plus_isI a b r1 r2 w' hr1 hr2 (fa.small (by omega)) (fb.small (by omega)) ((fa.add fb).small (by omega))
  have HW : Hid (∀ r w', IsI w' r (a + b) → Calls Try.prog 33 #[r] w' fun e w'' => e = .returned (.tuple #[.int .i64 (wordR (a + b)).1, .int .i64 (wordR (a + b)).2]) ∧ Ext w' w'') := fun r w' hr => word_any _ r w' hr ((fa.add fb).small (by omega))
  clear fa fb h1 h2 k1 k2
  generalize (wordR (a + b)).1 = o1 at *
  generalize (wordR (a + b)).2 = o2 at *
  generalize a + b = P at *
  go_enter Try.func41, Try.ntmps41
  go_wp2_with fail
  refine (HA.out _).mono ?_
  rintro e w1 ⟨⟨r1, rfl, hr1⟩, x1⟩
  go_wp2_with fail
  refine (HB.out _).mono ?_
  rintro e w2 ⟨⟨r2, rfl, hr2⟩, x2⟩
  go_wp2_with fail
  refine (HT.out _ _ _ (hr1.ext x2) hr2).mono ?_
  rintro e w3 ⟨⟨r3, rfl, hr3⟩, x3⟩
  go_wp2_with fail
  refine (HW.out _ _ hr3).mono ?_
  rintro e w4 ⟨rfl, x4⟩
  go_wp2_with fail
  go_ret2
  exact ⟨rfl, ((x1.trans x2).trans x3).trans x4⟩

theorem over_abs (x d : Int) : (over x d).natAbs = x.natAbs := by unfold over; split <;> omega
structure LaidO (p : Nat) (W : World) (u1 v1 u2 v2 : Value) : Prop where
  a : Has W p u1 v1
  b : Has W (p + 1) u2 v2
  c : Has3 W (p + 1 + 1) (.bool false) (.slice none 0 0) (.slice none 0 0)
theorem LaidO.ext {p : Nat} {W W' : World} {u1 v1 u2 v2 : Value} (h : LaidO p W u1 v1 u2 v2) (hx : Ext W W') : LaidO p W' u1 v1 u2 v2 := ⟨h.a.ext hx, h.b.ext hx, h.c.ext hx⟩
theorem laidO_start (w : World) (u1 v1 u2 v2 : Value) : LaidO w.heap.size (((w.alloc (.cells #[u1, v1] 72)).alloc (.cells #[u2, v2] 72)).alloc (.cells #[.bool false, .slice none 0 0, .slice none 0 0] 87)) u1 v1 u2 v2 := by
  constructor <;> constructor <;> simp [go_sem]
theorem Has3.far {w : World} {b g : Nat} {u v x y z : Value} (h : Has3 w b u v z) (hb : b ≠ g) : Has3 ((w.setCell ⟨g, 0, none⟩ x).setCell ⟨g, 1, none⟩ y) b u v z :=
  ⟨by rw [far2 _ _ _ _ _ hb]; exact h.c0, by rw [far2 _ _ _ _ _ hb]; exact h.c1, by rw [far2 _ _ _ _ _ hb]; exact h.c2, by simp [h.f0], by simp [h.f1], by simp [h.f2]⟩
theorem IsQ.set3 {w : World} {v : Value} {n : Int} {d g : Nat} {b0 : Bool} {a a' : Option Addr} {l c l' c' : Nat} {x y z : Value} (h : IsQ w v n d) (c0 : w.cell? ⟨g, 0, none⟩ = some (.bool b0)) (c1 : w.cell? ⟨g, 1, none⟩ = some (.slice a l c)) (c2 : w.cell? ⟨g, 2, none⟩ = some (.slice a' l' c')) :
    IsQ (((w.setCell ⟨g, 0, none⟩ x).setCell ⟨g, 1, none⟩ y).setCell ⟨g, 2, none⟩ z) v n d := by
  obtain ⟨u1, u2, h1, h2, h3⟩ := h
  exact ⟨u1, u2, h1, h2.set3 c0 c1 c2, h3.set3 c0 c1 c2⟩

end Go.Proofs.Ytojcndgoihkfnaa
