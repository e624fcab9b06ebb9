/- gimbalref15: May: an orientation. gimbalref15: unit, turned, Shown, Gated. -/
import Derived.Test.YtoeecldhbabmbaaGreatMg45
import Derived.Test.YtoeecldhbabmbaaGreatMg30
import Derived.Deep.RegionHeld3
import Derived.Test.YtoeecldhbabmbaaGreatR3ox
open Go.Value renaming int → J, agg → zG
open Go.IntKind renaming i64 → zq
open Go.Ending renaming returned → zR
open Go.Proofs.Tryz renaming prog → zP
namespace Go.Proofs.YtoeecldhbabmbaaGreat
open Go.RowKit Go.Shelf
set_option maxRecDepth 20000 in
set_option maxHeartbeats 8000000 in
theorem may15_no (a b c d : Int) (w : World) (HQ : Hid (∀ w', Calls zP 18 #[zG #[J zq a, J zq b, J zq c, J zq d]] w' fun e w'' => e = zR (.bool false) ∧ Ext w' w'')) :
    Calls zP 4 #[zG #[J zq a, J zq b, J zq c, J zq d]] w fun e w' => e = zR (.bool false) ∧ Ext w w' := by
  have FQ : Hid (HV (w.alloc (.cells #[J zq a, J zq b, J zq c, J zq d] 26)) w.heap.size [J zq a, J zq b, J zq c, J zq d]) := hv_at rfl
  have FX : Hid (Ext w (w.alloc (.cells #[J zq a, J zq b, J zq c, J zq d] 26))) := (Ext.refl w).alloc _
  go_enter Tryz.func4, Tryz.ntmps4
  go_upto_region 1 with fail
  generalize (w.alloc (.cells #[J zq a, J zq b, J zq c, J zq d] 26)) = w0 at *
  obtain ⟨q0, q1, q2, q3⟩ := FQ.out.k4
  go_wp2_with (go_at_call 18; refine (HQ.out _).mono ?_; rintro e w1 ⟨rfl, x1⟩; have E1 : Hid (Ext w w1) := FX.out.trans x1)
  go_ret
  exact ⟨rfl, E1.out⟩
set_option maxRecDepth 20000 in
set_option maxHeartbeats 8000000 in
theorem may15_yes (a b c d N L H s1 s2 : Int) (w : World) (HQ : Hid (∀ w', Calls zP 18 #[zG #[J zq a, J zq b, J zq c, J zq d]] w' fun e w'' => e = zR (.bool true) ∧ Ext w' w'')) (HS : Hid (∀ w', Calls zP 19 #[zG #[J zq a, J zq b, J zq c, J zq d]] w' fun e w'' => (∃ r, e = zR r ∧ IsI w'' r (N)) ∧ Ext w' w'')) (HL : Hid (∀ w', Calls zP 21 #[J zq 1073741820, J zq 1073741820] w' fun e w'' => (∃ r, e = zR r ∧ IsI w'' r (L)) ∧ Ext w' w'')) (HH : Hid (∀ w', Calls zP 21 #[J zq 1073741828, J zq 1073741828] w' fun e w'' => (∃ r, e = zR r ∧ IsI w'' r (H)) ∧ Ext w' w'')) (C1 : Hid (∀ r1 r2 w', IsI w' r1 N → IsI w' r2 L → Calls zP 20 #[r1, r2] w' fun e w'' => e = zR (J zq s1) ∧ Ext w' w'')) (C2 : Hid (∀ r1 r2 w', IsI w' r1 N → IsI w' r2 H → Calls zP 20 #[r1, r2] w' fun e w'' => e = zR (J zq s2) ∧ Ext w' w'')) (hs1 : s1 = 0 ∨ s1 = 1) (hs2 : s2 = -1 ∨ s2 = 0 ∨ s2 = 1) :
    Calls zP 4 #[zG #[J zq a, J zq b, J zq c, J zq d]] w fun e w' => e = zR (.bool (decide (0 ≤ s1) && decide (s2 ≤ 0))) ∧ Ext w w' := by
  have FQ : Hid (HV (w.alloc (.cells #[J zq a, J zq b, J zq c, J zq d] 26)) w.heap.size [J zq a, J zq b, J zq c, J zq d]) := hv_at rfl
  have FX : Hid (Ext w (w.alloc (.cells #[J zq a, J zq b, J zq c, J zq d] 26))) := (Ext.refl w).alloc _
  go_enter Tryz.func4, Tryz.ntmps4
  go_upto_region 1 with fail
  generalize (w.alloc (.cells #[J zq a, J zq b, J zq c, J zq d] 26)) = w0 at *
  obtain ⟨q0, q1, q2, q3⟩ := FQ.out.k4
  go_upto_region 3 with (go_at_call 18; refine (HQ.out _).mono ?_; rintro e w1 ⟨rfl, x1⟩)
  have FQ := hvx FQ x1
  have FX := exx FX x1
  clear x1 q0 q1 q2 q3 HQ
  obtain ⟨q0, q1, q2, q3⟩ := FQ.out.k4
  go_wp2_with fail
  refine (HS.out _).mono ?_
  rintro e w2 ⟨⟨r, rfl, hr⟩, x2⟩
  obtain ⟨u, hu, hk⟩ := hr
  obtain ⟨au, lu, cu, hau⟩ := hk.isSlice
  subst hau; subst hu
  have IN : Hid (IsI w2 (zG #[.bool (decide (N < 0)), .slice au lu cu]) N) := ⟨_, rfl, hk⟩
  clear hk
  have FX := exx FX x2
  clear x2 q0 q1 q2 q3 FQ HS
  generalize decide (N < 0) = bn at *
  go_upto_region 4 with fail
  have IN : Hid (IsI (w2.alloc (.cells #[.bool bn, .slice au lu cu] 50)) (zG #[.bool bn, .slice au lu cu]) N) := IN.out.ext ((Ext.refl _).alloc _)
  have FN : Hid (HV (w2.alloc (.cells #[.bool bn, .slice au lu cu] 50)) w2.heap.size [.bool bn, .slice au lu cu]) := hv_at rfl
  have FX := exl FX (.cells #[.bool bn, .slice au lu cu] 50)
  generalize (w2.alloc (.cells #[.bool bn, .slice au lu cu] 50)) = w3 at *
  generalize w2.heap.size = nn at *
  have m0 := FN.out.c 0 rfl
  have m1 := FN.out.c 1 rfl
  have ml := FN.out.1
  rcases hs1 with rfl | rfl
  all_goals rcases hs2 with rfl | rfl | rfl
  all_goals
    go_region_held3 (fun w' => w'.cell? ⟨nn, 0, none⟩ = some (.bool bn) ∧ w'.cell? ⟨nn, 1, none⟩ = some (.slice au lu cu)) (first | (go_keep; done) | skip) (first | (go_at_call_of 21 (Value.int IntKind.i64 1073741820); refine (HL.out _).mono ?_; rintro e wl ⟨⟨rl, rfl, hl⟩, xl⟩; have Yl : Ext w3 wl := Ext.trans xa xl; have nl0 := (FN.out.ext Yl).c 0 rfl; have nl1 := (FN.out.ext Yl).c 1 rfl; have ll := (FN.out.ext Yl).1) | (go_at_call_of 21 (Value.int IntKind.i64 1073741828); refine (HH.out _).mono ?_; rintro e wh ⟨⟨rh, rfl, hh⟩, xh⟩; have Yh : Ext w3 wh := Ext.trans xa xh; have nh0 := (FN.out.ext Yh).c 0 rfl; have nh1 := (FN.out.ext Yh).c 1 rfl; have lh := (FN.out.ext Yh).1) | (go_at_call 20; refine (C1.out _ _ _ (IN.out.ext Yl) hl).mono ?_; rintro e wc ⟨rfl, xc⟩; have Yc : Ext w3 wc := Ext.trans xa xc; have nc0 := (FN.out.ext Yc).c 0 rfl; have nc1 := (FN.out.ext Yc).c 1 rfl; have lc := (FN.out.ext Yc).1) | (go_at_call 20; refine (C2.out _ _ _ (IN.out.ext Yh) hh).mono ?_; rintro e wg ⟨rfl, xg⟩; have Yg : Ext w3 wg := Ext.trans xa xg; have ng0 := (FN.out.ext Yg).c 0 rfl; have ng1 := (FN.out.ext Yg).c 1 rfl; have lg := (FN.out.ext Yg).1))
    all_goals
      go_wp2_with fail
      go_ret
      exact ⟨rfl, FX.out.trans Yg⟩
set_option maxRecDepth 20000 in
set_option maxHeartbeats 8000000 in
theorem may15_low (a b c d N L : Int) (w : World) (HQ : Hid (∀ w', Calls zP 18 #[zG #[J zq a, J zq b, J zq c, J zq d]] w' fun e w'' => e = zR (.bool true) ∧ Ext w' w'')) (HS : Hid (∀ w', Calls zP 19 #[zG #[J zq a, J zq b, J zq c, J zq d]] w' fun e w'' => (∃ r, e = zR r ∧ IsI w'' r (N)) ∧ Ext w' w'')) (HL : Hid (∀ w', Calls zP 21 #[J zq 1073741820, J zq 1073741820] w' fun e w'' => (∃ r, e = zR r ∧ IsI w'' r (L)) ∧ Ext w' w'')) (C1 : Hid (∀ r1 r2 w', IsI w' r1 N → IsI w' r2 L → Calls zP 20 #[r1, r2] w' fun e w'' => e = zR (J zq (-1)) ∧ Ext w' w'')) :
    Calls zP 4 #[zG #[J zq a, J zq b, J zq c, J zq d]] w fun e w' => e = zR (.bool false) ∧ Ext w w' := by
  have FQ : Hid (HV (w.alloc (.cells #[J zq a, J zq b, J zq c, J zq d] 26)) w.heap.size [J zq a, J zq b, J zq c, J zq d]) := hv_at rfl
  have FX : Hid (Ext w (w.alloc (.cells #[J zq a, J zq b, J zq c, J zq d] 26))) := (Ext.refl w).alloc _
  go_enter Tryz.func4, Tryz.ntmps4
  go_upto_region 1 with fail
  generalize (w.alloc (.cells #[J zq a, J zq b, J zq c, J zq d] 26)) = w0 at *
  obtain ⟨q0, q1, q2, q3⟩ := FQ.out.k4
  go_upto_region 3 with (go_at_call 18; refine (HQ.out _).mono ?_; rintro e w1 ⟨rfl, x1⟩)
  have FQ := hvx FQ x1
  have FX := exx FX x1
  clear x1 q0 q1 q2 q3 HQ
  obtain ⟨q0, q1, q2, q3⟩ := FQ.out.k4
  go_wp2_with fail
  refine (HS.out _).mono ?_
  rintro e w2 ⟨⟨r, rfl, hr⟩, x2⟩
  obtain ⟨u, hu, hk⟩ := hr
  obtain ⟨au, lu, cu, hau⟩ := hk.isSlice
  subst hau; subst hu
  have IN : Hid (IsI w2 (zG #[.bool (decide (N < 0)), .slice au lu cu]) N) := ⟨_, rfl, hk⟩
  clear hk
  have FX := exx FX x2
  clear x2 q0 q1 q2 q3 FQ HS
  generalize decide (N < 0) = bn at *
  go_upto_region 4 with fail
  have IN : Hid (IsI (w2.alloc (.cells #[.bool bn, .slice au lu cu] 50)) (zG #[.bool bn, .slice au lu cu]) N) := IN.out.ext ((Ext.refl _).alloc _)
  have FN : Hid (HV (w2.alloc (.cells #[.bool bn, .slice au lu cu] 50)) w2.heap.size [.bool bn, .slice au lu cu]) := hv_at rfl
  have FX := exl FX (.cells #[.bool bn, .slice au lu cu] 50)
  generalize (w2.alloc (.cells #[.bool bn, .slice au lu cu] 50)) = w3 at *
  generalize w2.heap.size = nn at *
  have m0 := FN.out.c 0 rfl
  have m1 := FN.out.c 1 rfl
  have ml := FN.out.1
  refine wp_region_held_drew (S := (fun w' => w'.cell? ⟨nn, 0, none⟩ = some (.bool bn) ∧ w'.cell? ⟨nn, 1, none⟩ = some (.slice au lu cu))) (by kernel_rfl) ?_ (fun hHeld => ?_)
  · ((try dsimp only); go_keep)
  refine wpAnyH_take (i := 0) (v := zG #[.bool bn, .slice au lu cu]) rfl (by kernel_rfl) (by kernel_rfl) (by kernel_rfl) (fun _ _ _ h => h) (Or.inl ⟨by rfl, ?_⟩) (by assumption) ?_
  · (intro w hSw; (try dsimp only at hSw); go_simp)
  go_simp
  refine wpAnyH_ready (rs := [1]) (by kernel_rfl) (by simp) ?_
  refine AllReadyH.cons rfl (fun K hK => ?_) AllReadyH.nil
  go_simp
  go_wp2_with (go_at_call_of 21 (Value.int IntKind.i64 1073741820); refine (HL.out _).mono ?_; rintro e wl ⟨⟨rl, rfl, hl⟩, xl⟩; have Yl : Ext w3 wl := Ext.trans xa xl; have nl0 := (FN.out.ext Yl).c 0 rfl; have nl1 := (FN.out.ext Yl).c 1 rfl; have ll := (FN.out.ext Yl).1)
  refine hK.out _ _ ?_ (fun hHeld => ?_)
  · ((try dsimp only); go_keep)
  clear hK K
  refine wpAnyH_ready (rs := [2]) (by kernel_rfl) (by simp) ?_
  refine AllReadyH.cons rfl (fun K hK => ?_) AllReadyH.nil
  go_simp
  go_wp2_with (go_at_call 20; refine (C1.out _ _ _ (IN.out.ext Yl) hl).mono ?_; rintro e wc ⟨rfl, xc⟩; have Yc : Ext w3 wc := Ext.trans xa xc; have nc0 := (FN.out.ext Yc).c 0 rfl; have nc1 := (FN.out.ext Yc).c 1 rfl; have lc := (FN.out.ext Yc).1)
  refine hK.out _ _ ?_ (fun hHeld => ?_)
  · ((try dsimp only); go_keep)
  clear hK K
  refine wpAnyH_take (i := 3) (v := .bool false) rfl (by kernel_rfl) (by kernel_rfl) (by kernel_rfl) (fun _ _ _ h => h) (Or.inl ⟨by rfl, ?_⟩) (by assumption) ?_
  · (intro w hSw; (try dsimp only at hSw); go_simp)
  go_simp
  refine wpAnyH_take (i := 4) (v := .bool false) rfl (by kernel_rfl) (by kernel_rfl) (by kernel_rfl) (fun _ _ _ h => h) (Or.inl ⟨by rfl, ?_⟩) (by assumption) ?_
  · (intro w hSw; (try dsimp only at hSw); go_simp)
  go_simp
  refine wpAnyH_take (i := 5) (v := undef) rfl (by kernel_rfl) (by kernel_rfl) (by kernel_rfl) (fun _ _ _ h => h) (Or.inr ⟨by rfl, rfl⟩) (by assumption) ?_
  go_simp
  refine wpAnyH_take (i := 6) (v := undef) rfl (by kernel_rfl) (by kernel_rfl) (by kernel_rfl) (fun _ _ _ h => h) (Or.inr ⟨by rfl, rfl⟩) (by assumption) ?_
  go_simp
  refine wpAnyH_take (i := 7) (v := undef) rfl (by kernel_rfl) (by kernel_rfl) (by kernel_rfl) (fun _ _ _ h => h) (Or.inr ⟨by rfl, rfl⟩) (by assumption) ?_
  go_simp
  refine wpAnyH_take (i := 8) (v := undef) rfl (by kernel_rfl) (by kernel_rfl) (by kernel_rfl) (fun _ _ _ h => h) (Or.inr ⟨by rfl, rfl⟩) (by assumption) ?_
  go_simp
  refine wpAnyH_take (i := 9) (v := .bool false) rfl (by kernel_rfl) (by kernel_rfl) (by kernel_rfl) (fun _ _ _ h => h) (Or.inl ⟨by rfl, ?_⟩) (by assumption) ?_
  · (intro w hSw; (try dsimp only at hSw); go_simp)
  go_simp
  refine wpAnyH_take (i := 10) (v := .bool false) rfl (by kernel_rfl) (by kernel_rfl) (by kernel_rfl) (fun _ _ _ h => h) (Or.inl ⟨by rfl, ?_⟩) (by assumption) ?_
  · (intro w hSw; (try dsimp only at hSw); go_simp)
  go_simp
  refine wpAnyH_done (by kernel_rfl) ?_ _
  go_wp2_with fail
  go_ret
  exact ⟨rfl, FX.out.trans Yc⟩
theorem sgn_ge {x y : Int} (h : y ≤ x) : sgn (x - y) = 0 ∨ sgn (x - y) = 1 := by unfold sgn; rw [if_neg (by omega)]; split <;> simp
theorem sgn_3 (z : Int) : sgn z = -1 ∨ sgn z = 0 ∨ sgn z = 1 := by unfold sgn; split; simp; split <;> simp
theorem may15_any (a b c d : Int) (w : World) :
    Calls zP 4 #[zG #[J zq a, J zq b, J zq c, J zq d]] w fun e w' => e = zR (.bool (okO a b c d)) ∧ Ext w w' := by
  have Q := fun w' => mayq_any a b c d w'
  cases h : ok4 a b c d
  · rw [h] at Q
    have e : okO a b c d = false := Bool.eq_false_iff.2 (fun hc => by have := okO_ok4 hc; rw [h] at this; cases this)
    rw [e]
    exact may15_no a b c d w Q
  · rw [h] at Q
    have h' := h
    unfold ok4 at h'
    simp only [Bool.and_eq_true] at h'
    obtain ⟨ha, hb, hc, hd⟩ := h'
    have fa := (fitW ha).mul (fitW ha)
    have fb := (fitW hb).mul (fitW hb)
    have fc := (fitW hc).mul (fitW hc)
    have fd := (fitW hd).mul (fitW hd)
    have fN : Fit 95 (a * a + b * b + c * c + d * d) := ((fa.add fb).add (fc.le (by omega))).add (fd.le (by omega))
    have fL : Fit 95 (1073741820 * 1073741820) := by unfold Fit; decide
    have fH : Fit 95 (1073741828 * 1073741828) := by unfold Fit; decide
    by_cases hlo : 1073741820 * 1073741820 ≤ a * a + b * b + c * c + d * d
    case neg =>
      have e : okO a b c d = false := by
        cases ho : okO a b c d
        · rfl
        · exfalso
          have := okO_iff.1 ho
          omega
      rw [e]
      have es : sgn (a * a + b * b + c * c + d * d - 1073741820 * 1073741820) = -1 := by unfold sgn; rw [if_pos (by omega)]
      exact may15_low a b c d (a * a + b * b + c * c + d * d) (1073741820 * 1073741820) w Q (fun w' => rsquares_any a b c d w' h) (fun w' => prod_any _ _ w' (by decide) (by decide) (by decide) (by decide)) (fun r1 r2 w' i1 i2 => by have H := cmp_isI _ _ r1 r2 w' i1 i2 (fN.small (by omega)) (fL.small (by omega)) ((fN.sub fL).small (by omega)); rw [es] at H; exact H)
    have R := may15_yes a b c d (a * a + b * b + c * c + d * d) (1073741820 * 1073741820) (1073741828 * 1073741828) (sgn (a * a + b * b + c * c + d * d - 1073741820 * 1073741820)) (sgn (a * a + b * b + c * c + d * d - 1073741828 * 1073741828)) w Q (fun w' => rsquares_any a b c d w' h) (fun w' => prod_any _ _ w' (by decide) (by decide) (by decide) (by decide)) (fun w' => prod_any _ _ w' (by decide) (by decide) (by decide) (by decide)) (fun r1 r2 w' i1 i2 => cmp_isI _ _ r1 r2 w' i1 i2 (fN.small (by omega)) (fL.small (by omega)) ((fN.sub fL).small (by omega))) (fun r1 r2 w' i1 i2 => cmp_isI _ _ r1 r2 w' i1 i2 (fN.small (by omega)) (fH.small (by omega)) ((fN.sub fH).small (by omega))) (sgn_ge hlo) (sgn_3 _)
    have e : okO a b c d = (decide (0 ≤ sgn (a * a + b * b + c * c + d * d - 1073741820 * 1073741820)) && decide (sgn (a * a + b * b + c * c + d * d - 1073741828 * 1073741828) ≤ 0)) := by
      have sa := sq_nonneg a; have sb := sq_nonneg b; have sc := sq_nonneg c; have sd := sq_nonneg d
      have la : a * a + b * b + c * c + d * d ≤ 1152921513196781584 → (-1073741828 ≤ a ∧ a ≤ 1073741828) ∧ (-1073741828 ≤ b ∧ b ≤ 1073741828) ∧ (-1073741828 ≤ c ∧ c ≤ 1073741828) ∧ (-1073741828 ≤ d ∧ d ≤ 1073741828) := fun hl => by
        have m : (1152921513196781584 : Int) = 1073741828 * 1073741828 := by decide
        exact ⟨abs_of_sq (by decide) (by omega), abs_of_sq (by decide) (by omega), abs_of_sq (by decide) (by omega), abs_of_sq (by decide) (by omega)⟩
      rw [Bool.eq_iff_iff, okO_iff]
      simp only [Bool.and_eq_true, decide_eq_true_eq]
      have s1 : ∀ z : Int, 0 ≤ sgn z ↔ 0 ≤ z := fun z => by unfold sgn; split; omega; split <;> omega
      have s2 : ∀ z : Int, sgn z ≤ 0 ↔ z ≤ 0 := fun z => by unfold sgn; split; omega; split <;> omega
      rw [s1, s2]
      constructor
      · rintro ⟨_, _, _, _, h1, h2⟩
        omega
      · rintro ⟨h1, h2⟩
        obtain ⟨l0, l1, l2, l3⟩ := la (by omega)
        exact ⟨l0, l1, l2, l3, by omega, by omega⟩
    rw [e]
    exact R
set_option maxRecDepth 20000 in
set_option maxHeartbeats 8000000 in
theorem runit15_raw (q0 q1 q2 q3 u0 u1 u2 u3 : Int) (w : World) (HU : Hid (∀ w', Calls zP 66 #[zG #[J zq q0, J zq q1, J zq q2, J zq q3]] w' fun e w'' => e = zR (.tuple #[zG #[J zq u0, J zq u1, J zq u2, J zq u3], J zq 0]) ∧ Ext w' w'')) :
    Calls zP 28 #[zG #[J zq q0, J zq q1, J zq q2, J zq q3], J zq 0] w fun e w' => e = zR (.tuple #[zG #[J zq u0, J zq u1, J zq u2, J zq u3], J zq 0]) ∧ Ext w w' := by
  have Fq : Hid (HV ((w.alloc (.cells #[J zq q0, J zq q1, J zq q2, J zq q3] 24)).alloc (.cells #[J zq 0, J zq 0, J zq 0, J zq 0] 26)) (w.heap.size) [J zq q0, J zq q1, J zq q2, J zq q3]) := (HV.alloc (hv_at rfl) _)
  have Lq : Hid (w.heap.size ≤ w.heap.size) := Nat.le_refl _
  have Fr : Hid (HV ((w.alloc (.cells #[J zq q0, J zq q1, J zq q2, J zq q3] 24)).alloc (.cells #[J zq 0, J zq 0, J zq 0, J zq 0] 26)) ((w.heap.size + 1)) [J zq 0, J zq 0, J zq 0, J zq 0]) := (hv_at (by simp))
  have Lr : Hid (w.heap.size ≤ (w.heap.size + 1)) := by show _ ≤ _; omega
  have FX : Hid (Ext w ((w.alloc (.cells #[J zq q0, J zq q1, J zq q2, J zq q3] 24)).alloc (.cells #[J zq 0, J zq 0, J zq 0, J zq 0] 26))) := (((Ext.refl _).alloc _).alloc _)
  go_enter Tryz.func28, Tryz.ntmps28
  go_upto_region 1 with fail
  generalize ((w.alloc (.cells #[J zq q0, J zq q1, J zq q2, J zq q3] 24)).alloc (.cells #[J zq 0, J zq 0, J zq 0, J zq 0] 26)) = w0 at *
  have d01 : w.heap.size < w.heap.size + 1 := Nat.lt_succ_self _
  go_upto_region 3 with fail
  have qq0 := Fq.out.c 0 rfl
  have qq1 := Fq.out.c 1 rfl
  have qq2 := Fq.out.c 2 rfl
  have qq3 := Fq.out.c 3 rfl
  go_upto_region 4 with (first | (go_at_call 66; refine (HU.out _).mono ?_; rintro e w1 ⟨rfl, x1⟩))
  have Fq := hvx Fq x1
  have Fr := hvx Fr x1
  have FX := exx FX x1
  clear qq0 qq1 qq2 qq3 x1 HU
  have ltqu := Fq.out.1
  have ltru := Fr.out.1
  have Lu := exz FX
  have Fq := hvl Fq (.cells #[J zq u0, J zq u1, J zq u2, J zq u3] 24)
  have Fr := hvl Fr (.cells #[J zq u0, J zq u1, J zq u2, J zq u3] 24)
  have Fu : Hid (HV (w1.alloc (.cells #[J zq u0, J zq u1, J zq u2, J zq u3] 24)) w1.heap.size [J zq u0, J zq u1, J zq u2, J zq u3]) := hv_at rfl
  have FX := exl FX (.cells #[J zq u0, J zq u1, J zq u2, J zq u3] 24)
  generalize (w1.alloc (.cells #[J zq u0, J zq u1, J zq u2, J zq u3] 24)) = wx1 at *
  generalize w1.heap.size = nu at *
  have qu0 := Fu.out.c 0 rfl
  have qu1 := Fu.out.c 1 rfl
  have qu2 := Fu.out.c 2 rfl
  have qu3 := Fu.out.c 3 rfl
  have z0 := Fr.out.c 0 rfl
  have z1 := Fr.out.c 1 rfl
  have z2 := Fr.out.c 2 rfl
  have z3 := Fr.out.c 3 rfl
  have y0 := Fr.out.f 0 rfl
  have y1 := Fr.out.f 1 rfl
  have y2 := Fr.out.f 2 rfl
  have y3 := Fr.out.f 3 rfl
  have rl := Fr.out.1
  go_wp2_with fail
  exact bodyPost_ret (v := .tuple #[zG #[J zq u0, J zq u1, J zq u2, J zq u3], J zq 0]) (by simp [results, Tryz.results28, go_sem, z0, z1, z2, z3]) rfl ⟨rfl, ((((FX.out.set (p := ⟨(w.heap.size + 1), 0, none⟩) Lr.out _).set (p := ⟨(w.heap.size + 1), 1, none⟩) Lr.out _).set (p := ⟨(w.heap.size + 1), 2, none⟩) Lr.out _).set (p := ⟨(w.heap.size + 1), 3, none⟩) Lr.out _)⟩
set_option maxRecDepth 20000 in
set_option maxHeartbeats 8000000 in
theorem rturned_raw (v P D n p er : Int) (d : Nat) (w : World) (HP : Hid (∀ w', Calls zP 21 #[J zq v, J zq 16777216] w' fun e w'' => (∃ r, e = zR r ∧ IsI w'' r (P)) ∧ Ext w' w'')) (HF : Hid (∀ w', Calls zP 24 #[J zq 1] w' fun e w'' => (∃ r, e = zR r ∧ IsI w'' r (1)) ∧ Ext w' w'')) (HL : Hid (∀ r w', IsI w' r 1 → Calls zP 59 #[r, J zq 31] w' fun e w'' => (∃ r, e = zR r ∧ IsI w'' r (D)) ∧ Ext w' w'')) (HO : Hid (∀ r1 r2 w', IsI w' r1 P → IsI w' r2 D → Calls zP 61 #[r1, r2] w' fun e w'' => (∃ q, e = zR q ∧ IsQ w'' q n d) ∧ Ext w' w'')) (HN : Hid (∀ q w', IsQ w' q n d → Calls zP 60 #[q] w' fun e w'' => e = zR (.tuple #[J zq p, J zq er]) ∧ Ext w' w'')) :
    Calls zP 34 #[J zq v] w fun e w' => e = zR (J zq p) ∧ Ext w w' := by
  have FX : Hid (Ext w w) := (Ext.refl _)
  go_enter Tryz.func34, Tryz.ntmps34
  go_wp2_with (first | (go_at_call 21; refine (HP.out _).mono ?_; rintro e w1 ⟨⟨r1, rfl, h1⟩, x1⟩) | (go_at_call 24; refine (HF.out _).mono ?_; rintro e w2 ⟨⟨r2, rfl, h2⟩, x2⟩) | (go_at_call 59; refine (HL.out _ _ h2).mono ?_; rintro e w3 ⟨⟨r3, rfl, h3⟩, x3⟩) | (go_at_call 61; refine (HO.out _ _ _ ((h1.ext x2).ext x3) h3).mono ?_; rintro e w4 ⟨⟨r4, rfl, h4⟩, x4⟩) | (go_at_call 60; refine (HN.out _ _ h4).mono ?_; rintro e w5 ⟨rfl, x5⟩))
  go_ret
  exact ⟨rfl, (((x1.trans x2).trans x3).trans x4).trans x5⟩
theorem rturned_any {o : Int} (w : World) (h : -2147483648 ≤ o ∧ o ≤ 2147483648) : Calls zP 34 #[J zq o] w fun e w'' => e = zR (J zq (lean o)) ∧ Ext w w'' := by
  have fo : Fit 64 o := fit_word o (by omega) (by omega)
  have fm : Fit 64 16777216 := by unfold Fit; decide
  have fP := fo.mul fm
  have f1 : Fit 1 1 := by unfold Fit; decide
  have fD : Fit 32 ((1 : Int) * 2 ^ 31) := by unfold Fit; decide
  have hl := lean_le h
  have hn : IsNear (over (o * 16777216) (1 * 2 ^ 31)) (((1 : Int) * 2 ^ 31).natAbs : Int) (lean o) := by
    have e1 : (1 : Int) * 2 ^ 31 = 2147483648 := by decide
    rw [e1, over_pos _ _ (by decide)]
    have g := (nearQ_IsNear (o * 8388608)).scale (g := 2) (by decide)
    have e2 : 2 * (o * 8388608) = o * 16777216 := by omega
    rw [e2] at g
    exact g
  obtain ⟨n, d, O, N⟩ := over_near (o * 16777216) (1 * 2 ^ 31) (lean o) 128 (by decide) (by omega) fP (fD.le (by omega)) hn
  have ow : okW (lean o) = true := okW_of (by omega) (by omega)
  have ef : fitR (lean o) = (lean o, 0) := by unfold fitR; rw [if_pos ow]
  rw [ef] at N
  exact rturned_raw o (o * 16777216) (1 * 2 ^ 31) n (lean o) 0 d w (fun w' => prod_any o 16777216 w' (by omega) (by omega) (by decide) (by decide)) (fun w' => from_any 1 w' (by decide) (by decide)) (fun r w' i => left_isI 1 31 r w' i (f1.small (by omega)) (by omega) (fD.small (by omega))) O N
set_option maxRecDepth 20000 in
set_option maxHeartbeats 8000000 in
theorem rshown_raw (q0 q1 q2 q3 s0 s1 s2 er : Int) (w : World) (HB : Hid (∀ w', Calls zP 73 #[zG #[J zq q0, J zq q1, J zq q2, J zq q3], zG #[J zq 0, J zq 0, J zq 1073741824]] w' fun e w'' => e = zR (.tuple #[zG #[J zq s0, J zq s1, J zq s2], J zq er]) ∧ Ext w' w'')) :
    Calls zP 32 #[zG #[J zq q0, J zq q1, J zq q2, J zq q3]] w fun e w' => e = zR (zG #[J zq s0, J zq s1, J zq s2]) ∧ Ext w w' := by
  have Fq : Hid (HV ((w.alloc (.cells #[J zq q0, J zq q1, J zq q2, J zq q3] 26)).alloc (.cells #[J zq 0, J zq 0, J zq 0] 28)) (w.heap.size) [J zq q0, J zq q1, J zq q2, J zq q3]) := (HV.alloc (hv_at rfl) _)
  have Lq : Hid (w.heap.size ≤ w.heap.size) := Nat.le_refl _
  have Fr : Hid (HV ((w.alloc (.cells #[J zq q0, J zq q1, J zq q2, J zq q3] 26)).alloc (.cells #[J zq 0, J zq 0, J zq 0] 28)) ((w.heap.size + 1)) [J zq 0, J zq 0, J zq 0]) := (hv_at (by simp))
  have Lr : Hid (w.heap.size ≤ (w.heap.size + 1)) := by show _ ≤ _; omega
  have FX : Hid (Ext w ((w.alloc (.cells #[J zq q0, J zq q1, J zq q2, J zq q3] 26)).alloc (.cells #[J zq 0, J zq 0, J zq 0] 28))) := (((Ext.refl _).alloc _).alloc _)
  go_enter Tryz.func32, Tryz.ntmps32
  go_upto_region 1 with fail
  generalize ((w.alloc (.cells #[J zq q0, J zq q1, J zq q2, J zq q3] 26)).alloc (.cells #[J zq 0, J zq 0, J zq 0] 28)) = w0 at *
  have qq0 := Fq.out.c 0 rfl
  have qq1 := Fq.out.c 1 rfl
  have qq2 := Fq.out.c 2 rfl
  have qq3 := Fq.out.c 3 rfl
  go_upto_region 2 with (first | (go_at_call 73; refine (HB.out _).mono ?_; rintro e w1 ⟨rfl, x1⟩))
  have Fq := hvx Fq x1
  have Fr := hvx Fr x1
  have FX := exx FX x1
  clear qq0 qq1 qq2 qq3 x1 HB
  have ltqu := Fq.out.1
  have ltru := Fr.out.1
  have Lu := exz FX
  have Fq := hvl Fq (.cells #[J zq s0, J zq s1, J zq s2] 28)
  have Fr := hvl Fr (.cells #[J zq s0, J zq s1, J zq s2] 28)
  have Fu : Hid (HV (w1.alloc (.cells #[J zq s0, J zq s1, J zq s2] 28)) w1.heap.size [J zq s0, J zq s1, J zq s2]) := hv_at rfl
  have FX := exl FX (.cells #[J zq s0, J zq s1, J zq s2] 28)
  generalize (w1.alloc (.cells #[J zq s0, J zq s1, J zq s2] 28)) = wx1 at *
  generalize w1.heap.size = nu at *
  have qu0 := Fu.out.c 0 rfl
  have qu1 := Fu.out.c 1 rfl
  have qu2 := Fu.out.c 2 rfl
  have z0 := Fr.out.c 0 rfl
  have z1 := Fr.out.c 1 rfl
  have z2 := Fr.out.c 2 rfl
  have y0 := Fr.out.f 0 rfl
  have y1 := Fr.out.f 1 rfl
  have y2 := Fr.out.f 2 rfl
  have rl := Fr.out.1
  go_wp2_with fail
  exact bodyPost_ret (v := zG #[J zq s0, J zq s1, J zq s2]) (by simp [results, Tryz.results32, go_sem, z0, z1, z2]) rfl ⟨rfl, (((FX.out.set (p := ⟨(w.heap.size + 1), 0, none⟩) Lr.out _).set (p := ⟨(w.heap.size + 1), 1, none⟩) Lr.out _).set (p := ⟨(w.heap.size + 1), 2, none⟩) Lr.out _)⟩
theorem rshown_any {a b c d : Int} (w : World) (h : okO a b c d = true) : Calls zP 32 #[zG #[J zq a, J zq b, J zq c, J zq d]] w fun e w'' => e = zR (zG #[J zq (sh0 a b c d), J zq (sh1 a b c d), J zq (sh2 a b c d)]) ∧ Ext w w'' := by
  have h4 := okO_ok4 h
  have R := fun w' => rback_any a b c d 0 0 1073741824 w' h4 (by decide)
  obtain ⟨l0, l1, l2⟩ := sh_le h
  have hz : ¬ (a = 0 ∧ -b = 0 ∧ -c = 0 ∧ -d = 0) := by
    rintro ⟨e0, e1, e2, e3⟩
    have g := okO_iff.1 h
    obtain rfl : b = 0 := by omega
    obtain rfl : c = 0 := by omega
    obtain rfl : d = 0 := by omega
    subst e0
    omega
  obtain ⟨ha, hb, hc, hd⟩ := ok4_parts h4
  have k4 : ok4 a (-b) (-c) (-d) = true := by unfold ok4; rw [ha, neg_okW hb, neg_okW hc, neg_okW hd]; rfl
  have e4 : sq4 a (-b) (-c) (-d) = sq4 a b c d := by unfold sq4; simp only [Int.natAbs_neg]
  unfold turnR at R
  rw [k4, if_pos (by rfl), if_neg hz, e4] at R
  unfold vres at R
  unfold sh0 at l0 ⊢
  unfold sh1 at l1 ⊢
  unfold sh2 at l2 ⊢
  rw [if_pos (ok3_of (by omega) (by omega) (by omega))] at R
  exact rshown_raw a b c d _ _ _ 0 w R
set_option maxRecDepth 20000 in
set_option maxHeartbeats 8000000 in
theorem rgated_raw (x y z n er : Int) (w : World) (HN : Hid (∀ w', Calls zP 67 #[zG #[J zq x, J zq y, J zq z]] w' fun e w'' => e = zR (.tuple #[J zq n, J zq er]) ∧ Ext w' w'')) (B : Bool) (hB : Hid (B = (decide (er = 0) && (decide (8580819 ≤ n) && decide (n ≤ 11032481))))) :
    Calls zP 29 #[zG #[J zq x, J zq y, J zq z]] w fun e w' => e = zR (.bool B) ∧ Ext w w' := by
  have Fq : Hid (HV (w.alloc (.cells #[J zq x, J zq y, J zq z] 28)) (w.heap.size) [J zq x, J zq y, J zq z]) := (hv_at rfl)
  have Lq : Hid (w.heap.size ≤ w.heap.size) := Nat.le_refl _
  have FX : Hid (Ext w (w.alloc (.cells #[J zq x, J zq y, J zq z] 28))) := ((Ext.refl _).alloc _)
  go_enter Tryz.func29, Tryz.ntmps29
  go_upto_region 1 with fail
  generalize (w.alloc (.cells #[J zq x, J zq y, J zq z] 28)) = w0 at *
  have qq0 := Fq.out.c 0 rfl
  have qq1 := Fq.out.c 1 rfl
  have qq2 := Fq.out.c 2 rfl
  go_upto_region 2 with (first | (go_at_call 67; refine (HN.out _).mono ?_; rintro e w1 ⟨rfl, x1⟩))
  have Fq := hvx Fq x1
  have FX := exx FX x1
  clear qq0 qq1 qq2 x1 HN
  by_cases h0 : er = 0
  · subst h0
    by_cases h1 : 8580819 ≤ n
    · by_cases h2 : n ≤ 11032481
      · have hD : Hid (B = true) := hB.out.trans (by simp [h1, h2])
        clear hB
        go_wp2_with fail
        go_ret
        exact ⟨by rw [hD.out]; rfl, FX.out⟩
      · have hD : Hid (B = false) := hB.out.trans (by simp [h2])
        clear hB
        go_wp2_with fail
        go_ret
        exact ⟨by rw [hD.out]; rfl, FX.out⟩
    · have hD : Hid (B = false) := hB.out.trans (by simp [h1])
      clear hB
      go_wp2_with fail
      go_ret
      exact ⟨by rw [hD.out]; rfl, FX.out⟩
  · have hD : Hid (B = false) := hB.out.trans (by simp [h0])
    clear hB
    go_wp2_with fail
    go_ret
    exact ⟨by rw [hD.out]; rfl, FX.out⟩
theorem rgated_any (x y z : Int) (k : Nat) (w : World) (h : ok3 x y z = true) (hk : RootQ (sq3 x y z) 1 k) : Calls zP 29 #[zG #[J zq x, J zq y, J zq z]] w fun e w'' => e = zR (.bool (gat k)) ∧ Ext w w'' := by
  refine rgated_raw x y z _ _ w (fun w' => rnorm_any x y z k w' h hk) (gat k) ?_
  show gat k = _
  rcases fit_two (k : Int) with ⟨e2, o, e1⟩ | ⟨e2, o, e1⟩
  · rw [e1, e2]
    rfl
  · rw [e2]
    have : gat (k : Int) = false := by
      unfold okW at o
      unfold gat
      rw [Bool.eq_false_iff] at o ⊢
      intro hc
      simp only [Bool.and_eq_true, decide_eq_true_eq] at hc
      exact o (by simp only [Bool.and_eq_true, decide_eq_true_eq]; omega)
    rw [this]
    rfl
end Go.Proofs.YtoeecldhbabmbaaGreat
