/- cal: cleared, Apply, Plain. -/
import Derived.Test.YtnilhamcojjloaaCa2
namespace Go.Proofs.Ytnilhamcojjloaa
open Go.RowKit Go.Shelf
theorem rangeAt_far {w : World} {b g o i : Nat} {cs : List Value} {v : Value} (h : w.rangeAt b o cs) (hb : g ≠ b) : (w.setCell ⟨g, i, none⟩ v).rangeAt b o cs := fun j u hj => by
  rw [World.cell?_setCell_far _ _ _ _ hb]; exact h j u hj
/-- one number without what bias and heat add -/
def clr (x b h d : Int) : Int := 1024 * x - b - h * d
theorem clr_bound {x b h d : Int} (hx : -32768 ≤ x ∧ x ≤ 32767) (hb : okW b = true) (hh : okW h = true) (hd : -255 ≤ d ∧ d ≤ 255) :
    (-9007199254740992 ≤ h * d ∧ h * d ≤ 9007199254740992) ∧ -36028797018963968 ≤ clr x b h d ∧ clr x b h d ≤ 36028797018963968 := by
  have b1 := okW_bounds hb
  have b2 := okW_bounds hh
  have p := mul_bound (a := h) (b := d) (A := 35184372088832) (B := 255) (by omega) (by omega) hd.1 hd.2
  unfold clr
  omega
theorem okC_parts {b0 b1 b2 h0 h1 h2 rf : Int} {m : Nat → Int} (h : okC b0 b1 b2 h0 h1 h2 rf m = true) : (-128 ≤ rf ∧ rf ≤ 127) ∧ ok3 b0 b1 b2 = true ∧ ok3 h0 h1 h2 = true ∧ okM m = true := by
  unfold okC at h; simp only [Bool.and_eq_true, inn_iff] at h; exact ⟨h.1, h.2.1, h.2.2.1, h.2.2.2⟩
theorem wrap_self {z : Int} (h1 : -9223372036854775808 ≤ z) (h2 : z ≤ 9223372036854775807) : IntKind.i64.wrap z = z := by
  rw [IntKind.wrap_i64]; omega
set_option maxRecDepth 20000 in
set_option maxHeartbeats 8000000 in
theorem cleared_raw (b0 b1 b2 h0 h1 h2 rf : Int) (m : Nat → Int) (x y z t d p0 p1 p2 u0 u1 u2 : Int) (w : World) (hx : -32768 ≤ x ∧ x ≤ 32767) (hy : -32768 ≤ y ∧ y ≤ 32767) (hz : -32768 ≤ z ∧ z ≤ 32767)
    (b0b : -35184372088832 ≤ b0 ∧ b0 ≤ 35184372088832) (b1b : -35184372088832 ≤ b1 ∧ b1 ≤ 35184372088832) (b2b : -35184372088832 ≤ b2 ∧ b2 ≤ 35184372088832)
    (p0b : -9007199254740992 ≤ p0 ∧ p0 ≤ 9007199254740992) (p1b : -9007199254740992 ≤ p1 ∧ p1 ≤ 9007199254740992) (p2b : -9007199254740992 ≤ p2 ∧ p2 ≤ 9007199254740992)
    (ed : wrap64 (t - rf) = d) (e0 : wrap64 (h0 * d) = p0) (e1 : wrap64 (h1 * d) = p1) (e2 : wrap64 (h2 * d) = p2) (hu0 : 1024 * x - b0 - p0 = u0) (hu1 : 1024 * y - b1 - p1 = u1) (hu2 : 1024 * z - b2 - p2 = u2) :
    Calls Try.prog 28 #[.agg #[.int .i64 b0, .int .i64 b1, .int .i64 b2, .int .i64 h0, .int .i64 h1, .int .i64 h2, .int .i64 rf, .int .i64 (m 0), .int .i64 (m 1), .int .i64 (m 2), .int .i64 (m 3), .int .i64 (m 4), .int .i64 (m 5), .int .i64 (m 6), .int .i64 (m 7), .int .i64 (m 8)], .agg #[.int .i64 x, .int .i64 y, .int .i64 z, .int .i64 t]] w fun e w' => e = .returned (.agg #[.int .i64 u0, .int .i64 u1, .int .i64 u2]) ∧ Ext w w' := by
  have E : Hid (1024 * x - b0 - p0 = u0 ∧ 1024 * y - b1 - p1 = u1 ∧ 1024 * z - b2 - p2 = u2) := ⟨hu0, hu1, hu2⟩
  clear hu0 hu1 hu2
  go_enter Try.func28, Try.ntmps28
  go_wp2_with fail
  refine bodyPost_ret (v := .agg #[.int .i64 u0, .int .i64 u1, .int .i64 u2]) (by simp [results, Try.results28, go_sem, E.out.1, E.out.2.1, E.out.2.2]) rfl ⟨rfl, by repeat (first | with_reducible assumption | with_reducible exact Ext.refl _ | with_reducible refine Ext.drew ?_ | with_reducible refine Ext.drewN ?_ _ | with_reducible refine Ext.alloc ?_ _ | with_reducible refine Ext.set ?_ (by first | exact Nat.le_refl _ | (dsimp only; omega) | (simp; done)) _)⟩
theorem cleared_any (b0 b1 b2 h0 h1 h2 rf : Int) (m : Nat → Int) (x y z t : Int) (w : World) (hc : okC b0 b1 b2 h0 h1 h2 rf m = true) (hr : okR x y z t = true) :
    Calls Try.prog 28 #[.agg #[.int .i64 b0, .int .i64 b1, .int .i64 b2, .int .i64 h0, .int .i64 h1, .int .i64 h2, .int .i64 rf, .int .i64 (m 0), .int .i64 (m 1), .int .i64 (m 2), .int .i64 (m 3), .int .i64 (m 4), .int .i64 (m 5), .int .i64 (m 6), .int .i64 (m 7), .int .i64 (m 8)], .agg #[.int .i64 x, .int .i64 y, .int .i64 z, .int .i64 t]] w fun e w' => e = .returned (.agg #[.int .i64 (clr x b0 h0 (t - rf)), .int .i64 (clr y b1 h1 (t - rf)), .int .i64 (clr z b2 h2 (t - rf))]) ∧ Ext w w' := by
  obtain ⟨rx, ry, rz, rt⟩ := okR_bounds hr
  obtain ⟨cr, cb, ch, cm⟩ := okC_parts hc
  have hd : -255 ≤ t - rf ∧ t - rf ≤ 255 := by omega
  obtain ⟨p0, q0⟩ := clr_bound rx (ok3_parts cb).1 (ok3_parts ch).1 hd
  obtain ⟨p1, q1⟩ := clr_bound ry (ok3_parts cb).2.1 (ok3_parts ch).2.1 hd
  obtain ⟨p2, q2⟩ := clr_bound rz (ok3_parts cb).2.2 (ok3_parts ch).2.2 hd
  have d0 := okW_bounds (ok3_parts cb).1
  have d1 := okW_bounds (ok3_parts cb).2.1
  have d2 := okW_bounds (ok3_parts cb).2.2
  have w64 : ∀ a : Int, -9007199254740992 ≤ a ∧ a ≤ 9007199254740992 → wrap64 a = a := fun a h => by
    unfold wrap64; omega
  exact cleared_raw b0 b1 b2 h0 h1 h2 rf m x y z t (t - rf) (h0 * (t - rf)) (h1 * (t - rf)) (h2 * (t - rf)) _ _ _ w rx ry rz (by omega) (by omega) (by omega) p0 p1 p2 (w64 _ (by omega)) (w64 _ p0) (w64 _ p1) (w64 _ p2) rfl rfl rfl
/-- what is left of a sample -/
def uC (b0 b1 b2 h0 h1 h2 rf x y z t : Int) (j : Nat) : Int := if j = 0 then clr x b0 h0 (t - rf) else if j = 1 then clr y b1 h1 (t - rf) else clr z b2 h2 (t - rf)
/-- what Apply tells -/
def calR (b0 b1 b2 h0 h1 h2 rf : Int) (m : Nat → Int) (x y z t : Int) : Value :=
  if okC b0 b1 b2 h0 h1 h2 rf m && okR x y z t then vres (nearQ (rowU m (uC b0 b1 b2 h0 h1 h2 rf x y z t) 0)) (nearQ (rowU m (uC b0 b1 b2 h0 h1 h2 rf x y z t) 1)) (nearQ (rowU m (uC b0 b1 b2 h0 h1 h2 rf x y z t) 2)) else vbad
theorem uC_bound (b0 b1 b2 h0 h1 h2 rf : Int) (m : Nat → Int) (x y z t : Int) (hc : okC b0 b1 b2 h0 h1 h2 rf m = true) (hr : okR x y z t = true) : ∀ j, j < 3 → -36028797018963968 ≤ uC b0 b1 b2 h0 h1 h2 rf x y z t j ∧ uC b0 b1 b2 h0 h1 h2 rf x y z t j ≤ 36028797018963968 := by
  obtain ⟨rx, ry, rz, rt⟩ := okR_bounds hr
  obtain ⟨cr, cb, ch, cm⟩ := okC_parts hc
  have hd : -255 ≤ t - rf ∧ t - rf ≤ 255 := by omega
  intro j hj
  match j, hj with
  | 0, _ => exact (clr_bound rx (ok3_parts cb).1 (ok3_parts ch).1 hd).2
  | 1, _ => exact (clr_bound ry (ok3_parts cb).2.1 (ok3_parts ch).2.1 hd).2
  | 2, _ => exact (clr_bound rz (ok3_parts cb).2.2 (ok3_parts ch).2.2 hd).2
set_option maxRecDepth 20000 in
set_option maxHeartbeats 8000000 in
theorem cApply_any (b0 b1 b2 h0 h1 h2 rf : Int) (m : Nat → Int) (x y z t : Int) (w : World) :
    Calls Try.prog 10 #[.agg #[.int .i64 b0, .int .i64 b1, .int .i64 b2, .int .i64 h0, .int .i64 h1, .int .i64 h2, .int .i64 rf, .int .i64 (m 0), .int .i64 (m 1), .int .i64 (m 2), .int .i64 (m 3), .int .i64 (m 4), .int .i64 (m 5), .int .i64 (m 6), .int .i64 (m 7), .int .i64 (m 8)], .agg #[.int .i64 x, .int .i64 y, .int .i64 z, .int .i64 t]] w fun e w' => e = .returned (calR b0 b1 b2 h0 h1 h2 rf m x y z t) ∧ Ext w w' := by
  have HK : Hid (∀ w, Calls Try.prog 12 #[.agg #[.int .i64 b0, .int .i64 b1, .int .i64 b2, .int .i64 h0, .int .i64 h1, .int .i64 h2, .int .i64 rf, .int .i64 (m 0), .int .i64 (m 1), .int .i64 (m 2), .int .i64 (m 3), .int .i64 (m 4), .int .i64 (m 5), .int .i64 (m 6), .int .i64 (m 7), .int .i64 (m 8)]] w fun e w' => e = .returned (.int .i64 (chkC b0 b1 b2 h0 h1 h2 rf m)) ∧ Ext w w') := cCheck_any b0 b1 b2 h0 h1 h2 rf m
  have HI : Hid (∀ w, Calls Try.prog 26 #[.agg #[.int .i64 x, .int .i64 y, .int .i64 z, .int .i64 t]] w fun e w' => e = .returned (.bool (okR x y z t)) ∧ Ext w w') := israw_any x y z t
  have ne : ∀ k : Nat, w.heap.size ≠ w.heap.size + (k + 1) := fun k => by omega
  have B1 : Hid (HV (((w.alloc (.cells #[.int .i64 b0, .int .i64 b1, .int .i64 b2, .int .i64 h0, .int .i64 h1, .int .i64 h2, .int .i64 rf, .int .i64 (m 0), .int .i64 (m 1), .int .i64 (m 2), .int .i64 (m 3), .int .i64 (m 4), .int .i64 (m 5), .int .i64 (m 6), .int .i64 (m 7), .int .i64 (m 8)] 27)).alloc (.cells #[.int .i64 x, .int .i64 y, .int .i64 z, .int .i64 t] 29)).alloc (.cells #[.int .i64 0, .int .i64 0, .int .i64 0] 24)) w.heap.size [.int .i64 b0, .int .i64 b1, .int .i64 b2, .int .i64 h0, .int .i64 h1, .int .i64 h2, .int .i64 rf, .int .i64 (m 0), .int .i64 (m 1), .int .i64 (m 2), .int .i64 (m 3), .int .i64 (m 4), .int .i64 (m 5), .int .i64 (m 6), .int .i64 (m 7), .int .i64 (m 8)]) := ((hv_at rfl).alloc _).alloc _
  have B2 : Hid (HV (((w.alloc (.cells #[.int .i64 b0, .int .i64 b1, .int .i64 b2, .int .i64 h0, .int .i64 h1, .int .i64 h2, .int .i64 rf, .int .i64 (m 0), .int .i64 (m 1), .int .i64 (m 2), .int .i64 (m 3), .int .i64 (m 4), .int .i64 (m 5), .int .i64 (m 6), .int .i64 (m 7), .int .i64 (m 8)] 27)).alloc (.cells #[.int .i64 x, .int .i64 y, .int .i64 z, .int .i64 t] 29)).alloc (.cells #[.int .i64 0, .int .i64 0, .int .i64 0] 24)) (w.heap.size + 1) [.int .i64 x, .int .i64 y, .int .i64 z, .int .i64 t]) := (hv_at (by simp)).alloc _
  have B3 : Hid (HV (((w.alloc (.cells #[.int .i64 b0, .int .i64 b1, .int .i64 b2, .int .i64 h0, .int .i64 h1, .int .i64 h2, .int .i64 rf, .int .i64 (m 0), .int .i64 (m 1), .int .i64 (m 2), .int .i64 (m 3), .int .i64 (m 4), .int .i64 (m 5), .int .i64 (m 6), .int .i64 (m 7), .int .i64 (m 8)] 27)).alloc (.cells #[.int .i64 x, .int .i64 y, .int .i64 z, .int .i64 t] 29)).alloc (.cells #[.int .i64 0, .int .i64 0, .int .i64 0] 24)) (w.heap.size + 2) [.int .i64 0, .int .i64 0, .int .i64 0]) := hv_at (by simp)
  have HX : Hid (Ext w (((w.alloc (.cells #[.int .i64 b0, .int .i64 b1, .int .i64 b2, .int .i64 h0, .int .i64 h1, .int .i64 h2, .int .i64 rf, .int .i64 (m 0), .int .i64 (m 1), .int .i64 (m 2), .int .i64 (m 3), .int .i64 (m 4), .int .i64 (m 5), .int .i64 (m 6), .int .i64 (m 7), .int .i64 (m 8)] 27)).alloc (.cells #[.int .i64 x, .int .i64 y, .int .i64 z, .int .i64 t] 29)).alloc (.cells #[.int .i64 0, .int .i64 0, .int .i64 0] 24))) := (((Ext.refl w).alloc _).alloc _).alloc _
  have lt2 : Hid (w.heap.size ≤ w.heap.size + 2) := Nat.le_add_right _ _
  cases hc : okC b0 b1 b2 h0 h1 h2 rf m
  · have ec : chkC b0 b1 b2 h0 h1 h2 rf m = 1 := by unfold chkC; rw [hc]; rfl
    have er : calR b0 b1 b2 h0 h1 h2 rf m x y z t = vbad := by unfold calR; rw [hc]; rfl
    rw [ec] at HK
    rw [er]
    clear ec er hc
    go_enter Try.func10, Try.ntmps10
    go_wp2_with fail
    generalize (((w.alloc (.cells #[.int .i64 b0, .int .i64 b1, .int .i64 b2, .int .i64 h0, .int .i64 h1, .int .i64 h2, .int .i64 rf, .int .i64 (m 0), .int .i64 (m 1), .int .i64 (m 2), .int .i64 (m 3), .int .i64 (m 4), .int .i64 (m 5), .int .i64 (m 6), .int .i64 (m 7), .int .i64 (m 8)] 27)).alloc (.cells #[.int .i64 x, .int .i64 y, .int .i64 z, .int .i64 t] 29)).alloc (.cells #[.int .i64 0, .int .i64 0, .int .i64 0] 24)) = wa at *
    refine (HK.out _).mono ?_
    rintro e w1 ⟨rfl, x1⟩
    obtain ⟨z0, z1, z2⟩ := (B3.out.ext x1).k3
    obtain ⟨y0, y1, y2⟩ := (B3.out.ext x1).z3
    have X1 : Hid (Ext w w1) := HX.out.trans x1
    go_wp2_with fail
    refine bodyPost_ret (v := vbad) (by simp [vbad, results, Try.results10, go_sem, z0, z1, z2]) rfl ⟨rfl, ?_⟩
    exact Ext.set (Ext.set (Ext.set X1.out lt2.out _) lt2.out _) lt2.out _
  · have ec : chkC b0 b1 b2 h0 h1 h2 rf m = 0 := by unfold chkC; rw [hc]; rfl
    rw [ec] at HK
    clear ec
    cases hr : okR x y z t
    · have er : calR b0 b1 b2 h0 h1 h2 rf m x y z t = vbad := by unfold calR; rw [hc, hr]; rfl
      rw [er]
      rw [hr] at HI
      clear er hc hr
      go_enter Try.func10, Try.ntmps10
      go_wp2_with fail
      generalize (((w.alloc (.cells #[.int .i64 b0, .int .i64 b1, .int .i64 b2, .int .i64 h0, .int .i64 h1, .int .i64 h2, .int .i64 rf, .int .i64 (m 0), .int .i64 (m 1), .int .i64 (m 2), .int .i64 (m 3), .int .i64 (m 4), .int .i64 (m 5), .int .i64 (m 6), .int .i64 (m 7), .int .i64 (m 8)] 27)).alloc (.cells #[.int .i64 x, .int .i64 y, .int .i64 z, .int .i64 t] 29)).alloc (.cells #[.int .i64 0, .int .i64 0, .int .i64 0] 24)) = wa at *
      refine (HK.out _).mono ?_
      rintro e w1 ⟨rfl, x1⟩
      obtain ⟨r0, r1, r2, r3⟩ := (B2.out.ext x1).k4
      go_wp2_with fail
      refine (HI.out _).mono ?_
      rintro e w2 ⟨rfl, x2⟩
      obtain ⟨z0, z1, z2⟩ := (B3.out.ext (x1.trans x2)).k3
      obtain ⟨y0, y1, y2⟩ := (B3.out.ext (x1.trans x2)).z3
      have X1 : Hid (Ext w w2) := HX.out.trans (x1.trans x2)
      go_wp2_with fail
      refine bodyPost_ret (v := vbad) (by simp [vbad, results, Try.results10, go_sem, z0, z1, z2]) rfl ⟨rfl, ?_⟩
      exact Ext.set (Ext.set (Ext.set X1.out lt2.out _) lt2.out _) lt2.out _
    · have er : calR b0 b1 b2 h0 h1 h2 rf m x y z t = vres (nearQ (rowU m (uC b0 b1 b2 h0 h1 h2 rf x y z t) 0)) (nearQ (rowU m (uC b0 b1 b2 h0 h1 h2 rf x y z t) 1)) (nearQ (rowU m (uC b0 b1 b2 h0 h1 h2 rf x y z t) 2)) := by unfold calR; rw [hc, hr]; rfl
      rw [er]
      have HC : Hid (∀ w, Calls Try.prog 28 #[.agg #[.int .i64 b0, .int .i64 b1, .int .i64 b2, .int .i64 h0, .int .i64 h1, .int .i64 h2, .int .i64 rf, .int .i64 (m 0), .int .i64 (m 1), .int .i64 (m 2), .int .i64 (m 3), .int .i64 (m 4), .int .i64 (m 5), .int .i64 (m 6), .int .i64 (m 7), .int .i64 (m 8)], .agg #[.int .i64 x, .int .i64 y, .int .i64 z, .int .i64 t]] w fun e w' => e = .returned (.agg #[.int .i64 (uC b0 b1 b2 h0 h1 h2 rf x y z t 0), .int .i64 (uC b0 b1 b2 h0 h1 h2 rf x y z t 1), .int .i64 (uC b0 b1 b2 h0 h1 h2 rf x y z t 2)]) ∧ Ext w w') := fun w => cleared_any b0 b1 b2 h0 h1 h2 rf m x y z t w hc hr
      have HG : Hid (∀ w, Calls Try.prog 27 #[.agg #[.int .i64 (m 0), .int .i64 (m 1), .int .i64 (m 2), .int .i64 (m 3), .int .i64 (m 4), .int .i64 (m 5), .int .i64 (m 6), .int .i64 (m 7), .int .i64 (m 8)], .agg #[.int .i64 (uC b0 b1 b2 h0 h1 h2 rf x y z t 0), .int .i64 (uC b0 b1 b2 h0 h1 h2 rf x y z t 1), .int .i64 (uC b0 b1 b2 h0 h1 h2 rf x y z t 2)]] w fun e w' => e = .returned (vres (nearQ (rowU m (uC b0 b1 b2 h0 h1 h2 rf x y z t) 0)) (nearQ (rowU m (uC b0 b1 b2 h0 h1 h2 rf x y z t) 1)) (nearQ (rowU m (uC b0 b1 b2 h0 h1 h2 rf x y z t) 2))) ∧ Ext w w') := fun w => image_any m (uC b0 b1 b2 h0 h1 h2 rf x y z t) w (fun k hk => okM_at (okC_parts hc).2.2.2 hk) (uC_bound b0 b1 b2 h0 h1 h2 rf m x y z t hc hr)
      rw [hr] at HI
      obtain ⟨g0, g1, g2, ge, eg⟩ := vres_shape (nearQ (rowU m (uC b0 b1 b2 h0 h1 h2 rf x y z t) 0)) (nearQ (rowU m (uC b0 b1 b2 h0 h1 h2 rf x y z t) 1)) (nearQ (rowU m (uC b0 b1 b2 h0 h1 h2 rf x y z t) 2))
      rw [eg] at HG ⊢
      clear er hc hr eg
      generalize uC b0 b1 b2 h0 h1 h2 rf x y z t 0 = c0 at *
      generalize uC b0 b1 b2 h0 h1 h2 rf x y z t 1 = c1 at *
      generalize uC b0 b1 b2 h0 h1 h2 rf x y z t 2 = c2 at *
      go_enter Try.func10, Try.ntmps10
      go_wp2_with fail
      generalize (((w.alloc (.cells #[.int .i64 b0, .int .i64 b1, .int .i64 b2, .int .i64 h0, .int .i64 h1, .int .i64 h2, .int .i64 rf, .int .i64 (m 0), .int .i64 (m 1), .int .i64 (m 2), .int .i64 (m 3), .int .i64 (m 4), .int .i64 (m 5), .int .i64 (m 6), .int .i64 (m 7), .int .i64 (m 8)] 27)).alloc (.cells #[.int .i64 x, .int .i64 y, .int .i64 z, .int .i64 t] 29)).alloc (.cells #[.int .i64 0, .int .i64 0, .int .i64 0] 24)) = wa at *
      refine (HK.out _).mono ?_
      rintro e w1 ⟨rfl, x1⟩
      obtain ⟨r0, r1, r2, r3⟩ := (B2.out.ext x1).k4
      go_wp2_with fail
      refine (HI.out _).mono ?_
      rintro e w2 ⟨rfl, x2⟩
      have B1 : Hid (HV w2 w.heap.size [.int .i64 b0, .int .i64 b1, .int .i64 b2, .int .i64 h0, .int .i64 h1, .int .i64 h2, .int .i64 rf, .int .i64 (m 0), .int .i64 (m 1), .int .i64 (m 2), .int .i64 (m 3), .int .i64 (m 4), .int .i64 (m 5), .int .i64 (m 6), .int .i64 (m 7), .int .i64 (m 8)]) := B1.out.ext (x1.trans x2)
      have B2 : Hid (HV w2 (w.heap.size + 1) [.int .i64 x, .int .i64 y, .int .i64 z, .int .i64 t]) := B2.out.ext (x1.trans x2)
      have B3 : Hid (HV w2 (w.heap.size + 2) [.int .i64 0, .int .i64 0, .int .i64 0]) := B3.out.ext (x1.trans x2)
      have HX : Hid (Ext w w2) := HX.out.trans (x1.trans x2)
      clear r0 r1 r2 r3 x1 x2 HK HI ne
      go_wp2_with fail
      obtain ⟨k0, k1, k2, k3, k4, k5, k6, k7, k8, k9, k10, k11, k12, k13, k14, k15⟩ := B1.out.k16
      obtain ⟨r0, r1, r2, r3⟩ := B2.out.k4
      have R0 : w2.rangeAt w.heap.size 7 [.int .i64 (m 0), .int .i64 (m 1), .int .i64 (m 2), .int .i64 (m 3), .int .i64 (m 4), .int .i64 (m 5), .int .i64 (m 6), .int .i64 (m 7), .int .i64 (m 8)] := B1.out.rng 7
      obtain ⟨z0, z1, z2⟩ := B3.out.k3
      obtain ⟨y0, y1, y2⟩ := B3.out.z3
      have hu9 : Try.prog.underlying 25 = some (.array 9 2) := by kernel_rfl
      have hs9 : (Try.prog.info? 25).map (·.size) = some ([.int .i64 (m 0), .int .i64 (m 1), .int .i64 (m 2), .int .i64 (m 3), .int .i64 (m 4), .int .i64 (m 5), .int .i64 (m 6), .int .i64 (m 7), .int .i64 (m 8)] : List Value).length := by kernel_rfl
      go_region_held3 (fun w' => w'.cell? ⟨w.heap.size, 0, none⟩ = some (.int .i64 b0) ∧ w'.cell? ⟨w.heap.size, 1, none⟩ = some (.int .i64 b1) ∧ w'.cell? ⟨w.heap.size, 2, none⟩ = some (.int .i64 b2) ∧ w'.cell? ⟨w.heap.size, 3, none⟩ = some (.int .i64 h0) ∧ w'.cell? ⟨w.heap.size, 4, none⟩ = some (.int .i64 h1) ∧ w'.cell? ⟨w.heap.size, 5, none⟩ = some (.int .i64 h2) ∧ w'.cell? ⟨w.heap.size, 6, none⟩ = some (.int .i64 rf) ∧ w'.cell? ⟨w.heap.size, 7, none⟩ = some (.int .i64 (m 0)) ∧ w'.cell? ⟨w.heap.size, 8, none⟩ = some (.int .i64 (m 1)) ∧ w'.cell? ⟨w.heap.size, 9, none⟩ = some (.int .i64 (m 2)) ∧ w'.cell? ⟨w.heap.size, 10, none⟩ = some (.int .i64 (m 3)) ∧ w'.cell? ⟨w.heap.size, 11, none⟩ = some (.int .i64 (m 4)) ∧ w'.cell? ⟨w.heap.size, 12, none⟩ = some (.int .i64 (m 5)) ∧ w'.cell? ⟨w.heap.size, 13, none⟩ = some (.int .i64 (m 6)) ∧ w'.cell? ⟨w.heap.size, 14, none⟩ = some (.int .i64 (m 7)) ∧ w'.cell? ⟨w.heap.size, 15, none⟩ = some (.int .i64 (m 8)) ∧ w'.cell? ⟨w.heap.size + 1, 0, none⟩ = some (.int .i64 x) ∧ w'.cell? ⟨w.heap.size + 1, 1, none⟩ = some (.int .i64 y) ∧ w'.cell? ⟨w.heap.size + 1, 2, none⟩ = some (.int .i64 z) ∧ w'.cell? ⟨w.heap.size + 1, 3, none⟩ = some (.int .i64 t) ∧ w'.rangeAt w.heap.size 7 [.int .i64 (m 0), .int .i64 (m 1), .int .i64 (m 2), .int .i64 (m 3), .int .i64 (m 4), .int .i64 (m 5), .int .i64 (m 6), .int .i64 (m 7), .int .i64 (m 8)]) (first | (simp [*]; done) | (refine ⟨?_, ?_, ?_, ?_, ?_, ?_, ?_, ?_, ?_, ?_, ?_, ?_, ?_, ?_, ?_, ?_, ?_, ?_, ?_, ?_, ?_⟩ <;> first | (exact rangeAt_far (rangeAt_far (rangeAt_far R4 (by omega)) (by omega)) (by omega)) | (rw [World.cell?_setCell_far _ _ _ _ (by dsimp only; omega), World.cell?_setCell_far _ _ _ _ (by dsimp only; omega), World.cell?_setCell_far _ _ _ _ (by dsimp only; omega)]; with_reducible assumption)) | skip) (first | (go_at_call 28; refine (HC.out _).mono ?_; rintro e w3 ⟨rfl, x3⟩; have Y3 : Ext w2 w3 := Ext.trans (by repeat (first | with_reducible assumption | with_reducible exact Ext.refl _ | with_reducible refine Ext.drew ?_ | with_reducible refine Ext.drewN ?_ _ | with_reducible refine Ext.alloc ?_ _ | with_reducible refine Ext.set ?_ (by first | exact Nat.le_refl _ | (dsimp only; omega) | (simp; done)) _)) x3; have R3 : w3.rangeAt w.heap.size 7 [.int .i64 (m 0), .int .i64 (m 1), .int .i64 (m 2), .int .i64 (m 3), .int .i64 (m 4), .int .i64 (m 5), .int .i64 (m 6), .int .i64 (m 7), .int .i64 (m 8)] := (B1.out.ext Y3).rng 7; obtain ⟨a0, a1, a2, a3, a4, a5, a6, a7, a8, a9, a10, a11, a12, a13, a14, a15⟩ := (B1.out.ext Y3).k16; obtain ⟨q0, q1, q2, q3⟩ := (B2.out.ext Y3).k4; obtain ⟨z0, z1, z2⟩ := (B3.out.ext Y3).k3; obtain ⟨y0, y1, y2⟩ := (B3.out.ext Y3).z3) | (go_at_call 27; refine (HG.out _).mono ?_; rintro e w4 ⟨rfl, x4⟩; have Y4 : Ext w2 w4 := Ext.trans (by repeat (first | with_reducible assumption | with_reducible exact Ext.refl _ | with_reducible refine Ext.drew ?_ | with_reducible refine Ext.drewN ?_ _ | with_reducible refine Ext.alloc ?_ _ | with_reducible refine Ext.set ?_ (by first | exact Nat.le_refl _ | (dsimp only; omega) | (simp; done)) _)) x4; have R4 : w4.rangeAt w.heap.size 7 [.int .i64 (m 0), .int .i64 (m 1), .int .i64 (m 2), .int .i64 (m 3), .int .i64 (m 4), .int .i64 (m 5), .int .i64 (m 6), .int .i64 (m 7), .int .i64 (m 8)] := (B1.out.ext Y4).rng 7; obtain ⟨d0, d1, d2, d3, d4, d5, d6, d7, d8, d9, d10, d11, d12, d13, d14, d15⟩ := (B1.out.ext Y4).k16; obtain ⟨p0, p1, p2, p3⟩ := (B2.out.ext Y4).k4; obtain ⟨z0, z1, z2⟩ := (B3.out.ext Y4).k3; obtain ⟨y0, y1, y2⟩ := (B3.out.ext Y4).z3))
      all_goals
        have X4 : Hid (Ext w w4) := HX.out.trans Y4
        go_wp2_with fail
        refine bodyPost_ret (v := .tuple #[.agg #[.int .i64 g0, .int .i64 g1, .int .i64 g2], .int .i64 ge]) (by simp [results, Try.results10, go_sem, z0, z1, z2]) rfl ⟨rfl, ?_⟩
        exact Ext.set (Ext.set (Ext.set X4.out lt2.out _) lt2.out _) lt2.out _
end Go.Proofs.Ytnilhamcojjloaa
