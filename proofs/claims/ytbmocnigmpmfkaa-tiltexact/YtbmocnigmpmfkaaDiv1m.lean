/- The reference's whole numbers with a sign: Divide. -/
import Derived.Test.YtbmocnigmpmfkaaMg40
namespace Go.Proofs.Ytbmocnigmpmfkaa
open Go.RowKit

/-- two cells of a value of sign and size -/
structure Has (w : World) (b : Nat) (u v : Value) : Prop where
  c0 : w.cell? ⟨b, 0, none⟩ = some u
  c1 : w.cell? ⟨b, 1, none⟩ = some v
  f0 : w.frozen? ⟨b, 0, none⟩ = false
  f1 : w.frozen? ⟨b, 1, none⟩ = false
theorem Has.ext {w w' : World} {b : Nat} {u v : Value} (h : Has w b u v) (hx : Ext w w') : Has w' b u v :=
  ⟨hx.kept h.c0, hx.kept h.c1, by rw [(hx.lay).2.1 _ _ (cell_lt h.c0)]; exact h.f0, by rw [(hx.lay).2.1 _ _ (cell_lt h.c1)]; exact h.f1⟩
theorem Has.lt {w : World} {b : Nat} {u v : Value} (h : Has w b u v) : b < w.heap.size := cell_lt h.c0

/-- those and one variable more -/
structure Laid5 (p g : Nat) (W : World) (u1 v1 u2 v2 u3 v3 : Value) : Prop where
  a : Has W p u1 v1
  b : Has W (p + 1) u2 v2
  c : Has W (p + 1 + 1) (.bool false) (.slice none 0 0)
  d : Has W (p + 1 + 1 + 1) (.bool false) (.slice none 0 0)
  e : Has W g u3 v3
theorem Laid5.ext {p g : Nat} {W W' : World} {u1 v1 u2 v2 u3 v3 : Value} (h : Laid5 p g W u1 v1 u2 v2 u3 v3) (hx : Ext W W') : Laid5 p g W' u1 v1 u2 v2 u3 v3 := ⟨h.a.ext hx, h.b.ext hx, h.c.ext hx, h.d.ext hx, h.e.ext hx⟩
theorem has_new (w : World) (u v : Value) : Has (w.alloc (.cells #[u, v] 63)) w.heap.size u v := by
  constructor <;> simp [go_sem]
/-- what a function of two such values with two answers lays first -/
structure Laid4 (p : Nat) (W : World) (u1 v1 u2 v2 : Value) : Prop where
  a : Has W p u1 v1
  b : Has W (p + 1) u2 v2
  c : Has W (p + 1 + 1) (.bool false) (.slice none 0 0)
  d : Has W (p + 1 + 1 + 1) (.bool false) (.slice none 0 0)
theorem Laid4.ext {p : Nat} {W W' : World} {u1 v1 u2 v2 : Value} (h : Laid4 p W u1 v1 u2 v2) (hx : Ext W W') : Laid4 p W' u1 v1 u2 v2 := ⟨h.a.ext hx, h.b.ext hx, h.c.ext hx, h.d.ext hx⟩
theorem laid4_start (w : World) (u1 v1 u2 v2 : Value) : Laid4 w.heap.size ((((w.alloc (.cells #[u1, v1] 63)).alloc (.cells #[u2, v2] 63)).alloc (.cells #[.bool false, .slice none 0 0] 63)).alloc (.cells #[.bool false, .slice none 0 0] 63)) u1 v1 u2 v2 := by
  constructor <;> constructor <;> simp [go_sem]

set_option maxHeartbeats 4000000 in
theorem divide_pos (x y : Int) (k : Nat) (r1 r2 : Value) (w : World) (h1 : IsI w r1 x) (h2 : IsI w r2 y) (hk : k ≤ 4000) (f1 : Fit k x) (f2 : Fit k y) (hy : 0 < y) (hx : 0 ≤ x) :
    Calls Try.prog 60 #[r1, r2] w fun e w' => (∃ q r, e = .returned (.tuple #[q, r]) ∧ IsI w' q (x / y) ∧ IsI w' r (x % y)) ∧ Ext w w' := by
  have hq : (x / y).natAbs = x.natAbs / y.natAbs := by
    obtain ⟨a, rfl⟩ := Int.eq_ofNat_of_zero_le hx
    obtain ⟨b, rfl⟩ := Int.eq_ofNat_of_zero_le (Int.le_of_lt hy)
    rfl
  have hq0 : 0 ≤ x / y := Int.ediv_nonneg hx (Int.le_of_lt hy)
  have fq : Fit k (x / y) := f1.of_le (by rw [hq]; exact Nat.div_le_self _ _)
  have hmod : x - x / y * y = x % y := by have := Int.emod_add_mul_ediv x y; rw [Int.mul_comm] at this; omega
  have fqy : Fit (k + k) (x / y * y) := fq.mul f2
  obtain ⟨u1, rfl, k1⟩ := h1
  obtain ⟨u2, rfl, k2⟩ := h2
  have HD : Hid (∀ w', Ext w w' → Calls Try.prog 48 #[u1, u2] w' fun e w'' => (∃ q r, e = .returned (.tuple #[q, r]) ∧ IsN w'' q (x / y).natAbs ∧ IsN w'' r (x.natAbs % y.natAbs)) ∧ Ext w' w'') := fun w' hxx => by
    have h := ndivide_any x.natAbs y.natAbs u1 u2 w' (k1.ext hxx) (k2.ext hxx) (f1.small2 (by omega)) (f2.small (by omega)) (by omega) (Nat.le_trans f1.blen (by omega))
    rw [← hq] at h
    exact h
  have HM : Hid (∀ u w', IsN w' u (x / y).natAbs → Calls Try.prog 49 #[.bool false, u] w' fun e w'' => e = .returned (.agg #[.bool false, u]) ∧ Ext w' w'') := fun u w' hu => made_any false u _ w' hu (fq.small (by omega))
  have HI : Hid (∀ u w', IsN w' u (x / y).natAbs → IsI w' (.agg #[.bool false, u]) (x / y)) := fun u w' hu => ⟨u, by rw [decide_eq_false (by omega)], hu⟩
  have HT : Hid (∀ r w', Ext w w' → IsI w' r (x / y) → Calls Try.prog 54 #[r, .agg #[.bool (decide (y < 0)), u2]] w' fun e w'' => (∃ r', e = .returned r' ∧ IsI w'' r' (x / y * y)) ∧ Ext w' w'') := fun r w' hxx hr => times_isI (x / y) y r _ w' hr ⟨u2, rfl, k2.ext hxx⟩ (fq.small (by omega)) (f2.small (by omega)) (fqy.small (by omega))
  have HL : Hid (∀ r w', Ext w w' → IsI w' r (x / y * y) → Calls Try.prog 75 #[.agg #[.bool (decide (x < 0)), u1], r] w' fun e w'' => (∃ r', e = .returned r' ∧ IsI w'' r' (x % y)) ∧ Ext w' w'') := fun r w' hxx hr => by
    have h := less_isI x (x / y * y) _ r w' ⟨u1, rfl, k1.ext hxx⟩ hr (f1.small (by omega)) (fqy.small (by omega)) (((f1.le (by omega)).sub fqy).small (by omega))
    rw [hmod] at h
    exact h
  rw [decide_eq_false (show ¬ x < 0 by omega)] at HL ⊢
  rw [decide_eq_false (show ¬ y < 0 by omega)] at HT ⊢
  obtain ⟨a1, l1, c1, rfl⟩ := k1.isSlice
  obtain ⟨a2, l2, c2, rfl⟩ := k2.isSlice
  clear k1 k2 f1 f2 fq fqy hmod hq hq0 hx hy
  generalize (x / y).natAbs = Qn at *
  generalize x.natAbs % y.natAbs = Rn at *
  generalize x / y = Q at *
  generalize x % y = R at *
  generalize Q * y = P at *
  obtain ⟨p, hp⟩ : ∃ p : Nat, w.heap.size = p := ⟨_, rfl⟩
  have XS : Hid (Ext w ((((w.alloc (.cells #[.bool false, .slice a1 l1 c1] 63)).alloc (.cells #[.bool false, .slice a2 l2 c2] 63)).alloc (.cells #[.bool false, .slice none 0 0] 63)).alloc (.cells #[.bool false, .slice none 0 0] 63))) := ((((Ext.refl w).alloc _).alloc _).alloc _).alloc _
  have LS : Hid (Laid4 w.heap.size ((((w.alloc (.cells #[.bool false, .slice a1 l1 c1] 63)).alloc (.cells #[.bool false, .slice a2 l2 c2] 63)).alloc (.cells #[.bool false, .slice none 0 0] 63)).alloc (.cells #[.bool false, .slice none 0 0] 63)) (.bool false) (.slice a1 l1 c1) (.bool false) (.slice a2 l2 c2)) := laid4_start w _ _ _ _
  clear hp
  go_enter Try.func60, Try.ntmps60
  go_wp2_with fail
  generalize (((w.alloc (.cells #[.bool false, .slice a1 l1 c1] 63)).alloc (.cells #[.bool false, .slice a2 l2 c2] 63)).alloc (.cells #[.bool false, .slice none 0 0] 63)).alloc (.cells #[.bool false, .slice none 0 0] 63) = W at *
  refine (HD.out _ XS.out).mono ?_
  rintro e w1 ⟨⟨qn, rn, rfl, hqn, hrn⟩, x1⟩
  obtain ⟨aq, lq, cq, eq⟩ := hqn.isSlice
  obtain ⟨ar, lr, cr, er⟩ := hrn.isSlice
  subst eq er
  obtain ⟨A1, B1, C1, D1⟩ := LS.out.ext x1
  obtain ⟨a0, a1', a2', a3'⟩ := A1
  obtain ⟨b0, b1', b2', b3'⟩ := B1
  have X1 : Hid (Ext w w1) := XS.out.trans x1
  have x1W : Hid (Ext W w1) := x1
  have HQN : Hid _ := hqn
  have HC1 : Hid _ := C1
  have HD1 : Hid _ := D1
  clear hqn hrn x1 C1 D1
  go_wp2_with fail
  refine (HM.out _ _ HQN.out).mono ?_
  rintro e w2 ⟨rfl, x2⟩
  clear a0 a1' a2' a3' b0 b1' b2' b3'
  have x2W : Hid (Ext W (w2.alloc (.cells #[.bool false, .slice aq lq cq] 63))) := ((x1W.out).trans x2).alloc _
  have L5 : Hid (Laid5 w.heap.size w2.heap.size (w2.alloc (.cells #[.bool false, .slice aq lq cq] 63)) (.bool false) (.slice a1 l1 c1) (.bool false) (.slice a2 l2 c2) (.bool false) (.slice aq lq cq)) := by
    obtain ⟨A1, B1, C1, D1⟩ := LS.out.ext x2W.out
    exact ⟨A1, B1, C1, D1, has_new w2 _ _⟩
  have X2 : Hid (Ext w (w2.alloc (.cells #[.bool false, .slice aq lq cq] 63))) := (X1.out.trans x2).alloc _
  have HQ2 : Hid (IsI (w2.alloc (.cells #[.bool false, .slice aq lq cq] 63)) (.agg #[.bool false, .slice aq lq cq]) Q) := HI.out _ _ ((HQN.out.ext x2).ext ((Ext.refl _).alloc _))
  have hgp : w.heap.size + 1 + 1 + 1 < w2.heap.size := Nat.lt_of_lt_of_le LS.out.d.lt ((x1W.out).trans x2).size
  obtain ⟨⟨q0, q1, q2, q3⟩, ⟨q4, q5, q6, q7⟩, ⟨q8, q9, q10, q11⟩, ⟨q12, q13, q14, q15⟩, ⟨q16, q17, q18, q19⟩⟩ := L5.out
  clear x2
  go_wp2_with fail
  generalize w2.alloc (.cells #[.bool false, .slice aq lq cq] 63) = W2 at *
  generalize w2.heap.size = g at *
  have n1 : w.heap.size ≠ w.heap.size + 1 + 1 := by omega
  have n2 : w.heap.size + 1 ≠ w.heap.size + 1 + 1 := by omega
  have n3 : g ≠ w.heap.size + 1 + 1 := by omega
  have n4 : w.heap.size ≠ w.heap.size + 1 + 1 + 1 := by omega
  have n5 : w.heap.size + 1 ≠ w.heap.size + 1 + 1 + 1 := by omega
  have n6 : g ≠ w.heap.size + 1 + 1 + 1 := by omega
  go_region_held (fun w' => w'.cell? ⟨w.heap.size, 0, none⟩ = some (.bool false) ∧ w'.cell? ⟨w.heap.size, 1, none⟩ = some (.slice a1 l1 c1) ∧ w'.cell? ⟨w.heap.size + 1, 0, none⟩ = some (.bool false) ∧ w'.cell? ⟨w.heap.size + 1, 1, none⟩ = some (.slice a2 l2 c2) ∧ w'.cell? ⟨g, 0, none⟩ = some (.bool false) ∧ w'.cell? ⟨g, 1, none⟩ = some (.slice aq lq cq)) (first | (go_keep; done) | (simp only [far2 _ _ _ _ _ n1, far2 _ _ _ _ _ n2, far2 _ _ _ _ _ n3, far2 _ _ _ _ _ n4, far2 _ _ _ _ _ n5, far2 _ _ _ _ _ n6]; exact ⟨by assumption, by assumption, by assumption, by assumption, by assumption, by assumption⟩)) (first | (go_at_call 54; refine (HT.out _ _ (X2.out.drew) (HQ2.out.ext ((Ext.refl _).drew))).mono ?_; rintro e w3 ⟨⟨r3, rfl, h3⟩, x3⟩; obtain ⟨⟨s0, s1, s2, s3⟩, ⟨s4, s5, s6, s7⟩, ⟨s8, s9, s10, s11⟩, ⟨s12, s13, s14, s15⟩, ⟨s16, s17, s18, s19⟩⟩ := L5.out.ext (cell_drew x3)) | (go_at_call 75; refine (HL.out _ _ (X2.out.trans (cell_drew x3)) h3).mono ?_; rintro e w4 ⟨⟨r4, rfl, h4⟩, x4⟩; obtain ⟨⟨t0, t1, t2, t3⟩, ⟨t4, t5, t6, t7⟩, ⟨t8, t9, t10, t11⟩, ⟨t12, t13, t14, t15⟩, ⟨t16, t17, t18, t19⟩⟩ := L5.out.ext ((cell_drew x3).trans x4); obtain ⟨u4, hu4, k4⟩ := h4; obtain ⟨au, lu, cu, hau⟩ := k4.isSlice; subst hau; subst hu4))
  have HQ4 : Hid (IsI w4 (.agg #[.bool false, .slice aq lq cq]) Q) := HQ2.out.ext ((cell_drew x3).trans x4)
  have HR4 : Hid (IsI w4 (.agg #[.bool (decide (R < 0)), .slice au lu cu]) R) := ⟨_, rfl, k4⟩
  have X4 : Hid (Ext w w4) := (X2.out.trans (cell_drew x3)).trans x4
  have n7 : w.heap.size + 1 + 1 + 1 ≠ w.heap.size + 1 + 1 := by omega
  go_wp2_with fail
  exact bodyPost_ret (v := .tuple #[.agg #[.bool false, .slice aq lq cq], .agg #[.bool (decide (R < 0)), .slice au lu cu]]) (by simp [results, Try.results60, go_sem, t8, t9, t12, t13]) rfl
    ⟨⟨_, _, rfl, (HQ4.out.set2 t8 t9).set2 (by rw [far2 _ _ _ _ _ n7]; exact t12) (by rw [far2 _ _ _ _ _ n7]; exact t13), (HR4.out.set2 t8 t9).set2 (by rw [far2 _ _ _ _ _ n7]; exact t12) (by rw [far2 _ _ _ _ _ n7]; exact t13)⟩,
      (((X4.out.setCell (show w.heap.size ≤ w.heap.size + 1 + 1 by omega) _).setCell (show w.heap.size ≤ w.heap.size + 1 + 1 by omega) _).setCell (show w.heap.size ≤ w.heap.size + 1 + 1 + 1 by omega) _).setCell (show w.heap.size ≤ w.heap.size + 1 + 1 + 1 by omega) _⟩
end Go.Proofs.Ytbmocnigmpmfkaa
