/- The reference's whole numbers with a sign: Divide, below 0. -/
import Derived.Test.YtbmocnigmpmfkaaDiv1m
namespace Go.Proofs.Ytbmocnigmpmfkaa
open Go.RowKit

theorem Has.far {w : World} {b g : Nat} {u v x y : Value} (h : Has w b u v) (hb : b ≠ g) : Has ((w.setCell ⟨g, 0, none⟩ x).setCell ⟨g, 1, none⟩ y) b u v :=
  ⟨by rw [far2 _ _ _ _ _ hb]; exact h.c0, by rw [far2 _ _ _ _ _ hb]; exact h.c1, by simp [h.f0], by simp [h.f1]⟩
theorem Has.here {w : World} {g : Nat} {u v x y : Value} (h : Has w g u v) : Has ((w.setCell ⟨g, 0, none⟩ x).setCell ⟨g, 1, none⟩ y) g x y := by
  refine ⟨?_, ?_, by simp [h.f0], by simp [h.f1]⟩
  · rw [World.cell?_setCell_other _ _ _ _ (by simp)]
    exact World.cell?_setCell_same _ _ _ h.c0
  · exact World.cell?_setCell_same _ _ _ (by rw [World.cell?_setCell_other _ _ _ _ (by simp)]; exact h.c1)
theorem fit_one (k : Nat) (hk : 1 ≤ k) : Fit k 1 := by
  have := Nat.pow_le_pow_right (n := 2) (by omega) hk
  unfold Fit
  show 1 < 2 ^ k
  omega
theorem fit_pos {k : Nat} {y : Int} (h : Fit k y) (hy : 0 < y) : 1 ≤ k := by
  apply Nat.pos_of_ne_zero
  intro h0
  subst h0
  have : y.natAbs < 1 := h
  omega
theorem floor_eq (x y q : Int) (hy : 0 < y) (h1 : q * y ≤ x) (h2 : x < q * y + y) : x / y = q := by
  apply Int.le_antisymm
  · apply Int.lt_add_one_iff.1
    apply Int.ediv_lt_of_lt_mul hy
    rw [Int.add_mul, Int.one_mul]
    exact h2
  · exact Int.le_ediv_of_mul_le hy h1
theorem floor_zero (x y : Int) (hy : 0 < y) (hx : x < 0) (hz : x.natAbs % y.natAbs = 0) : x / y = -((x.natAbs / y.natAbs : Nat) : Int) := by
  have h := Nat.mod_add_div x.natAbs y.natAbs
  rw [hz, Nat.zero_add] at h
  have e : (y.natAbs : Int) * ((x.natAbs / y.natAbs : Nat) : Int) = (x.natAbs : Int) := by rw [← Int.natCast_mul, h]
  have ey : (y.natAbs : Int) = y := by omega
  rw [ey] at e
  apply floor_eq _ _ _ hy
  · rw [Int.neg_mul, Int.mul_comm, e]; omega
  · rw [Int.neg_mul, Int.mul_comm, e]; omega
theorem floor_one (x y : Int) (hy : 0 < y) (hx : x < 0) (hz : x.natAbs % y.natAbs ≠ 0) : x / y = -((x.natAbs / y.natAbs : Nat) : Int) - 1 := by
  have h := Nat.mod_add_div x.natAbs y.natAbs
  have hl := Nat.mod_lt x.natAbs (show 0 < y.natAbs by omega)
  have e : (y.natAbs : Int) * ((x.natAbs / y.natAbs : Nat) : Int) = (x.natAbs : Int) - ((x.natAbs % y.natAbs : Nat) : Int) := by rw [← Int.natCast_mul]; omega
  have ey : (y.natAbs : Int) = y := by omega
  rw [ey] at e
  apply floor_eq _ _ _ hy
  · rw [Int.sub_mul, Int.neg_mul, Int.mul_comm, e]; omega
  · rw [Int.sub_mul, Int.neg_mul, Int.mul_comm, e]; omega

set_option maxHeartbeats 4000000 in
theorem divide_neg0 (x y : Int) (k : Nat) (r1 r2 : Value) (w : World) (h1 : IsI w r1 x) (h2 : IsI w r2 y) (hk : k ≤ 4000) (f1 : Fit k x) (f2 : Fit k y) (hy : 0 < y) (hx : x < 0) (hz : x.natAbs % y.natAbs = 0) :
    Calls Try.prog 60 #[r1, r2] w fun e w' => (∃ q r, e = .returned (.tuple #[q, r]) ∧ IsI w' q (x / y) ∧ IsI w' r (x % y)) ∧ Ext w w' := by
  have hq : x / y = -((x.natAbs / y.natAbs : Nat) : Int) := floor_zero x y hy hx hz
  have fq0 : Fit k (-((x.natAbs / y.natAbs : Nat) : Int)) := (f1.of_le (by rw [Int.natAbs_natCast]; exact Nat.div_le_self _ _) : Fit k ((x.natAbs / y.natAbs : Nat) : Int)).neg
  have fq : Fit (k + 1) (x / y) := by
    rw [hq]
    exact fq0.le (by omega)
  have hmod : x - x / y * y = x % y := by have := Int.emod_add_mul_ediv x y; rw [Int.mul_comm] at this; omega
  have fqy : Fit (k + 1 + k) (x / y * y) := fq.mul f2
  obtain ⟨u1, rfl, k1⟩ := h1
  obtain ⟨u2, rfl, k2⟩ := h2
  have HD : Hid (∀ w', Ext w w' → Calls Try.prog 48 #[u1, u2] w' fun e w'' => (∃ q r, e = .returned (.tuple #[q, r]) ∧ IsN w'' q (x.natAbs / y.natAbs) ∧ IsN w'' r (x.natAbs % y.natAbs)) ∧ Ext w' w'') := fun w' hxx => ndivide_any x.natAbs y.natAbs u1 u2 w' (k1.ext hxx) (k2.ext hxx) (f1.small2 (by omega)) (f2.small (by omega)) (by omega) (Nat.le_trans f1.blen (by omega))
  have HM : Hid (∀ u w', IsN w' u (x.natAbs / y.natAbs) → Calls Try.prog 49 #[.bool true, u] w' fun e w'' => e = .returned (.agg #[.bool (true && decide (0 < x.natAbs / y.natAbs)), u]) ∧ Ext w' w'') := fun u w' hu => made_any true u _ w' hu (small_le (f1.small (by omega)) (Nat.div_le_self _ _))
  have HI : Hid (∀ u w', IsN w' u (x.natAbs / y.natAbs) → IsI w' (.agg #[.bool (true && decide (0 < x.natAbs / y.natAbs)), u]) (-((x.natAbs / y.natAbs : Nat) : Int))) := fun u w' hu => isI_made w' true u _ hu
  have HT : Hid (∀ r w', Ext w w' → IsI w' r (x / y) → Calls Try.prog 54 #[r, .agg #[.bool (decide (y < 0)), u2]] w' fun e w'' => (∃ r', e = .returned r' ∧ IsI w'' r' (x / y * y)) ∧ Ext w' w'') := fun r w' hxx hr => times_isI (x / y) y r _ w' hr ⟨u2, rfl, k2.ext hxx⟩ (fq.small (by omega)) (f2.small (by omega)) (fqy.small (by omega))
  have HL : Hid (∀ r w', Ext w w' → IsI w' r (x / y * y) → Calls Try.prog 75 #[.agg #[.bool (decide (x < 0)), u1], r] w' fun e w'' => (∃ r', e = .returned r' ∧ IsI w'' r' (x % y)) ∧ Ext w' w'') := fun r w' hxx hr => by
    have h := less_isI x (x / y * y) _ r w' ⟨u1, rfl, k1.ext hxx⟩ hr (f1.small (by omega)) (fqy.small (by omega)) (((f1.le (by omega)).sub fqy).small (by omega))
    rw [hmod] at h
    exact h
  rw [decide_eq_true hx] at HL ⊢
  rw [decide_eq_false (show ¬ y < 0 by omega)] at HT ⊢
  obtain ⟨a1, l1, c1, rfl⟩ := k1.isSlice
  obtain ⟨a2, l2, c2, rfl⟩ := k2.isSlice
  rw [← hq] at HI
  have SR : Hid (Small (x.natAbs % y.natAbs)) := small_le (f1.small (by omega)) (Nat.mod_le _ _)
  clear k1 k2 f1 f2 fq fq0 fqy hmod hq hx hy
  have HZ : Hid (x.natAbs % y.natAbs = 0) := hz
  clear hz
  generalize (true && decide (0 < x.natAbs / y.natAbs)) = dq at *
  generalize x.natAbs / y.natAbs = Qn at *
  generalize x.natAbs % y.natAbs = Rn at *
  generalize x / y = Q at *
  generalize x % y = R at *
  generalize Q * y = PP at *
  have XS : Hid (Ext w ((((w.alloc (.cells #[.bool true, .slice a1 l1 c1] 63)).alloc (.cells #[.bool false, .slice a2 l2 c2] 63)).alloc (.cells #[.bool false, .slice none 0 0] 63)).alloc (.cells #[.bool false, .slice none 0 0] 63))) := ((((Ext.refl w).alloc _).alloc _).alloc _).alloc _
  have LS : Hid (Laid4 w.heap.size ((((w.alloc (.cells #[.bool true, .slice a1 l1 c1] 63)).alloc (.cells #[.bool false, .slice a2 l2 c2] 63)).alloc (.cells #[.bool false, .slice none 0 0] 63)).alloc (.cells #[.bool false, .slice none 0 0] 63)) (.bool true) (.slice a1 l1 c1) (.bool false) (.slice a2 l2 c2)) := laid4_start w _ _ _ _
  go_enter Try.func60, Try.ntmps60
  go_wp2_with fail
  generalize ((((w.alloc (.cells #[.bool true, .slice a1 l1 c1] 63)).alloc (.cells #[.bool false, .slice a2 l2 c2] 63)).alloc (.cells #[.bool false, .slice none 0 0] 63)).alloc (.cells #[.bool false, .slice none 0 0] 63)) = W at *
  refine (HD.out _ XS.out).mono ?_
  rintro e w1 ⟨⟨qn, rn, rfl, hqn, hrn⟩, x1⟩
  obtain ⟨aq, lq, cq, eq⟩ := hqn.isSlice
  obtain ⟨ar, lr, cr, er, zr, hlr⟩ := hrn.zero_iff
  subst eq er
  have hlr2 : lr ≤ 1000 := by have := SR.out.1; omega
  have hr0 : lr = 0 := zr.2 HZ.out
  subst hr0
  obtain ⟨A1, B1, C1, D1⟩ := LS.out.ext x1
  obtain ⟨a0, a1', a2', a3'⟩ := A1
  obtain ⟨b0, b1', b2', b3'⟩ := B1
  have X1 : Hid (Ext w w1) := XS.out.trans x1
  have x1W : Hid (Ext W w1) := x1
  have HQN : Hid _ := hqn
  clear hqn hrn x1 C1 D1 zr hlr
  go_wp2_with fail
  refine (HM.out _ _ HQN.out).mono ?_
  rintro e w2 ⟨rfl, x2⟩
  clear a0 a1' a2' a3' b0 b1' b2' b3'
  have x2W : Hid (Ext W (w2.alloc (.cells #[.bool dq, .slice aq lq cq] 63))) := ((x1W.out).trans x2).alloc _
  have L5 : Hid (Laid5 w.heap.size w2.heap.size (w2.alloc (.cells #[.bool dq, .slice aq lq cq] 63)) (.bool true) (.slice a1 l1 c1) (.bool false) (.slice a2 l2 c2) (.bool dq) (.slice aq lq cq)) := by
    obtain ⟨A1, B1, C1, D1⟩ := LS.out.ext x2W.out
    exact ⟨A1, B1, C1, D1, has_new w2 _ _⟩
  have X2 : Hid (Ext w (w2.alloc (.cells #[.bool dq, .slice aq lq cq] 63))) := (X1.out.trans x2).alloc _
  have HQ2 : Hid (IsI (w2.alloc (.cells #[.bool dq, .slice aq lq cq] 63)) (.agg #[.bool dq, .slice aq lq cq]) Q) := HI.out _ _ ((HQN.out.ext x2).ext ((Ext.refl _).alloc _))
  have hgp : w.heap.size + 1 + 1 + 1 < w2.heap.size := Nat.lt_of_lt_of_le LS.out.d.lt ((x1W.out).trans x2).size
  obtain ⟨⟨q0, q1, q2, q3⟩, ⟨q4, q5, q6, q7⟩, ⟨q8, q9, q10, q11⟩, ⟨q12, q13, q14, q15⟩, ⟨q16, q17, q18, q19⟩⟩ := L5.out
  clear x2
  go_wp2_with fail
  generalize (w2.alloc (.cells #[.bool dq, .slice aq lq cq] 63)) = W2 at *
  generalize w2.heap.size = g at *
  have n1 : w.heap.size ≠ w.heap.size + 1 + 1 := by omega
  have n2 : w.heap.size + 1 ≠ w.heap.size + 1 + 1 := by omega
  have n3 : g ≠ w.heap.size + 1 + 1 := by omega
  have n4 : w.heap.size ≠ w.heap.size + 1 + 1 + 1 := by omega
  have n5 : w.heap.size + 1 ≠ w.heap.size + 1 + 1 + 1 := by omega
  have n6 : g ≠ w.heap.size + 1 + 1 + 1 := by omega
  go_region_held (fun w' => w'.cell? ⟨w.heap.size, 0, none⟩ = some (.bool true) ∧ w'.cell? ⟨w.heap.size, 1, none⟩ = some (.slice a1 l1 c1) ∧ w'.cell? ⟨w.heap.size + 1, 0, none⟩ = some (.bool false) ∧ w'.cell? ⟨w.heap.size + 1, 1, none⟩ = some (.slice a2 l2 c2) ∧ w'.cell? ⟨g, 0, none⟩ = some (.bool dq) ∧ w'.cell? ⟨g, 1, none⟩ = some (.slice aq lq cq)) (first | (go_keep; done) | (simp only [far2 _ _ _ _ _ n1, far2 _ _ _ _ _ n2, far2 _ _ _ _ _ n3, far2 _ _ _ _ _ n4, far2 _ _ _ _ _ n5, far2 _ _ _ _ _ n6]; exact ⟨by assumption, by assumption, by assumption, by assumption, by assumption, by assumption⟩)) (first | (go_at_call 54; refine (HT.out _ _ (X2.out.drew) (HQ2.out.ext ((Ext.refl _).drew))).mono ?_; rintro e w3 ⟨⟨r3, rfl, h3⟩, x3⟩; obtain ⟨⟨s0, s1, s2, s3⟩, ⟨s4, s5, s6, s7⟩, ⟨s8, s9, s10, s11⟩, ⟨s12, s13, s14, s15⟩, ⟨s16, s17, s18, s19⟩⟩ := L5.out.ext (cell_drew x3)) | (go_at_call 75; refine (HL.out _ _ (X2.out.trans (cell_drew x3)) h3).mono ?_; rintro e w4 ⟨⟨r4, rfl, h4⟩, x4⟩; obtain ⟨⟨t0, t1, t2, t3⟩, ⟨t4, t5, t6, t7⟩, ⟨t8, t9, t10, t11⟩, ⟨t12, t13, t14, t15⟩, ⟨t16, t17, t18, t19⟩⟩ := L5.out.ext ((cell_drew x3).trans x4); obtain ⟨u4, hu4, k4⟩ := h4; obtain ⟨au, lu, cu, hau⟩ := k4.isSlice; subst hau; subst hu4))
  have HQ4 : Hid (IsI w4 (.agg #[.bool dq, .slice aq lq cq]) Q) := HQ2.out.ext ((cell_drew x3).trans x4)
  have HR4 : Hid (IsI w4 (.agg #[.bool (decide (R < 0)), .slice au lu cu]) R) := ⟨_, rfl, k4⟩
  have X4 : Hid (Ext w w4) := (X2.out.trans (cell_drew x3)).trans x4
  have n7 : w.heap.size + 1 + 1 + 1 ≠ w.heap.size + 1 + 1 := by omega
  go_wp2_with fail
  exact bodyPost_ret (v := .tuple #[.agg #[.bool dq, .slice aq lq cq], .agg #[.bool (decide (R < 0)), .slice au lu cu]]) (by simp [results, Try.results60, go_sem, t8, t9, t12, t13]) rfl
    ⟨⟨_, _, rfl, (HQ4.out.set2 t8 t9).set2 (by rw [far2 _ _ _ _ _ n7]; exact t12) (by rw [far2 _ _ _ _ _ n7]; exact t13), (HR4.out.set2 t8 t9).set2 (by rw [far2 _ _ _ _ _ n7]; exact t12) (by rw [far2 _ _ _ _ _ n7]; exact t13)⟩,
      (((X4.out.setCell (show w.heap.size ≤ w.heap.size + 1 + 1 by omega) _).setCell (show w.heap.size ≤ w.heap.size + 1 + 1 by omega) _).setCell (show w.heap.size ≤ w.heap.size + 1 + 1 + 1 by omega) _).setCell (show w.heap.size ≤ w.heap.size + 1 + 1 + 1 by omega) _⟩

set_option maxHeartbeats 4000000 in
theorem divide_neg1 (x y : Int) (k : Nat) (r1 r2 : Value) (w : World) (h1 : IsI w r1 x) (h2 : IsI w r2 y) (hk : k ≤ 4000) (f1 : Fit k x) (f2 : Fit k y) (hy : 0 < y) (hx : x < 0) (hz : x.natAbs % y.natAbs ≠ 0) :
    Calls Try.prog 60 #[r1, r2] w fun e w' => (∃ q r, e = .returned (.tuple #[q, r]) ∧ IsI w' q (x / y) ∧ IsI w' r (x % y)) ∧ Ext w w' := by
  have hq : x / y = -((x.natAbs / y.natAbs : Nat) : Int) - 1 := floor_one x y hy hx hz
  have fq0 : Fit k (-((x.natAbs / y.natAbs : Nat) : Int)) := (f1.of_le (by rw [Int.natAbs_natCast]; exact Nat.div_le_self _ _) : Fit k ((x.natAbs / y.natAbs : Nat) : Int)).neg
  have fq : Fit (k + 1) (x / y) := by
    rw [hq]
    exact fq0.sub (fit_one _ (by have := fit_pos f2 hy; omega))
  have hmod : x - x / y * y = x % y := by have := Int.emod_add_mul_ediv x y; rw [Int.mul_comm] at this; omega
  have fqy : Fit (k + 1 + k) (x / y * y) := fq.mul f2
  obtain ⟨u1, rfl, k1⟩ := h1
  obtain ⟨u2, rfl, k2⟩ := h2
  have HD : Hid (∀ w', Ext w w' → Calls Try.prog 48 #[u1, u2] w' fun e w'' => (∃ q r, e = .returned (.tuple #[q, r]) ∧ IsN w'' q (x.natAbs / y.natAbs) ∧ IsN w'' r (x.natAbs % y.natAbs)) ∧ Ext w' w'') := fun w' hxx => ndivide_any x.natAbs y.natAbs u1 u2 w' (k1.ext hxx) (k2.ext hxx) (f1.small2 (by omega)) (f2.small (by omega)) (by omega) (Nat.le_trans f1.blen (by omega))
  have HM : Hid (∀ u w', IsN w' u (x.natAbs / y.natAbs) → Calls Try.prog 49 #[.bool true, u] w' fun e w'' => e = .returned (.agg #[.bool (true && decide (0 < x.natAbs / y.natAbs)), u]) ∧ Ext w' w'') := fun u w' hu => made_any true u _ w' hu (small_le (f1.small (by omega)) (Nat.div_le_self _ _))
  have HI : Hid (∀ u w', IsN w' u (x.natAbs / y.natAbs) → IsI w' (.agg #[.bool (true && decide (0 < x.natAbs / y.natAbs)), u]) (-((x.natAbs / y.natAbs : Nat) : Int))) := fun u w' hu => isI_made w' true u _ hu
  have HT : Hid (∀ r w', Ext w w' → IsI w' r (x / y) → Calls Try.prog 54 #[r, .agg #[.bool (decide (y < 0)), u2]] w' fun e w'' => (∃ r', e = .returned r' ∧ IsI w'' r' (x / y * y)) ∧ Ext w' w'') := fun r w' hxx hr => times_isI (x / y) y r _ w' hr ⟨u2, rfl, k2.ext hxx⟩ (fq.small (by omega)) (f2.small (by omega)) (fqy.small (by omega))
  have HL : Hid (∀ r w', Ext w w' → IsI w' r (x / y * y) → Calls Try.prog 75 #[.agg #[.bool (decide (x < 0)), u1], r] w' fun e w'' => (∃ r', e = .returned r' ∧ IsI w'' r' (x % y)) ∧ Ext w' w'') := fun r w' hxx hr => by
    have h := less_isI x (x / y * y) _ r w' ⟨u1, rfl, k1.ext hxx⟩ hr (f1.small (by omega)) (fqy.small (by omega)) (((f1.le (by omega)).sub fqy).small (by omega))
    rw [hmod] at h
    exact h
  have HG : Hid (∀ q o w', IsI w' q (-((x.natAbs / y.natAbs : Nat) : Int)) → IsI w' o 1 → Calls Try.prog 75 #[q, o] w' fun e w'' => (∃ r', e = .returned r' ∧ IsI w'' r' (x / y)) ∧ Ext w' w'') := fun q o w' hq' ho => by
    have h := less_isI (-((x.natAbs / y.natAbs : Nat) : Int)) 1 q o w' hq' ho (fq0.small (by omega)) ((fit_one 1 (by omega) : Fit 1 1).small (by omega)) (by have := fq.small (by omega); rw [hq] at this; exact this)
    rw [← hq] at h
    exact h
  have HO : Hid (∀ w', Calls Try.prog 55 #[.int .i64 1] w' fun e w'' => (∃ r, e = .returned r ∧ IsI w'' r 1) ∧ Ext w' w'') := fun w' => from_any 1 w' (by omega) (by omega)
  rw [decide_eq_true hx] at HL ⊢
  rw [decide_eq_false (show ¬ y < 0 by omega)] at HT ⊢
  obtain ⟨a1, l1, c1, rfl⟩ := k1.isSlice
  obtain ⟨a2, l2, c2, rfl⟩ := k2.isSlice
  have SR : Hid (Small (x.natAbs % y.natAbs)) := small_le (f1.small (by omega)) (Nat.mod_le _ _)
  clear k1 k2 f1 f2 fq fq0 fqy hmod hq hx hy
  have HZ : Hid (x.natAbs % y.natAbs ≠ 0) := hz
  clear hz
  generalize (true && decide (0 < x.natAbs / y.natAbs)) = dq at *
  generalize x.natAbs / y.natAbs = Qn at *
  generalize x.natAbs % y.natAbs = Rn at *
  generalize x / y = Q at *
  generalize x % y = R at *
  generalize Q * y = PP at *
  have XS : Hid (Ext w ((((w.alloc (.cells #[.bool true, .slice a1 l1 c1] 63)).alloc (.cells #[.bool false, .slice a2 l2 c2] 63)).alloc (.cells #[.bool false, .slice none 0 0] 63)).alloc (.cells #[.bool false, .slice none 0 0] 63))) := ((((Ext.refl w).alloc _).alloc _).alloc _).alloc _
  have LS : Hid (Laid4 w.heap.size ((((w.alloc (.cells #[.bool true, .slice a1 l1 c1] 63)).alloc (.cells #[.bool false, .slice a2 l2 c2] 63)).alloc (.cells #[.bool false, .slice none 0 0] 63)).alloc (.cells #[.bool false, .slice none 0 0] 63)) (.bool true) (.slice a1 l1 c1) (.bool false) (.slice a2 l2 c2)) := laid4_start w _ _ _ _
  go_enter Try.func60, Try.ntmps60
  go_wp2_with fail
  generalize ((((w.alloc (.cells #[.bool true, .slice a1 l1 c1] 63)).alloc (.cells #[.bool false, .slice a2 l2 c2] 63)).alloc (.cells #[.bool false, .slice none 0 0] 63)).alloc (.cells #[.bool false, .slice none 0 0] 63)) = W at *
  refine (HD.out _ XS.out).mono ?_
  rintro e w1 ⟨⟨qn, rn, rfl, hqn, hrn⟩, x1⟩
  obtain ⟨aq, lq, cq, eq⟩ := hqn.isSlice
  obtain ⟨ar, lr, cr, er, zr, hlr⟩ := hrn.zero_iff
  subst eq er
  have hlr2 : lr ≤ 1000 := by have := SR.out.1; omega
  have hr0 : (0 : Int) < (lr : Int) := by
    have : lr ≠ 0 := fun h => HZ.out (zr.1 h)
    omega
  obtain ⟨A1, B1, C1, D1⟩ := LS.out.ext x1
  obtain ⟨a0, a1', a2', a3'⟩ := A1
  obtain ⟨b0, b1', b2', b3'⟩ := B1
  have X1 : Hid (Ext w w1) := XS.out.trans x1
  have x1W : Hid (Ext W w1) := x1
  have HQN : Hid _ := hqn
  clear hqn hrn x1 C1 D1 zr hlr
  go_wp2_with fail
  refine (HM.out _ _ HQN.out).mono ?_
  rintro e w2 ⟨rfl, x2⟩
  clear a0 a1' a2' a3' b0 b1' b2' b3'
  have x2W : Hid (Ext W (w2.alloc (.cells #[.bool dq, .slice aq lq cq] 63))) := ((x1W.out).trans x2).alloc _
  have L5 : Hid (Laid5 w.heap.size w2.heap.size (w2.alloc (.cells #[.bool dq, .slice aq lq cq] 63)) (.bool true) (.slice a1 l1 c1) (.bool false) (.slice a2 l2 c2) (.bool dq) (.slice aq lq cq)) := by
    obtain ⟨A1, B1, C1, D1⟩ := LS.out.ext x2W.out
    exact ⟨A1, B1, C1, D1, has_new w2 _ _⟩
  have X2 : Hid (Ext w (w2.alloc (.cells #[.bool dq, .slice aq lq cq] 63))) := (X1.out.trans x2).alloc _
  have HQ2 : Hid (IsI (w2.alloc (.cells #[.bool dq, .slice aq lq cq] 63)) (.agg #[.bool dq, .slice aq lq cq]) (-(Qn : Int))) := HI.out _ _ ((HQN.out.ext x2).ext ((Ext.refl _).alloc _))
  have hgp : w.heap.size + 1 + 1 + 1 < w2.heap.size := Nat.lt_of_lt_of_le LS.out.d.lt ((x1W.out).trans x2).size
  obtain ⟨⟨q0, q1, q2, q3⟩, ⟨q4, q5, q6, q7⟩, ⟨q8, q9, q10, q11⟩, ⟨q12, q13, q14, q15⟩, ⟨q16, q17, q18, q19⟩⟩ := L5.out
  clear x2
  go_wp2_with fail
  generalize (w2.alloc (.cells #[.bool dq, .slice aq lq cq] 63)) = W2 at *
  generalize w2.heap.size = g at *
  go_region_with (first | (go_at_call 55; refine (HO.out _).mono ?_; rintro e w5 ⟨⟨o5, rfl, h5⟩, x5⟩; obtain ⟨⟨z0, z1, z2, z3⟩, ⟨z4, z5, z6, z7⟩, ⟨z8, z9, z10, z11⟩, ⟨z12, z13, z14, z15⟩, ⟨z16, z17, z18, z19⟩⟩ := L5.out.ext (cell_drew x5)) | (go_at_call 75; refine (HG.out _ _ _ (HQ2.out.ext (cell_drew x5)) h5).mono ?_; rintro e w6 ⟨⟨r6, rfl, h6⟩, x6⟩; obtain ⟨⟨y0, y1, y2, y3⟩, ⟨y4, y5, y6, y7⟩, ⟨y8, y9, y10, y11⟩, ⟨y12, y13, y14, y15⟩, ⟨y16, y17, y18, y19⟩⟩ := L5.out.ext ((cell_drew x5).trans x6); obtain ⟨u6, hu6, k6⟩ := h6; obtain ⟨ap, lp, cp, hap⟩ := k6.isSlice; subst hap; subst hu6))
  all_goals
    have x6W : Hid (Ext W2 w6) := (cell_drew x5).trans x6
    have L6 : Hid (Laid5 w.heap.size g ((w6.setCell ⟨g, 0, none⟩ (.bool (decide (Q < 0)))).setCell ⟨g, 1, none⟩ (.slice ap lp cp)) (.bool true) (.slice a1 l1 c1) (.bool false) (.slice a2 l2 c2) (.bool (decide (Q < 0))) (.slice ap lp cp)) := by
      obtain ⟨A, B, C, D, E⟩ := L5.out.ext x6W.out
      exact ⟨A.far (by omega), B.far (by omega), C.far (by omega), D.far (by omega), E.here⟩
    have X3 : Hid (Ext w ((w6.setCell ⟨g, 0, none⟩ (.bool (decide (Q < 0)))).setCell ⟨g, 1, none⟩ (.slice ap lp cp))) := ((X2.out.trans x6W.out).setCell (by omega) _).setCell (by omega) _
    have HQ3 : Hid (IsI ((w6.setCell ⟨g, 0, none⟩ (.bool (decide (Q < 0)))).setCell ⟨g, 1, none⟩ (.slice ap lp cp)) (.agg #[.bool (decide (Q < 0)), .slice ap lp cp]) Q) := IsI.set2 ⟨_, rfl, k6⟩ y16 y17
    clear q0 q1 q2 q3 q4 q5 q6 q7 q8 q9 q10 q11 q12 q13 q14 q15 q16 q17 q18 q19 z0 z1 z2 z3 z4 z5 z6 z7 z8 z9 z10 z11 z12 z13 z14 z15 z16 z17 z18 z19 y0 y1 y2 y3 y4 y5 y6 y7 y8 y9 y10 y11 y12 y13 y14 y15 y16 y17 y18 y19 L5 X2 HQ2 x5 x6 h5 k6 x6W HG HO HI HM HD
    generalize ((w6.setCell ⟨g, 0, none⟩ (.bool (decide (Q < 0)))).setCell ⟨g, 1, none⟩ (.slice ap lp cp)) = W2b at *
    have L5 := L6
    have X2 := X3
    have HQ2 := HQ3
    clear L6 X3 HQ3
    go_wp2_with fail
    obtain ⟨⟨v0, v1, v2, v3⟩, ⟨v4, v5, v6, v7⟩, ⟨v8, v9, v10, v11⟩, ⟨v12, v13, v14, v15⟩, ⟨v16, v17, v18, v19⟩⟩ := L5.out
    have n1 : w.heap.size ≠ w.heap.size + 1 + 1 := by omega
    have n2 : w.heap.size + 1 ≠ w.heap.size + 1 + 1 := by omega
    have n3 : g ≠ w.heap.size + 1 + 1 := by omega
    have n4 : w.heap.size ≠ w.heap.size + 1 + 1 + 1 := by omega
    have n5 : w.heap.size + 1 ≠ w.heap.size + 1 + 1 + 1 := by omega
    have n6 : g ≠ w.heap.size + 1 + 1 + 1 := by omega
    go_region_held (fun w' => w'.cell? ⟨w.heap.size, 0, none⟩ = some (.bool true) ∧ w'.cell? ⟨w.heap.size, 1, none⟩ = some (.slice a1 l1 c1) ∧ w'.cell? ⟨w.heap.size + 1, 0, none⟩ = some (.bool false) ∧ w'.cell? ⟨w.heap.size + 1, 1, none⟩ = some (.slice a2 l2 c2) ∧ w'.cell? ⟨g, 0, none⟩ = some (.bool (decide (Q < 0))) ∧ w'.cell? ⟨g, 1, none⟩ = some (.slice ap lp cp)) (first | (go_keep; done) | (simp only [far2 _ _ _ _ _ n1, far2 _ _ _ _ _ n2, far2 _ _ _ _ _ n3, far2 _ _ _ _ _ n4, far2 _ _ _ _ _ n5, far2 _ _ _ _ _ n6]; exact ⟨by assumption, by assumption, by assumption, by assumption, by assumption, by assumption⟩)) (first | (go_at_call 54; refine (HT.out _ _ (X2.out.drew) (HQ2.out.ext ((Ext.refl _).drew))).mono ?_; rintro e w3 ⟨⟨r3, rfl, h3⟩, x3⟩; obtain ⟨⟨s0, s1, s2, s3⟩, ⟨s4, s5, s6, s7⟩, ⟨s8, s9, s10, s11⟩, ⟨s12, s13, s14, s15⟩, ⟨s16, s17, s18, s19⟩⟩ := L5.out.ext (cell_drew x3)) | (go_at_call 75; refine (HL.out _ _ (X2.out.trans (cell_drew x3)) h3).mono ?_; rintro e w4 ⟨⟨r4, rfl, h4⟩, x4⟩; obtain ⟨⟨t0, t1, t2, t3⟩, ⟨t4, t5, t6, t7⟩, ⟨t8, t9, t10, t11⟩, ⟨t12, t13, t14, t15⟩, ⟨t16, t17, t18, t19⟩⟩ := L5.out.ext ((cell_drew x3).trans x4); obtain ⟨u4, hu4, k4⟩ := h4; obtain ⟨au, lu, cu, hau⟩ := k4.isSlice; subst hau; subst hu4))
    have HQ4 : Hid (IsI w4 (.agg #[.bool (decide (Q < 0)), .slice ap lp cp]) Q) := HQ2.out.ext ((cell_drew x3).trans x4)
    have HR4 : Hid (IsI w4 (.agg #[.bool (decide (R < 0)), .slice au lu cu]) R) := ⟨_, rfl, k4⟩
    have X4 : Hid (Ext w w4) := (X2.out.trans (cell_drew x3)).trans x4
    have n7 : w.heap.size + 1 + 1 + 1 ≠ w.heap.size + 1 + 1 := by omega
    go_wp2_with fail
    exact bodyPost_ret (v := .tuple #[.agg #[.bool (decide (Q < 0)), .slice ap lp cp], .agg #[.bool (decide (R < 0)), .slice au lu cu]]) (by simp [results, Try.results60, go_sem, t8, t9, t12, t13]) rfl
      ⟨⟨_, _, rfl, (HQ4.out.set2 t8 t9).set2 (by rw [far2 _ _ _ _ _ n7]; exact t12) (by rw [far2 _ _ _ _ _ n7]; exact t13), (HR4.out.set2 t8 t9).set2 (by rw [far2 _ _ _ _ _ n7]; exact t12) (by rw [far2 _ _ _ _ _ n7]; exact t13)⟩,
        (((X4.out.setCell (show w.heap.size ≤ w.heap.size + 1 + 1 by omega) _).setCell (show w.heap.size ≤ w.heap.size + 1 + 1 by omega) _).setCell (show w.heap.size ≤ w.heap.size + 1 + 1 + 1 by omega) _).setCell (show w.heap.size ≤ w.heap.size + 1 + 1 + 1 by omega) _⟩

theorem divide_isI (x y : Int) (k : Nat) (r1 r2 : Value) (w : World) (h1 : IsI w r1 x) (h2 : IsI w r2 y) (hk : k ≤ 4000) (f1 : Fit k x) (f2 : Fit k y) (hy : 0 < y) :
    Calls Try.prog 60 #[r1, r2] w fun e w' => (∃ q r, e = .returned (.tuple #[q, r]) ∧ IsI w' q (x / y) ∧ IsI w' r (x % y)) ∧ Ext w w' := by
  by_cases hx : x < 0
  · by_cases hz : x.natAbs % y.natAbs = 0
    · exact divide_neg0 x y k r1 r2 w h1 h2 hk f1 f2 hy hx hz
    · exact divide_neg1 x y k r1 r2 w h1 h2 hk f1 f2 hy hx hz
  · exact divide_pos x y k r1 r2 w h1 h2 hk f1 f2 hy (by omega)
end Go.Proofs.Ytbmocnigmpmfkaa
