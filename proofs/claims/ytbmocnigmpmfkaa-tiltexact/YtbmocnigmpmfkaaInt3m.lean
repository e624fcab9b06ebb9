/- The reference's whole numbers with a sign: Less, Cmp, Left. -/
import Derived.Test.YtbmocnigmpmfkaaInt2m
namespace Go.Proofs.Ytbmocnigmpmfkaa
open Go.RowKit

set_option maxHeartbeats 4000000 in
theorem less_isI (x y : Int) (r1 r2 : Value) (w : World) (h1 : IsI w r1 x) (h2 : IsI w r2 y) (s1 : SmallI x) (s2 : SmallI y) (s3 : SmallI (x - y)) :
    Calls Try.prog 75 #[r1, r2] w fun e w' => (∃ r', e = .returned r' ∧ IsI w' r' (x - y)) ∧ Ext w w' := by
  have s2' : SmallI (-y) := by unfold SmallI at *; rw [Int.natAbs_neg]; exact s2
  have HG : Hid (∀ w', Ext w w' → Calls Try.prog 79 #[r2] w' fun e w'' => (∃ r', e = .returned r' ∧ IsI w'' r' (-y)) ∧ Ext w' w'') := fun w' hx => neg_isI y r2 w' (h2.ext hx) s2
  have HP : Hid (∀ r w', Ext w w' → IsI w' r (-y) → Calls Try.prog 38 #[r1, r] w' fun e w'' => (∃ r', e = .returned r' ∧ IsI w'' r' (x - y)) ∧ Ext w' w'') := fun r w' hx hr => by
    have h := plus_isI x (-y) r1 r w' (h1.ext hx) hr s1 s2' (by rw [← Int.sub_eq_add_neg]; exact s3)
    rw [← Int.sub_eq_add_neg] at h
    exact h
  obtain ⟨u1, rfl, k1⟩ := h1
  obtain ⟨u2, rfl, k2⟩ := h2
  obtain ⟨a1, l1, c1, e1⟩ := k1.isSlice
  obtain ⟨a2, l2, c2, e2⟩ := k2.isSlice
  subst e1 e2
  clear k1 k2 s1 s2 s3 s2'
  generalize decide (x < 0) = d1 at *
  generalize decide (y < 0) = d2 at *
  have LS : Hid _ := laid_start w d1 d2 (.slice a1 l1 c1) (.slice a2 l2 c2)
  have XS : Hid (Ext w (((w.alloc (.cells #[.bool d1, .slice a1 l1 c1] 63)).alloc (.cells #[.bool d2, .slice a2 l2 c2] 63)).alloc (.cells #[.bool false, .slice none 0 0] 63))) := (((Ext.refl w).alloc _).alloc _).alloc _
  go_enter Try.func75, Try.ntmps75
  go_wp2_with fail
  generalize ((w.alloc (.cells #[.bool d1, .slice a1 l1 c1] 63)).alloc (.cells #[.bool d2, .slice a2 l2 c2] 63)).alloc (.cells #[.bool false, .slice none 0 0] 63) = W at *
  obtain ⟨p0, p1, p2, p3, p4, p5, p6, p7⟩ := LS.out
  go_region_held (fun w' => w'.cell? ⟨w.heap.size, 0, none⟩ = some (.bool d1) ∧ w'.cell? ⟨w.heap.size, 1, none⟩ = some (.slice a1 l1 c1) ∧ w'.cell? ⟨w.heap.size + 1, 0, none⟩ = some (.bool d2) ∧ w'.cell? ⟨w.heap.size + 1, 1, none⟩ = some (.slice a2 l2 c2)) (first | (go_keep; done) | (simp only [far2 _ _ _ _ _ (show w.heap.size ≠ w.heap.size + 1 + 1 by omega), far2 _ _ _ _ _ (show w.heap.size + 1 ≠ w.heap.size + 1 + 1 by omega)]; exact ⟨by assumption, by assumption, by assumption, by assumption⟩)) (first | (go_at_call 79; refine (HG.out _ (XS.out.drew)).mono ?_; rintro e w1 ⟨⟨r, rfl, hr⟩, x1⟩; obtain ⟨q0, q1, q2, q3, q4, q5, q6, q7⟩ := LS.out.ext (cell_drew x1)) | (go_at_call 38; refine (HP.out _ _ (XS.out.trans (cell_drew x1)) hr).mono ?_; rintro e w2 ⟨⟨r', rfl, hr'⟩, x2⟩; obtain ⟨t0, t1, t2, t3, t4, t5, t6, t7⟩ := LS.out.ext ((cell_drew x1).trans x2); obtain ⟨u, hru, hu⟩ := hr'; obtain ⟨au, lu, cu, hau⟩ := hu.isSlice; subst hau; subst hru))
  have X : Hid (Ext w w2) := (XS.out.trans (cell_drew x1)).trans x2
  have HI : Hid (IsI w2 (.agg #[.bool (decide (x - y < 0)), .slice au lu cu]) (x - y)) := ⟨_, rfl, hu⟩
  go_wp2_with fail
  exact bodyPost_ret (v := .agg #[.bool (decide (x - y < 0)), .slice au lu cu]) (by simp [results, Try.results75, go_sem, t4, t5]) rfl ⟨⟨_, rfl, HI.out.set2 t4 t5⟩, (X.out.setCell (show w.heap.size ≤ w.heap.size + 1 + 1 by omega) _).setCell (show w.heap.size ≤ w.heap.size + 1 + 1 by omega) _⟩

set_option maxHeartbeats 1000000 in
theorem cmp_isI (x y : Int) (r1 r2 : Value) (w : World) (h1 : IsI w r1 x) (h2 : IsI w r2 y) (s1 : SmallI x) (s2 : SmallI y) (s3 : SmallI (x - y)) :
    Calls Try.prog 63 #[r1, r2] w fun e w' => e = .returned (.int .i64 (sgn (x - y))) ∧ Ext w w' := by
  have HL : Hid (∀ w', Ext w w' → Calls Try.prog 75 #[r1, r2] w' fun e w'' => (∃ r', e = .returned r' ∧ IsI w'' r' (x - y)) ∧ Ext w' w'') := fun w' hx => less_isI x y r1 r2 w' (h1.ext hx) (h2.ext hx) s1 s2 s3
  have HS : Hid (∀ r w', IsI w' r (x - y) → Calls Try.prog 76 #[r] w' fun e w'' => e = .returned (.int .i64 (sgn (x - y))) ∧ Ext w' w'') := fun r w' hr => sign_isI (x - y) r w' hr s3
  obtain ⟨u1, rfl, k1⟩ := h1
  obtain ⟨u2, rfl, k2⟩ := h2
  obtain ⟨a1, l1, c1, e1⟩ := k1.isSlice
  obtain ⟨a2, l2, c2, e2⟩ := k2.isSlice
  subst e1 e2
  clear k1 k2 s1 s2 s3
  generalize decide (x < 0) = d1 at *
  generalize decide (y < 0) = d2 at *
  have XS : Hid (Ext w ((w.alloc (.cells #[.bool d1, .slice a1 l1 c1] 63)).alloc (.cells #[.bool d2, .slice a2 l2 c2] 63))) := ((Ext.refl w).alloc _).alloc _
  go_enter Try.func63, Try.ntmps63
  go_wp2_with fail
  refine (HL.out _ XS.out).mono ?_
  rintro e w1 ⟨⟨r, rfl, hr⟩, x1⟩
  go_wp2_with fail
  refine (HS.out _ _ hr).mono ?_
  rintro e w2 ⟨rfl, x2⟩
  go_wp2_with fail
  go_ret
  exact ⟨rfl, (XS.out.trans x1).trans x2⟩

/-- what a function of one number lays first: it, and room for its answer -/
structure Laid1 (w W : World) (b1 : Bool) (u1 : Value) : Prop where
  a0 : W.cell? ⟨w.heap.size, 0, none⟩ = some (.bool b1)
  a1 : W.cell? ⟨w.heap.size, 1, none⟩ = some u1
  c0 : W.cell? ⟨w.heap.size + 1, 0, none⟩ = some (.bool false)
  c1 : W.cell? ⟨w.heap.size + 1, 1, none⟩ = some (.slice none 0 0)
  f0 : W.frozen? ⟨w.heap.size + 1, 0, none⟩ = false
  f1 : W.frozen? ⟨w.heap.size + 1, 1, none⟩ = false
theorem Laid1.ext {w W W' : World} {b1 : Bool} {u1 : Value} (h : Laid1 w W b1 u1) (hx : Ext W W') : Laid1 w W' b1 u1 :=
  ⟨hx.kept h.a0, hx.kept h.a1, hx.kept h.c0, hx.kept h.c1, by rw [(hx.lay).2.1 _ _ (cell_lt h.c0)]; exact h.f0, by rw [(hx.lay).2.1 _ _ (cell_lt h.c1)]; exact h.f1⟩
theorem laid1_start (w : World) (b1 : Bool) (u1 : Value) : Laid1 w ((w.alloc (.cells #[.bool b1, u1] 63)).alloc (.cells #[.bool false, .slice none 0 0] 63)) b1 u1 := by
  constructor <;> simp [go_sem]

set_option maxHeartbeats 4000000 in
theorem left_isI (x : Int) (n : Nat) (r1 : Value) (w : World) (h1 : IsI w r1 x) (s1 : SmallI x) (hn : n ≤ 10000) (s3 : SmallI (x * 2 ^ n)) :
    Calls Try.prog 61 #[r1, .int .i64 (n : Int)] w fun e w' => (∃ r', e = .returned r' ∧ IsI w' r' (x * 2 ^ n)) ∧ Ext w w' := by
  obtain ⟨u1, rfl, k1⟩ := h1
  have hab : (x * 2 ^ n).natAbs = x.natAbs * 2 ^ n := by rw [Int.natAbs_mul, Int.natAbs_pow]; rfl
  have hp : 0 < (2 : Int) ^ n := Int.pow_pos (by omega)
  have hsg : x.natAbs * 2 ^ n ≠ 0 → decide (x < 0) = decide (x * 2 ^ n < 0) := by
    intro h0
    rw [decide_eq_decide]
    constructor
    · intro h; exact Int.mul_neg_of_neg_of_pos h hp
    · intro h
      apply Int.not_le.1
      intro hle
      have := Int.mul_nonneg hle (Int.le_of_lt hp)
      omega
  have HT : Hid (∀ w', Ext w w' → Calls Try.prog 36 #[u1, .int .i64 (n : Int)] w' fun e w'' => (∃ v', e = .returned v' ∧ IsN w'' v' (x.natAbs * 2 ^ n)) ∧ Ext w' w'') := fun w' hx => up2_any _ n u1 w' (k1.ext hx) s1 hn
  have HM : Hid (∀ u w', IsN w' u (x.natAbs * 2 ^ n) → Calls Try.prog 49 #[.bool (decide (x < 0)), u] w' fun e w'' => e = .returned (.agg #[.bool (decide (x < 0) && decide (0 < x.natAbs * 2 ^ n)), u]) ∧ Ext w' w'') := fun u w' hu => made_any _ u _ w' hu (by have : Small (x * 2 ^ n).natAbs := s3; rwa [hab] at this)
  have HF : Hid (∀ u w', IsN w' u (x.natAbs * 2 ^ n) → IsI w' (.agg #[.bool (decide (x < 0) && decide (0 < x.natAbs * 2 ^ n)), u]) (x * 2 ^ n)) := fun u w' hu => isI_of hu hab hsg
  obtain ⟨a1, l1, c1, rfl⟩ := k1.isSlice
  clear k1 s1 s3 hab hsg hp
  generalize (decide (x < 0) && decide (0 < x.natAbs * 2 ^ n)) = B at *
  generalize decide (x < 0) = d1 at *
  generalize x.natAbs * 2 ^ n = M at *
  generalize x * 2 ^ n = Z at *
  have XS : Hid (Ext w ((w.alloc (.cells #[.bool d1, .slice a1 l1 c1] 63)).alloc (.cells #[.bool false, .slice none 0 0] 63))) := ((Ext.refl w).alloc _).alloc _
  have LS : Hid (Laid1 w ((w.alloc (.cells #[.bool d1, .slice a1 l1 c1] 63)).alloc (.cells #[.bool false, .slice none 0 0] 63)) d1 (.slice a1 l1 c1)) := laid1_start w d1 (.slice a1 l1 c1)
  go_enter Try.func61, Try.ntmps61
  go_wp2_with fail
  generalize (w.alloc (.cells #[.bool d1, .slice a1 l1 c1] 63)).alloc (.cells #[.bool false, .slice none 0 0] 63) = W at *
  obtain ⟨p0, p1, p4, p5, p6, p7⟩ := LS.out
  go_region_held (fun w' => w'.cell? ⟨w.heap.size, 0, none⟩ = some (.bool d1) ∧ w'.cell? ⟨w.heap.size, 1, none⟩ = some (.slice a1 l1 c1)) (first | (go_keep; done) | (simp only [far2 _ _ _ _ _ (show w.heap.size ≠ w.heap.size + 1 by omega)]; exact ⟨by assumption, by assumption⟩)) (first | (go_at_call 36; refine (HT.out _ (XS.out.drew)).mono ?_; rintro e w1 ⟨⟨u, rfl, hu⟩, x1⟩; obtain ⟨q0, q1, q4, q5, q6, q7⟩ := LS.out.ext (cell_drew x1)) | (go_at_call 49; refine (HM.out _ _ hu).mono ?_; rintro e w2 ⟨rfl, x2⟩; obtain ⟨t0, t1, t4, t5, t6, t7⟩ := LS.out.ext ((cell_drew x1).trans x2); obtain ⟨au, lu, cu, hau⟩ := hu.isSlice; subst hau))
  have X : Hid (Ext w w2) := (XS.out.trans (cell_drew x1)).trans x2
  have HI : Hid (IsI w2 (.agg #[.bool B, .slice au lu cu]) Z) := HF.out _ w2 (hu.ext x2)
  go_wp2_with fail
  exact bodyPost_ret (v := .agg #[.bool B, .slice au lu cu]) (by simp [results, Try.results61, go_sem, t4, t5]) rfl ⟨⟨_, rfl, HI.out.set2 t4 t5⟩, (X.out.setCell (show w.heap.size ≤ w.heap.size + 1 by omega) _).setCell (show w.heap.size ≤ w.heap.size + 1 by omega) _⟩
end Go.Proofs.Ytbmocnigmpmfkaa
