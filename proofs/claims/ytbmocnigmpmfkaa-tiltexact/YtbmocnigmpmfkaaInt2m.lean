/- The reference's whole numbers with a sign: Plus, Less, Times, Cmp, Left. -/
import Derived.Test.YtbmocnigmpmfkaaInt1m
import Derived.Deep.RegionHeld
namespace Go.Proofs.Ytbmocnigmpmfkaa
open Go.RowKit

theorem cell_drew {w w' : World} (h : Ext w.drew w') : Ext w w' := (Ext.refl w).drew.trans h

/-- what a function of two numbers lays first: both, and room for its answer -/
structure Laid (w W : World) (b1 b2 : Bool) (u1 u2 : Value) : Prop where
  a0 : W.cell? ⟨w.heap.size, 0, none⟩ = some (.bool b1)
  a1 : W.cell? ⟨w.heap.size, 1, none⟩ = some u1
  b0 : W.cell? ⟨w.heap.size + 1, 0, none⟩ = some (.bool b2)
  b1 : W.cell? ⟨w.heap.size + 1, 1, none⟩ = some u2
  c0 : W.cell? ⟨w.heap.size + 1 + 1, 0, none⟩ = some (.bool false)
  c1 : W.cell? ⟨w.heap.size + 1 + 1, 1, none⟩ = some (.slice none 0 0)
  f0 : W.frozen? ⟨w.heap.size + 1 + 1, 0, none⟩ = false
  f1 : W.frozen? ⟨w.heap.size + 1 + 1, 1, none⟩ = false
theorem Laid.ext {w W W' : World} {b1 b2 : Bool} {u1 u2 : Value} (h : Laid w W b1 b2 u1 u2) (hx : Ext W W') : Laid w W' b1 b2 u1 u2 :=
  ⟨hx.kept h.a0, hx.kept h.a1, hx.kept h.b0, hx.kept h.b1, hx.kept h.c0, hx.kept h.c1, by rw [(hx.lay).2.1 _ _ (cell_lt h.c0)]; exact h.f0, by rw [(hx.lay).2.1 _ _ (cell_lt h.c1)]; exact h.f1⟩
theorem laid_start (w : World) (b1 b2 : Bool) (u1 u2 : Value) : Laid w (((w.alloc (.cells #[.bool b1, u1] 63)).alloc (.cells #[.bool b2, u2] 63)).alloc (.cells #[.bool false, .slice none 0 0] 63)) b1 b2 u1 u2 := by
  constructor <;> simp [go_sem]

theorem far2 (w : World) (x y : Value) (b o : Nat) {g : Nat} (h : b ≠ g) : ((w.setCell ⟨g, 0, none⟩ x).setCell ⟨g, 1, none⟩ y).cell? ⟨b, o, none⟩ = w.cell? ⟨b, o, none⟩ := by
  rw [World.cell?_setCell_far _ _ _ _ (by simpa using h.symm), World.cell?_setCell_far _ _ _ _ (by simpa using h.symm)]

theorem signed_eq (neg : Bool) (n : Nat) (z : Int) (h : z.natAbs = n) (hn : n ≠ 0 → neg = decide (z < 0)) : (if neg = true then -(n : Int) else (n : Int)) = z := by
  by_cases h0 : n = 0
  · subst h0
    have : z = 0 := by omega
    subst this
    cases neg <;> rfl
  · rw [hn h0]
    by_cases hz : z < 0
    · simp [hz]; omega
    · simp [hz]; omega
theorem isI_of {w : World} {neg : Bool} {u : Value} {n : Nat} {z : Int} (hu : IsN w u n) (h : z.natAbs = n) (hn : n ≠ 0 → neg = decide (z < 0)) : IsI w (.agg #[.bool (neg && decide (0 < n)), u]) z := by
  have k := isI_made w neg u n hu
  rw [signed_eq neg n z h hn] at k
  exact k

set_option maxHeartbeats 4000000 in
theorem times_isI (x y : Int) (r1 r2 : Value) (w : World) (h1 : IsI w r1 x) (h2 : IsI w r2 y) (s1 : SmallI x) (s2 : SmallI y) (s3 : SmallI (x * y)) :
    Calls Try.prog 54 #[r1, r2] w fun e w' => (∃ r', e = .returned r' ∧ IsI w' r' (x * y)) ∧ Ext w w' := by
  obtain ⟨u1, rfl, k1⟩ := h1
  obtain ⟨u2, rfl, k2⟩ := h2
  have hab : (x * y).natAbs = x.natAbs * y.natAbs := Int.natAbs_mul x y
  have hsg : x.natAbs * y.natAbs ≠ 0 → (!(decide (x < 0) == decide (y < 0))) = decide (x * y < 0) := by
    intro h0
    have hx0 : x ≠ 0 := by intro h; subst h; simp at h0
    have hy0 : y ≠ 0 := by intro h; subst h; simp at h0
    by_cases hx : x < 0
    · by_cases hy : y < 0
      · have := Int.mul_pos_of_neg_of_neg hx hy
        have e : ¬ x * y < 0 := by omega
        simp [hx, hy, e]
      · have := Int.mul_neg_of_neg_of_pos hx (show 0 < y by omega)
        simp [hx, hy, this]
    · by_cases hy : y < 0
      · have := Int.mul_neg_of_pos_of_neg (show 0 < x by omega) hy
        simp [hx, hy, this]
      · have := Int.mul_pos (show 0 < x by omega) (show 0 < y by omega)
        have e : ¬ x * y < 0 := by omega
        simp [hx, hy, e]
  have HT : Hid (∀ w', Ext w w' → Calls Try.prog 71 #[u1, u2] w' fun e w'' => (∃ v', e = .returned v' ∧ IsN w'' v' (x.natAbs * y.natAbs)) ∧ Ext w' w'') := fun w' hx => ntimes_any _ _ u1 u2 w' (k1.ext hx) (k2.ext hx) s1 s2
  have HM : Hid (∀ u w', IsN w' u (x.natAbs * y.natAbs) → Calls Try.prog 49 #[.bool (!(decide (x < 0) == decide (y < 0))), u] w' fun e w'' => e = .returned (.agg #[.bool ((!(decide (x < 0) == decide (y < 0))) && decide (0 < x.natAbs * y.natAbs)), u]) ∧ Ext w' w'') := fun u w' hu => made_any _ u _ w' hu (by have : Small (x * y).natAbs := s3; rwa [hab] at this)
  have HF : Hid (∀ u w', IsN w' u (x.natAbs * y.natAbs) → IsI w' (.agg #[.bool ((!(decide (x < 0) == decide (y < 0))) && decide (0 < x.natAbs * y.natAbs)), u]) (x * y)) := fun u w' hu => isI_of hu hab hsg
  obtain ⟨a1, l1, c1, rfl⟩ := k1.isSlice
  obtain ⟨a2, l2, c2, rfl⟩ := k2.isSlice
  clear k1 k2 s1 s2 s3 hab hsg
  generalize ((!(decide (x < 0) == decide (y < 0))) && decide (0 < x.natAbs * y.natAbs)) = B at *
  generalize decide (x < 0) = d1 at *
  generalize decide (y < 0) = d2 at *
  have LS := laid_start w d1 d2 (.slice a1 l1 c1) (.slice a2 l2 c2)
  have XS : Hid (Ext w (((w.alloc (.cells #[.bool d1, .slice a1 l1 c1] 63)).alloc (.cells #[.bool d2, .slice a2 l2 c2] 63)).alloc (.cells #[.bool false, .slice none 0 0] 63))) := (((Ext.refl w).alloc _).alloc _).alloc _
  have LS' : Hid _ := LS
  clear LS
  go_enter Try.func54, Try.ntmps54
  go_wp2_with fail
  generalize ((w.alloc (.cells #[.bool d1, .slice a1 l1 c1] 63)).alloc (.cells #[.bool d2, .slice a2 l2 c2] 63)).alloc (.cells #[.bool false, .slice none 0 0] 63) = W at *
  obtain ⟨p0, p1, p2, p3, p4, p5, p6, p7⟩ := LS'.out
  go_region_held (fun w' => w'.cell? ⟨w.heap.size, 0, none⟩ = some (.bool d1) ∧ w'.cell? ⟨w.heap.size, 1, none⟩ = some (.slice a1 l1 c1) ∧ w'.cell? ⟨w.heap.size + 1, 0, none⟩ = some (.bool d2) ∧ w'.cell? ⟨w.heap.size + 1, 1, none⟩ = some (.slice a2 l2 c2)) (first | (go_keep; done) | (simp only [far2 _ _ _ _ _ (show w.heap.size ≠ w.heap.size + 1 + 1 by omega), far2 _ _ _ _ _ (show w.heap.size + 1 ≠ w.heap.size + 1 + 1 by omega)]; exact ⟨by assumption, by assumption, by assumption, by assumption⟩)) (first | (go_at_call 71; refine (HT.out _ (XS.out.drew)).mono ?_; rintro e w1 ⟨⟨u, rfl, hu⟩, x1⟩; obtain ⟨q0, q1, q2, q3, q4, q5, q6, q7⟩ := LS'.out.ext (cell_drew x1)) | (go_at_call 49; refine (HM.out _ _ hu).mono ?_; rintro e w2 ⟨rfl, x2⟩; obtain ⟨t0, t1, t2, t3, t4, t5, t6, t7⟩ := LS'.out.ext ((cell_drew x1).trans x2); obtain ⟨au, lu, cu, hau⟩ := hu.isSlice; subst hau))
  have X : Hid (Ext w w2) := (XS.out.trans (cell_drew x1)).trans x2
  have HI : Hid (IsI w2 (.agg #[.bool B, .slice au lu cu]) (x * y)) := HF.out _ w2 (hu.ext x2)
  go_wp2_with fail
  exact bodyPost_ret (v := .agg #[.bool B, .slice au lu cu]) (by simp [results, Try.results54, go_sem, t4, t5]) rfl ⟨⟨_, rfl, HI.out.set2 t4 t5⟩, (X.out.setCell (show w.heap.size ≤ w.heap.size + 1 + 1 by omega) _).setCell (show w.heap.size ≤ w.heap.size + 1 + 1 by omega) _⟩

set_option maxHeartbeats 4000000 in
theorem plus_isI (x y : Int) (r1 r2 : Value) (w : World) (h1 : IsI w r1 x) (h2 : IsI w r2 y) (s1 : SmallI x) (s2 : SmallI y) (s3 : SmallI (x + y)) :
    Calls Try.prog 38 #[r1, r2] w fun e w' => (∃ r', e = .returned r' ∧ IsI w' r' (x + y)) ∧ Ext w w' := by
  obtain ⟨u1, rfl, k1⟩ := h1
  obtain ⟨u2, rfl, k2⟩ := h2
  by_cases hs : decide (x < 0) = decide (y < 0)
  · have hab : (x + y).natAbs = x.natAbs + y.natAbs := by rw [decide_eq_decide] at hs; omega
    have hsg : x.natAbs + y.natAbs ≠ 0 → decide (x < 0) = decide (x + y < 0) := by intro h0; rw [decide_eq_decide] at *; omega
    have HT : Hid (∀ w', Ext w w' → Calls Try.prog 51 #[u1, u2] w' fun e w'' => (∃ v', e = .returned v' ∧ IsN w'' v' (x.natAbs + y.natAbs)) ∧ Ext w' w'') := fun w' hx => nplus_any _ _ u1 u2 w' (k1.ext hx) (k2.ext hx) s1 s2
    have HM : Hid (∀ u w', IsN w' u (x.natAbs + y.natAbs) → Calls Try.prog 49 #[.bool (decide (x < 0)), u] w' fun e w'' => e = .returned (.agg #[.bool (decide (x < 0) && decide (0 < x.natAbs + y.natAbs)), u]) ∧ Ext w' w'') := fun u w' hu => made_any _ u _ w' hu (by have : Small (x + y).natAbs := s3; rwa [hab] at this)
    have HF : Hid (∀ u w', IsN w' u (x.natAbs + y.natAbs) → IsI w' (.agg #[.bool (decide (x < 0) && decide (0 < x.natAbs + y.natAbs)), u]) (x + y)) := fun u w' hu => isI_of hu hab hsg
    obtain ⟨a1, l1, c1, rfl⟩ := k1.isSlice
    obtain ⟨a2, l2, c2, rfl⟩ := k2.isSlice
    rw [← hs]
    clear k1 k2 s1 s2 s3 hab hsg hs
    generalize (decide (x < 0) && decide (0 < x.natAbs + y.natAbs)) = B at *
    obtain ⟨d1, hd1⟩ : ∃ d, decide (x < 0) = d := ⟨_, rfl⟩
    rw [hd1] at HM ⊢
    clear hd1
    have hdd : (d1 == d1) = true := by simp
    have LS : Hid _ := laid_start w d1 d1 (.slice a1 l1 c1) (.slice a2 l2 c2)
    have XS : Hid (Ext w (((w.alloc (.cells #[.bool d1, .slice a1 l1 c1] 63)).alloc (.cells #[.bool d1, .slice a2 l2 c2] 63)).alloc (.cells #[.bool false, .slice none 0 0] 63))) := (((Ext.refl w).alloc _).alloc _).alloc _
    go_enter Try.func38, Try.ntmps38
    go_wp2_with fail
    generalize ((w.alloc (.cells #[.bool d1, .slice a1 l1 c1] 63)).alloc (.cells #[.bool d1, .slice a2 l2 c2] 63)).alloc (.cells #[.bool false, .slice none 0 0] 63) = W at *
    have LW := LS
    obtain ⟨p0, p1, p2, p3, p4, p5, p6, p7⟩ := LS.out
    go_region_held (fun w' => w'.cell? ⟨w.heap.size, 0, none⟩ = some (.bool d1) ∧ w'.cell? ⟨w.heap.size, 1, none⟩ = some (.slice a1 l1 c1) ∧ w'.cell? ⟨w.heap.size + 1, 0, none⟩ = some (.bool d1) ∧ w'.cell? ⟨w.heap.size + 1, 1, none⟩ = some (.slice a2 l2 c2)) (first | (go_keep; done) | (simp only [far2 _ _ _ _ _ (show w.heap.size ≠ w.heap.size + 1 + 1 by omega), far2 _ _ _ _ _ (show w.heap.size + 1 ≠ w.heap.size + 1 + 1 by omega)]; exact ⟨by assumption, by assumption, by assumption, by assumption⟩)) (first | (go_at_call 51; refine (HT.out _ (XS.out.drew)).mono ?_; rintro e w1 ⟨⟨u, rfl, hu⟩, x1⟩; obtain ⟨q0, q1, q2, q3, q4, q5, q6, q7⟩ := LW.out.ext (cell_drew x1)) | (go_at_call 49; refine (HM.out _ _ hu).mono ?_; rintro e w2 ⟨rfl, x2⟩; obtain ⟨t0, t1, t2, t3, t4, t5, t6, t7⟩ := LW.out.ext ((cell_drew x1).trans x2); obtain ⟨au, lu, cu, hau⟩ := hu.isSlice; subst hau))
    have X : Hid (Ext w w2) := (XS.out.trans (cell_drew x1)).trans x2
    have HI : Hid (IsI w2 (.agg #[.bool B, .slice au lu cu]) (x + y)) := HF.out _ w2 (hu.ext x2)
    go_wp2_with fail
    exact bodyPost_ret (v := .agg #[.bool B, .slice au lu cu]) (by simp [results, Try.results38, go_sem, t4, t5]) rfl ⟨⟨_, rfl, HI.out.set2 t4 t5⟩, (X.out.setCell (show w.heap.size ≤ w.heap.size + 1 + 1 by omega) _).setCell (show w.heap.size ≤ w.heap.size + 1 + 1 by omega) _⟩
  · have hne : (decide (x < 0) == decide (y < 0)) = false := by simpa using hs
    have HC : Hid (∀ w', Ext w w' → Calls Try.prog 52 #[u1, u2] w' fun e w'' => e = .returned (.int .i64 (cmpN x.natAbs y.natAbs)) ∧ Ext w' w'') := fun w' hx => ncmp_any _ _ u1 u2 w' (k1.ext hx) (k2.ext hx) s1 s2
    obtain ⟨a1, l1, c1, h1⟩ := k1.isSlice
    obtain ⟨a2, l2, c2, h2⟩ := k2.isSlice
    subst h1 h2
    by_cases hge : y.natAbs ≤ x.natAbs
    · have hcmp : 0 ≤ cmpN x.natAbs y.natAbs := by unfold cmpN; rw [if_neg (by omega)]; split <;> omega
      have hab : (x + y).natAbs = x.natAbs - y.natAbs := by rw [decide_eq_decide] at hs; omega
      have hsg : x.natAbs - y.natAbs ≠ 0 → decide (x < 0) = decide (x + y < 0) := by intro h0; rw [decide_eq_decide] at *; omega
      have HT : Hid (∀ w', Ext w w' → Calls Try.prog 53 #[.slice a1 l1 c1, .slice a2 l2 c2] w' fun e w'' => (∃ v', e = .returned v' ∧ IsN w'' v' (x.natAbs - y.natAbs)) ∧ Ext w' w'') := fun w' hx => nless_any _ _ _ _ w' (k1.ext hx) (k2.ext hx) s1 s2 hge
      have HM : Hid (∀ u w', IsN w' u (x.natAbs - y.natAbs) → Calls Try.prog 49 #[.bool (decide (x < 0)), u] w' fun e w'' => e = .returned (.agg #[.bool (decide (x < 0) && decide (0 < x.natAbs - y.natAbs)), u]) ∧ Ext w' w'') := fun u w' hu => made_any _ u _ w' hu (by have : Small (x + y).natAbs := s3; rwa [hab] at this)
      have HF : Hid (∀ u w', IsN w' u (x.natAbs - y.natAbs) → IsI w' (.agg #[.bool (decide (x < 0) && decide (0 < x.natAbs - y.natAbs)), u]) (x + y)) := fun u w' hu => isI_of hu hab hsg
      clear k1 k2 s1 s2 s3 hab hsg hs
      generalize (decide (x < 0) && decide (0 < x.natAbs - y.natAbs)) = B at *
      generalize decide (x < 0) = d1 at *
      generalize decide (y < 0) = d2 at *
      generalize cmpN x.natAbs y.natAbs = C at *
      have LS : Hid _ := laid_start w d1 d2 (.slice a1 l1 c1) (.slice a2 l2 c2)
      have XS : Hid (Ext w (((w.alloc (.cells #[.bool d1, .slice a1 l1 c1] 63)).alloc (.cells #[.bool d2, .slice a2 l2 c2] 63)).alloc (.cells #[.bool false, .slice none 0 0] 63))) := (((Ext.refl w).alloc _).alloc _).alloc _
      go_enter Try.func38, Try.ntmps38
      go_wp2_with fail
      refine (HC.out _ XS.out).mono ?_
      rintro e wc ⟨rfl, xc⟩
      have LW : Hid _ := LS.out.ext xc
      have XC : Hid (Ext w wc) := XS.out.trans xc
      obtain ⟨p0, p1, p2, p3, p4, p5, p6, p7⟩ := LW.out
      clear xc XS LS HC
      go_wp2_with fail
      go_region_held (fun w' => w'.cell? ⟨w.heap.size, 0, none⟩ = some (.bool d1) ∧ w'.cell? ⟨w.heap.size, 1, none⟩ = some (.slice a1 l1 c1) ∧ w'.cell? ⟨w.heap.size + 1, 0, none⟩ = some (.bool d2) ∧ w'.cell? ⟨w.heap.size + 1, 1, none⟩ = some (.slice a2 l2 c2)) (first | (go_keep; done) | (simp only [far2 _ _ _ _ _ (show w.heap.size ≠ w.heap.size + 1 + 1 by omega), far2 _ _ _ _ _ (show w.heap.size + 1 ≠ w.heap.size + 1 + 1 by omega)]; exact ⟨by assumption, by assumption, by assumption, by assumption⟩)) (first | (go_at_call 53; refine (HT.out _ (XC.out.drew)).mono ?_; rintro e w1 ⟨⟨u, rfl, hu⟩, x1⟩; obtain ⟨q0, q1, q2, q3, q4, q5, q6, q7⟩ := LW.out.ext (cell_drew x1)) | (go_at_call 49; refine (HM.out _ _ hu).mono ?_; rintro e w2 ⟨rfl, x2⟩; obtain ⟨t0, t1, t2, t3, t4, t5, t6, t7⟩ := LW.out.ext ((cell_drew x1).trans x2); obtain ⟨au, lu, cu, hau⟩ := hu.isSlice; subst hau))
      have X : Hid (Ext w w2) := (XC.out.trans (cell_drew x1)).trans x2
      have HI : Hid (IsI w2 (.agg #[.bool B, .slice au lu cu]) (x + y)) := HF.out _ w2 (hu.ext x2)
      go_wp2_with fail
      exact bodyPost_ret (v := .agg #[.bool B, .slice au lu cu]) (by simp [results, Try.results38, go_sem, t4, t5]) rfl ⟨⟨_, rfl, HI.out.set2 t4 t5⟩, (X.out.setCell (show w.heap.size ≤ w.heap.size + 1 + 1 by omega) _).setCell (show w.heap.size ≤ w.heap.size + 1 + 1 by omega) _⟩
    · have hcmp : ¬ 0 ≤ cmpN x.natAbs y.natAbs := by unfold cmpN; rw [if_pos (by omega)]; omega
      have hab : (x + y).natAbs = y.natAbs - x.natAbs := by rw [decide_eq_decide] at hs; omega
      have hsg : y.natAbs - x.natAbs ≠ 0 → decide (y < 0) = decide (x + y < 0) := by intro h0; rw [decide_eq_decide] at *; omega
      have HT : Hid (∀ w', Ext w w' → Calls Try.prog 53 #[.slice a2 l2 c2, .slice a1 l1 c1] w' fun e w'' => (∃ v', e = .returned v' ∧ IsN w'' v' (y.natAbs - x.natAbs)) ∧ Ext w' w'') := fun w' hx => nless_any _ _ _ _ w' (k2.ext hx) (k1.ext hx) s2 s1 (by omega)
      have HM : Hid (∀ u w', IsN w' u (y.natAbs - x.natAbs) → Calls Try.prog 49 #[.bool (decide (y < 0)), u] w' fun e w'' => e = .returned (.agg #[.bool (decide (y < 0) && decide (0 < y.natAbs - x.natAbs)), u]) ∧ Ext w' w'') := fun u w' hu => made_any _ u _ w' hu (by have : Small (x + y).natAbs := s3; rwa [hab] at this)
      have HF : Hid (∀ u w', IsN w' u (y.natAbs - x.natAbs) → IsI w' (.agg #[.bool (decide (y < 0) && decide (0 < y.natAbs - x.natAbs)), u]) (x + y)) := fun u w' hu => isI_of hu hab hsg
      clear k1 k2 s1 s2 s3 hab hsg hs
      generalize (decide (y < 0) && decide (0 < y.natAbs - x.natAbs)) = B at *
      generalize decide (x < 0) = d1 at *
      generalize decide (y < 0) = d2 at *
      generalize cmpN x.natAbs y.natAbs = C at *
      have LS : Hid _ := laid_start w d1 d2 (.slice a1 l1 c1) (.slice a2 l2 c2)
      have XS : Hid (Ext w (((w.alloc (.cells #[.bool d1, .slice a1 l1 c1] 63)).alloc (.cells #[.bool d2, .slice a2 l2 c2] 63)).alloc (.cells #[.bool false, .slice none 0 0] 63))) := (((Ext.refl w).alloc _).alloc _).alloc _
      go_enter Try.func38, Try.ntmps38
      go_wp2_with fail
      refine (HC.out _ XS.out).mono ?_
      rintro e wc ⟨rfl, xc⟩
      have LW : Hid _ := LS.out.ext xc
      have XC : Hid (Ext w wc) := XS.out.trans xc
      obtain ⟨p0, p1, p2, p3, p4, p5, p6, p7⟩ := LW.out
      clear xc XS LS HC
      go_wp2_with fail
      go_region_held (fun w' => w'.cell? ⟨w.heap.size, 0, none⟩ = some (.bool d1) ∧ w'.cell? ⟨w.heap.size, 1, none⟩ = some (.slice a1 l1 c1) ∧ w'.cell? ⟨w.heap.size + 1, 0, none⟩ = some (.bool d2) ∧ w'.cell? ⟨w.heap.size + 1, 1, none⟩ = some (.slice a2 l2 c2)) (first | (go_keep; done) | (simp only [far2 _ _ _ _ _ (show w.heap.size ≠ w.heap.size + 1 + 1 by omega), far2 _ _ _ _ _ (show w.heap.size + 1 ≠ w.heap.size + 1 + 1 by omega)]; exact ⟨by assumption, by assumption, by assumption, by assumption⟩)) (first | (go_at_call 53; refine (HT.out _ (XC.out.drew)).mono ?_; rintro e w1 ⟨⟨u, rfl, hu⟩, x1⟩; obtain ⟨q0, q1, q2, q3, q4, q5, q6, q7⟩ := LW.out.ext (cell_drew x1)) | (go_at_call 49; refine (HM.out _ _ hu).mono ?_; rintro e w2 ⟨rfl, x2⟩; obtain ⟨t0, t1, t2, t3, t4, t5, t6, t7⟩ := LW.out.ext ((cell_drew x1).trans x2); obtain ⟨au, lu, cu, hau⟩ := hu.isSlice; subst hau))
      have X : Hid (Ext w w2) := (XC.out.trans (cell_drew x1)).trans x2
      have HI : Hid (IsI w2 (.agg #[.bool B, .slice au lu cu]) (x + y)) := HF.out _ w2 (hu.ext x2)
      go_wp2_with fail
      exact bodyPost_ret (v := .agg #[.bool B, .slice au lu cu]) (by simp [results, Try.results38, go_sem, t4, t5]) rfl ⟨⟨_, rfl, HI.out.set2 t4 t5⟩, (X.out.setCell (show w.heap.size ≤ w.heap.size + 1 + 1 by omega) _).setCell (show w.heap.size ≤ w.heap.size + 1 + 1 by omega) _⟩

end Go.Proofs.Ytbmocnigmpmfkaa
