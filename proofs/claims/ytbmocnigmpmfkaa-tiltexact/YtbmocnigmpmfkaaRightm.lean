/- The reference's whole numbers with a sign: Right. -/
import Derived.Test.YtbmocnigmpmfkaaDiv2m
namespace Go.Proofs.Ytbmocnigmpmfkaa
open Go.RowKit

theorem natAbs_shr (x : Int) (n : Nat) (hx : 0 ≤ x) : (x / 2 ^ n).natAbs = x.natAbs / 2 ^ n := by
  obtain ⟨a, rfl⟩ := Int.eq_ofNat_of_zero_le hx
  have : ((2 : Int) ^ n) = ((2 ^ n : Nat) : Int) := by simp
  rw [this]
  rfl

set_option maxHeartbeats 4000000 in
theorem right_pos (x : Int) (n k : Nat) (r1 : Value) (w : World) (h1 : IsI w r1 x) (hk : k ≤ 4000) (hn : n ≤ 4000) (f1 : Fit k x) (hx : 0 ≤ x) :
    Calls Try.prog 62 #[r1, .int .i64 (n : Int)] w fun e w' => (∃ r', e = .returned r' ∧ IsI w' r' (x / 2 ^ n)) ∧ Ext w w' := by
  obtain ⟨u1, rfl, k1⟩ := h1
  have hab := natAbs_shr x n hx
  have hq0 : 0 ≤ x / 2 ^ n := Int.ediv_nonneg hx (Int.le_of_lt (Int.pow_pos (by omega)))
  have HT : Hid (∀ w', Ext w w' → Calls Try.prog 69 #[u1, .int .i64 (n : Int)] w' fun e w'' => (∃ v', e = .returned v' ∧ IsN w'' v' (x / 2 ^ n).natAbs) ∧ Ext w' w'') := fun w' hxx => by
    have h := down2_any _ n u1 w' (k1.ext hxx) (f1.small (by omega)) (by omega)
    rw [← hab] at h
    exact h
  have HM : Hid (∀ u w', IsN w' u (x / 2 ^ n).natAbs → Calls Try.prog 49 #[.bool false, u] w' fun e w'' => e = .returned (.agg #[.bool false, u]) ∧ Ext w' w'') := fun u w' hu => made_any false u _ w' hu (small_le (f1.small (by omega)) (by rw [hab]; exact Nat.div_le_self _ _))
  have HI : Hid (∀ u w', IsN w' u (x / 2 ^ n).natAbs → IsI w' (.agg #[.bool false, u]) (x / 2 ^ n)) := fun u w' hu => ⟨u, by rw [decide_eq_false (by omega)], hu⟩
  rw [decide_eq_false (show ¬ x < 0 by omega)]
  obtain ⟨a1, l1, c1, rfl⟩ := k1.isSlice
  clear k1 f1 hab hq0 hx
  generalize (x / 2 ^ n).natAbs = M at *
  generalize x / 2 ^ n = Z at *
  have XS : Hid (Ext w ((w.alloc (.cells #[.bool false, .slice a1 l1 c1] 63)).alloc (.cells #[.bool false, .slice none 0 0] 63))) := ((Ext.refl w).alloc _).alloc _
  have LS : Hid (Laid1 w ((w.alloc (.cells #[.bool false, .slice a1 l1 c1] 63)).alloc (.cells #[.bool false, .slice none 0 0] 63)) false (.slice a1 l1 c1)) := laid1_start w false (.slice a1 l1 c1)
  go_enter Try.func62, Try.ntmps62
  go_wp2_with fail
  generalize ((w.alloc (.cells #[.bool false, .slice a1 l1 c1] 63)).alloc (.cells #[.bool false, .slice none 0 0] 63)) = W at *
  refine (HT.out _ XS.out).mono ?_
  rintro e w1 ⟨⟨u, rfl, hu⟩, x1⟩
  obtain ⟨q0, q1, q4, q5, q6, q7⟩ := LS.out.ext x1
  obtain ⟨au, lu, cu, hau⟩ := hu.isSlice
  subst hau
  go_wp2_with fail
  go_quiet (fail)
  go_wp2_with fail
  refine (HM.out _ _ (hu.ext ((Ext.refl _).drewN _))).mono ?_
  rintro e w9 ⟨rfl, x9⟩
  obtain ⟨t0, t1, t4, t5, t6, t7⟩ := LS.out.ext ((x1.drewN _).trans x9)
  have X9 : Hid (Ext w w9) := (XS.out.trans (x1.drewN _)).trans x9
  have HI9 : Hid (IsI w9 (.agg #[.bool false, .slice au lu cu]) Z) := HI.out _ _ ((hu.ext ((Ext.refl _).drewN _)).ext x9)
  clear x9
  go_wp2_with fail
  exact bodyPost_ret (v := .agg #[.bool false, .slice au lu cu]) (by simp [results, Try.results62, go_sem, t4, t5]) rfl ⟨⟨_, rfl, HI9.out.set2 t4 t5⟩, (X9.out.setCell (show w.heap.size ≤ w.heap.size + 1 by omega) _).setCell (show w.heap.size ≤ w.heap.size + 1 by omega) _⟩

theorem floor_shr0 (x : Int) (n : Nat) (hx : x < 0) (h : x.natAbs / 2 ^ n * 2 ^ n = x.natAbs) : x / 2 ^ n = -((x.natAbs / 2 ^ n : Nat) : Int) := by
  have e : ((2 : Int) ^ n) = ((2 ^ n : Nat) : Int) := by simp
  have hp : 0 < 2 ^ n := Nat.pow_pos (by omega)
  have h0 : x.natAbs % (((2 ^ n : Nat) : Int)).natAbs = 0 := by
    rw [Int.natAbs_natCast]
    have := Nat.mod_add_div x.natAbs (2 ^ n)
    rw [Nat.mul_comm] at h
    omega
  rw [e, floor_zero x _ (by omega) hx h0, Int.natAbs_natCast]
theorem floor_shr1 (x : Int) (n : Nat) (hx : x < 0) (h : x.natAbs / 2 ^ n * 2 ^ n ≠ x.natAbs) : x / 2 ^ n = -((x.natAbs / 2 ^ n + 1 : Nat) : Int) := by
  have e : ((2 : Int) ^ n) = ((2 ^ n : Nat) : Int) := by simp
  have hp : 0 < 2 ^ n := Nat.pow_pos (by omega)
  have h0 : x.natAbs % (((2 ^ n : Nat) : Int)).natAbs ≠ 0 := by
    rw [Int.natAbs_natCast]
    have := Nat.mod_add_div x.natAbs (2 ^ n)
    rw [Nat.mul_comm] at h
    omega
  rw [e, floor_one x _ (by omega) hx h0, Int.natAbs_natCast]
  omega

set_option maxHeartbeats 4000000 in
theorem right_neg (x : Int) (n k : Nat) (r1 : Value) (w : World) (h1 : IsI w r1 x) (hk : k ≤ 4000) (hn : n ≤ 4000) (f1 : Fit k x) (hx : x < 0) :
    Calls Try.prog 62 #[r1, .int .i64 (n : Int)] w fun e w' => (∃ r', e = .returned r' ∧ IsI w' r' (x / 2 ^ n)) ∧ Ext w w' := by
  obtain ⟨u1, rfl, k1⟩ := h1
  have HT : Hid (∀ w', Ext w w' → Calls Try.prog 69 #[u1, .int .i64 (n : Int)] w' fun e w'' => (∃ v', e = .returned v' ∧ IsN w'' v' (x.natAbs / 2 ^ n)) ∧ Ext w' w'') := fun w' hxx => down2_any _ n u1 w' (k1.ext hxx) (f1.small (by omega)) (by omega)
  have HU : Hid (∀ u w', IsN w' u (x.natAbs / 2 ^ n) → Calls Try.prog 36 #[u, .int .i64 (n : Int)] w' fun e w'' => (∃ v', e = .returned v' ∧ IsN w'' v' (x.natAbs / 2 ^ n * 2 ^ n)) ∧ Ext w' w'') := fun u w' hu => up2_any _ n u w' hu (small_le (f1.small (by omega)) (Nat.div_le_self _ _)) (by omega)
  have HC : Hid (∀ u w', Ext w w' → IsN w' u (x.natAbs / 2 ^ n * 2 ^ n) → Calls Try.prog 52 #[u, u1] w' fun e w'' => e = .returned (.int .i64 (cmpN (x.natAbs / 2 ^ n * 2 ^ n) x.natAbs)) ∧ Ext w' w'') := fun u w' hxx hu => ncmp_any _ _ u u1 w' hu (k1.ext hxx) (small_le (f1.small (by omega)) (Nat.div_mul_le_self _ _)) (f1.small (by omega))
  rw [decide_eq_true hx]
  obtain ⟨a1, l1, c1, rfl⟩ := k1.isSlice
  have XS : Hid (Ext w ((w.alloc (.cells #[.bool true, .slice a1 l1 c1] 63)).alloc (.cells #[.bool false, .slice none 0 0] 63))) := ((Ext.refl w).alloc _).alloc _
  have LS : Hid (Laid1 w ((w.alloc (.cells #[.bool true, .slice a1 l1 c1] 63)).alloc (.cells #[.bool false, .slice none 0 0] 63)) true (.slice a1 l1 c1)) := laid1_start w true (.slice a1 l1 c1)
  by_cases hz : x.natAbs / 2 ^ n * 2 ^ n = x.natAbs
  · have HM : Hid (∀ u w', IsN w' u (x.natAbs / 2 ^ n) → Calls Try.prog 49 #[.bool true, u] w' fun e w'' => e = .returned (.agg #[.bool (true && decide (0 < x.natAbs / 2 ^ n)), u]) ∧ Ext w' w'') := fun u w' hu => made_any true u _ w' hu (small_le (f1.small (by omega)) (Nat.div_le_self _ _))
    have HI : Hid (∀ u w', IsN w' u (x.natAbs / 2 ^ n) → IsI w' (.agg #[.bool (true && decide (0 < x.natAbs / 2 ^ n)), u]) (x / 2 ^ n)) := fun u w' hu => by
      have h := isI_made w' true u _ hu
      rw [if_pos rfl, ← floor_shr0 x n hx hz] at h
      exact h
    have ec : cmpN (x.natAbs / 2 ^ n * 2 ^ n) x.natAbs = 0 := by unfold cmpN; rw [hz]; simp
    rw [ec] at HC
    clear k1 f1 hx hz ec
    generalize (true && decide (0 < x.natAbs / 2 ^ n)) = B at *
    generalize x.natAbs / 2 ^ n * 2 ^ n = N at *
    generalize x.natAbs / 2 ^ n = M at *
    generalize x / 2 ^ n = Z at *
    go_enter Try.func62, Try.ntmps62
    go_wp2_with fail
    generalize ((w.alloc (.cells #[.bool true, .slice a1 l1 c1] 63)).alloc (.cells #[.bool false, .slice none 0 0] 63)) = W at *
    refine (HT.out _ XS.out).mono ?_
    rintro e w1 ⟨⟨u, rfl, hu⟩, x1⟩
    obtain ⟨q0, q1, q4, q5, q6, q7⟩ := LS.out.ext x1
    obtain ⟨au, lu, cu, hau⟩ := hu.isSlice
    subst hau
    go_wp2_with fail
    have k1 := q1
    go_region_held (fun w' => w'.cell? ⟨w.heap.size, 0, none⟩ = some (.bool true) ∧ w'.cell? ⟨w.heap.size, 1, none⟩ = some (.slice a1 l1 c1)) (go_keep) (first | (go_at_call 36; refine (HU.out _ _ (hu.ext ((Ext.refl _).drew))).mono ?_; rintro e w2 ⟨⟨v2, rfl, h2⟩, x2⟩; obtain ⟨s0, s1, s4, s5, s6, s7⟩ := LS.out.ext (x1.trans (cell_drew x2))) | (go_at_call 52; refine (HC.out _ _ ((XS.out.trans x1).trans (cell_drew x2)) h2).mono ?_; rintro e w3 ⟨rfl, x3⟩; obtain ⟨z0, z1, z4, z5, z6, z7⟩ := LS.out.ext ((x1.trans (cell_drew x2)).trans x3)))
    go_wp2_with fail
    refine (HM.out _ _ (hu.ext ((cell_drew x2).trans x3))).mono ?_
    rintro e w9 ⟨rfl, x9⟩
    obtain ⟨t0, t1, t4, t5, t6, t7⟩ := LS.out.ext (((x1.trans (cell_drew x2)).trans x3).trans x9)
    have X9 : Hid (Ext w w9) := (XS.out.trans ((x1.trans (cell_drew x2)).trans x3)).trans x9
    have HI9 : Hid (IsI w9 (.agg #[.bool B, .slice au lu cu]) Z) := HI.out _ _ ((hu.ext ((cell_drew x2).trans x3)).ext x9)
    clear x9
    go_wp2_with fail
    exact bodyPost_ret (v := .agg #[.bool B, .slice au lu cu]) (by simp [results, Try.results62, go_sem, t4, t5]) rfl ⟨⟨_, rfl, HI9.out.set2 t4 t5⟩, (X9.out.setCell (show w.heap.size ≤ w.heap.size + 1 by omega) _).setCell (show w.heap.size ≤ w.heap.size + 1 by omega) _⟩
  · have hle1 : x.natAbs / 2 ^ n + 1 ≤ 2 * x.natAbs := by have := Nat.div_le_self x.natAbs (2 ^ n); omega
    have HM : Hid (∀ u w', IsN w' u (x.natAbs / 2 ^ n + 1) → Calls Try.prog 49 #[.bool true, u] w' fun e w'' => e = .returned (.agg #[.bool (true && decide (0 < x.natAbs / 2 ^ n + 1)), u]) ∧ Ext w' w'') := fun u w' hu => made_any true u _ w' hu (small_le (f1.small2 (by omega)) hle1)
    have HO : Hid (∀ w', Calls Try.prog 37 #[.int .u64 1] w' fun e w'' => (∃ v', e = .returned v' ∧ IsN w'' v' 1) ∧ Ext w' w'') := fun w' => nof_any 1 (by omega) w'
    have HP : Hid (∀ u v w', IsN w' u (x.natAbs / 2 ^ n) → IsN w' v 1 → Calls Try.prog 51 #[u, v] w' fun e w'' => (∃ v', e = .returned v' ∧ IsN w'' v' (x.natAbs / 2 ^ n + 1)) ∧ Ext w' w'') := fun u v w' hu hv => nplus_any _ _ u v w' hu hv (small_le (f1.small (by omega)) (Nat.div_le_self _ _)) (small_64 1 (by omega))
    have HI : Hid (∀ u w', IsN w' u (x.natAbs / 2 ^ n + 1) → IsI w' (.agg #[.bool (true && decide (0 < x.natAbs / 2 ^ n + 1)), u]) (x / 2 ^ n)) := fun u w' hu => by
      have h := isI_made w' true u _ hu
      rw [if_pos rfl, ← floor_shr1 x n hx hz] at h
      exact h
    have ec : cmpN (x.natAbs / 2 ^ n * 2 ^ n) x.natAbs = -1 := by unfold cmpN; rw [if_pos (by have := Nat.div_mul_le_self x.natAbs (2 ^ n); omega)]
    rw [ec] at HC
    clear k1 f1 hx hz ec hle1
    generalize (true && decide (0 < x.natAbs / 2 ^ n + 1)) = B at *
    generalize x.natAbs / 2 ^ n + 1 = M1 at *
    generalize x.natAbs / 2 ^ n * 2 ^ n = N at *
    generalize x.natAbs / 2 ^ n = M at *
    generalize x / 2 ^ n = Z at *
    go_enter Try.func62, Try.ntmps62
    go_wp2_with fail
    generalize ((w.alloc (.cells #[.bool true, .slice a1 l1 c1] 63)).alloc (.cells #[.bool false, .slice none 0 0] 63)) = W at *
    refine (HT.out _ XS.out).mono ?_
    rintro e w1 ⟨⟨u, rfl, hu⟩, x1⟩
    obtain ⟨q0, q1, q4, q5, q6, q7⟩ := LS.out.ext x1
    obtain ⟨au, lu, cu, hau⟩ := hu.isSlice
    subst hau
    go_wp2_with fail
    have k1 := q1
    go_region_held (fun w' => w'.cell? ⟨w.heap.size, 0, none⟩ = some (.bool true) ∧ w'.cell? ⟨w.heap.size, 1, none⟩ = some (.slice a1 l1 c1)) (go_keep) (first | (go_at_call 36; refine (HU.out _ _ (hu.ext ((Ext.refl _).drew))).mono ?_; rintro e w2 ⟨⟨v2, rfl, h2⟩, x2⟩; obtain ⟨s0, s1, s4, s5, s6, s7⟩ := LS.out.ext (x1.trans (cell_drew x2))) | (go_at_call 52; refine (HC.out _ _ ((XS.out.trans x1).trans (cell_drew x2)) h2).mono ?_; rintro e w3 ⟨rfl, x3⟩; obtain ⟨z0, z1, z4, z5, z6, z7⟩ := LS.out.ext ((x1.trans (cell_drew x2)).trans x3)))
    go_wp2_with fail
    refine (HO.out _).mono ?_
    rintro e w4 ⟨⟨o, rfl, ho⟩, x4⟩
    go_wp2_with fail
    refine (HP.out _ _ _ ((hu.ext ((cell_drew x2).trans x3)).ext x4) ho).mono ?_
    rintro e w5 ⟨⟨v5, rfl, h5⟩, x5⟩
    obtain ⟨y0, y1, y4, y5, y6, y7⟩ := LS.out.ext (((x1.trans (cell_drew x2)).trans x3).trans (x4.trans x5))
    obtain ⟨av, lv, cv, hav⟩ := h5.isSlice
    subst hav
    go_wp2_with fail
    refine (HM.out _ _ h5).mono ?_
    rintro e w9 ⟨rfl, x9⟩
    obtain ⟨t0, t1, t4, t5, t6, t7⟩ := LS.out.ext (((((x1.trans (cell_drew x2)).trans x3)).trans (x4.trans x5)).trans x9)
    have X9 : Hid (Ext w w9) := (XS.out.trans ((((x1.trans (cell_drew x2)).trans x3)).trans (x4.trans x5))).trans x9
    have HI9 : Hid (IsI w9 (.agg #[.bool B, .slice av lv cv]) Z) := HI.out _ _ (h5.ext x9)
    clear x9
    go_wp2_with fail
    exact bodyPost_ret (v := .agg #[.bool B, .slice av lv cv]) (by simp [results, Try.results62, go_sem, t4, t5]) rfl ⟨⟨_, rfl, HI9.out.set2 t4 t5⟩, (X9.out.setCell (show w.heap.size ≤ w.heap.size + 1 by omega) _).setCell (show w.heap.size ≤ w.heap.size + 1 by omega) _⟩

theorem right_isI (x : Int) (n k : Nat) (r1 : Value) (w : World) (h1 : IsI w r1 x) (hk : k ≤ 4000) (hn : n ≤ 4000) (f1 : Fit k x) :
    Calls Try.prog 62 #[r1, .int .i64 (n : Int)] w fun e w' => (∃ r', e = .returned r' ∧ IsI w' r' (x / 2 ^ n)) ∧ Ext w w' := by
  by_cases hx : x < 0
  · exact right_neg x n k r1 w h1 hk hn f1 hx
  · exact right_pos x n k r1 w h1 hk hn f1 (by omega)
end Go.Proofs.Ytbmocnigmpmfkaa
