/- The reference's whole numbers with a sign: Right. The reference's rational numbers: Make. -/
import Derived.Test.YtoeecldhbabmbaaGreatMg36
open Go.Value renaming int → J, agg → zG
open Go.IntKind renaming i64 → zq, u64 → zu
open Go.Ending renaming returned → zR
open Go.Proofs.Tryz renaming prog → zP
namespace Go.Proofs.YtoeecldhbabmbaaGreat
open Go.RowKit
theorem natAbs_shr (x : Int) (n : Nat) (hx : 0 ≤ x) : (x / 2 ^ n).natAbs = x.natAbs / 2 ^ n := by
  obtain ⟨a, rfl⟩ := Int.eq_ofNat_of_zero_le hx
  have : ((2 : Int) ^ n) = ((2 ^ n : Nat) : Int) := by simp
  rw [this]
  rfl
set_option maxHeartbeats 4000000 in
theorem right_pos (x : Int) (n k : Nat) (r1 : Value) (w : World) (h1 : IsI w r1 x) (hk : k ≤ 4000) (hn : n ≤ 4000) (f1 : Fit k x) (hx : 0 ≤ x) :
    Calls zP 126 #[r1, J zq (n : Int)] w fun e w' => (∃ r', e = zR r' ∧ IsI w' r' (x / 2 ^ n)) ∧ Ext w w' := by
  obtain ⟨u1, rfl, k1⟩ := h1
  have hab := natAbs_shr x n hx
  have hq0 : 0 ≤ x / 2 ^ n := Int.ediv_nonneg hx (Int.le_of_lt (Int.pow_pos (by omega)))
  have HT : Hid (∀ w', Ext w w' → Calls zP 161 #[u1, J zq (n : Int)] w' fun e w'' => (∃ v', e = zR v' ∧ IsN w'' v' (x / 2 ^ n).natAbs) ∧ Ext w' w'') := fun w' hxx => by
    have h := down2_any _ n u1 w' (k1.ext hxx) (f1.small (by omega)) (by omega)
    rw [← hab] at h
    exact h
  have HM : Hid (∀ u w', IsN w' u (x / 2 ^ n).natAbs → Calls zP 56 #[.bool false, u] w' fun e w'' => e = zR (zG #[.bool false, u]) ∧ Ext w' w'') := fun u w' hu => made_any false u _ w' hu (small_le (f1.small (by omega)) (by rw [hab]; exact Nat.div_le_self _ _))
  have HI : Hid (∀ u w', IsN w' u (x / 2 ^ n).natAbs → IsI w' (zG #[.bool false, u]) (x / 2 ^ n)) := fun u w' hu => ⟨u, by rw [decide_eq_false (by omega)], hu⟩
  rw [decide_eq_false (show ¬ x < 0 by omega)]
  obtain ⟨a1, l1, c1, rfl⟩ := k1.isSlice
  clear k1 f1 hab hq0 hx
  generalize (x / 2 ^ n).natAbs = M at *
  generalize x / 2 ^ n = Z at *
  have XS : Hid (Ext w ((w.alloc (.cells #[.bool false, .slice a1 l1 c1] 50)).alloc (.cells #[.bool false, .slice none 0 0] 50))) := ((Ext.refl w).alloc _).alloc _
  have LS : Hid (Laid1 w ((w.alloc (.cells #[.bool false, .slice a1 l1 c1] 50)).alloc (.cells #[.bool false, .slice none 0 0] 50)) false (.slice a1 l1 c1)) := laid1_start w false (.slice a1 l1 c1)
  go_enter Tryz.func126, Tryz.ntmps126
  go_wp2_with fail
  generalize ((w.alloc (.cells #[.bool false, .slice a1 l1 c1] 50)).alloc (.cells #[.bool false, .slice none 0 0] 50)) = W at *
  refine (HT.out _ XS.out).mono ?_
  rintro e w1 ⟨⟨u, rfl, hu⟩, x1⟩
  obtain ⟨q0, q1, q4, q5, q6, q7⟩ := LS.out.ext x1
  obtain ⟨au, lu, cu, hau⟩ := hu.isSlice
  subst hau
  go_wp2_with fail
  go_quiet (fail)
  go_wp2_with fail
  refine (HM.out _ _ (hu.ext ((Ext.refl _).drewN _))).mono ?_
  rintro e w9 ⟨rfl, x9⟩
  obtain ⟨t0, t1, t4, t5, t6, t7⟩ := LS.out.ext ((x1.drewN _).trans x9)
  have X9 : Hid (Ext w w9) := (XS.out.trans (x1.drewN _)).trans x9
  have HI9 : Hid (IsI w9 (zG #[.bool false, .slice au lu cu]) Z) := HI.out _ _ ((hu.ext ((Ext.refl _).drewN _)).ext x9)
  clear x9
  go_wp2_with fail
  exact bodyPost_ret (v := zG #[.bool false, .slice au lu cu]) (by simp [results, Tryz.results126, go_sem, t4, t5]) rfl ⟨⟨_, rfl, HI9.out.set2 t4 t5⟩, (X9.out.setCell (show w.heap.size ≤ w.heap.size + 1 by omega) _).setCell (show w.heap.size ≤ w.heap.size + 1 by omega) _⟩
theorem floor_shr0 (x : Int) (n : Nat) (hx : x < 0) (h : x.natAbs / 2 ^ n * 2 ^ n = x.natAbs) : x / 2 ^ n = -((x.natAbs / 2 ^ n : Nat) : Int) := by
  have e : ((2 : Int) ^ n) = ((2 ^ n : Nat) : Int) := by simp
  have hp : 0 < 2 ^ n := Nat.pow_pos (by omega)
  have h0 : x.natAbs % (((2 ^ n : Nat) : Int)).natAbs = 0 := by
    rw [Int.natAbs_natCast]
    have := Nat.mod_add_div x.natAbs (2 ^ n)
    rw [Nat.mul_comm] at h
    omega
  rw [e, floor_zero x _ (by omega) hx h0, Int.natAbs_natCast]
theorem floor_shr1 (x : Int) (n : Nat) (hx : x < 0) (h : x.natAbs / 2 ^ n * 2 ^ n ≠ x.natAbs) : x / 2 ^ n = -((x.natAbs / 2 ^ n + 1 : Nat) : Int) := by
  have e : ((2 : Int) ^ n) = ((2 ^ n : Nat) : Int) := by simp
  have hp : 0 < 2 ^ n := Nat.pow_pos (by omega)
  have h0 : x.natAbs % (((2 ^ n : Nat) : Int)).natAbs ≠ 0 := by
    rw [Int.natAbs_natCast]
    have := Nat.mod_add_div x.natAbs (2 ^ n)
    rw [Nat.mul_comm] at h
    omega
  rw [e, floor_one x _ (by omega) hx h0, Int.natAbs_natCast]
  omega
set_option maxHeartbeats 4000000 in
theorem right_neg (x : Int) (n k : Nat) (r1 : Value) (w : World) (h1 : IsI w r1 x) (hk : k ≤ 4000) (hn : n ≤ 4000) (f1 : Fit k x) (hx : x < 0) :
    Calls zP 126 #[r1, J zq (n : Int)] w fun e w' => (∃ r', e = zR r' ∧ IsI w' r' (x / 2 ^ n)) ∧ Ext w w' := by
  obtain ⟨u1, rfl, k1⟩ := h1
  have HT : Hid (∀ w', Ext w w' → Calls zP 161 #[u1, J zq (n : Int)] w' fun e w'' => (∃ v', e = zR v' ∧ IsN w'' v' (x.natAbs / 2 ^ n)) ∧ Ext w' w'') := fun w' hxx => down2_any _ n u1 w' (k1.ext hxx) (f1.small (by omega)) (by omega)
  have HU : Hid (∀ u w', IsN w' u (x.natAbs / 2 ^ n) → Calls zP 97 #[u, J zq (n : Int)] w' fun e w'' => (∃ v', e = zR v' ∧ IsN w'' v' (x.natAbs / 2 ^ n * 2 ^ n)) ∧ Ext w' w'') := fun u w' hu => up2_any _ n u w' hu (small_le (f1.small (by omega)) (Nat.div_le_self _ _)) (by omega)
  have HC : Hid (∀ u w', Ext w w' → IsN w' u (x.natAbs / 2 ^ n * 2 ^ n) → Calls zP 92 #[u, u1] w' fun e w'' => e = zR (J zq (cmpN (x.natAbs / 2 ^ n * 2 ^ n) x.natAbs)) ∧ Ext w' w'') := fun u w' hxx hu => ncmp_any _ _ u u1 w' hu (k1.ext hxx) (small_le (f1.small (by omega)) (Nat.div_mul_le_self _ _)) (f1.small (by omega))
  rw [decide_eq_true hx]
  obtain ⟨a1, l1, c1, rfl⟩ := k1.isSlice
  have XS : Hid (Ext w ((w.alloc (.cells #[.bool true, .slice a1 l1 c1] 50)).alloc (.cells #[.bool false, .slice none 0 0] 50))) := ((Ext.refl w).alloc _).alloc _
  have LS : Hid (Laid1 w ((w.alloc (.cells #[.bool true, .slice a1 l1 c1] 50)).alloc (.cells #[.bool false, .slice none 0 0] 50)) true (.slice a1 l1 c1)) := laid1_start w true (.slice a1 l1 c1)
  by_cases hz : x.natAbs / 2 ^ n * 2 ^ n = x.natAbs
  · have HM : Hid (∀ u w', IsN w' u (x.natAbs / 2 ^ n) → Calls zP 56 #[.bool true, u] w' fun e w'' => e = zR (zG #[.bool (true && decide (0 < x.natAbs / 2 ^ n)), u]) ∧ Ext w' w'') := fun u w' hu => made_any true u _ w' hu (small_le (f1.small (by omega)) (Nat.div_le_self _ _))
    have HI : Hid (∀ u w', IsN w' u (x.natAbs / 2 ^ n) → IsI w' (zG #[.bool (true && decide (0 < x.natAbs / 2 ^ n)), u]) (x / 2 ^ n)) := fun u w' hu => by
      have h := isI_made w' true u _ hu
      rw [if_pos rfl, ← floor_shr0 x n hx hz] at h
      exact h
    have ec : cmpN (x.natAbs / 2 ^ n * 2 ^ n) x.natAbs = 0 := by unfold cmpN; rw [hz]; simp
    rw [ec] at HC
    clear k1 f1 hx hz ec
    generalize (true && decide (0 < x.natAbs / 2 ^ n)) = B at *
    generalize x.natAbs / 2 ^ n * 2 ^ n = N at *
    generalize x.natAbs / 2 ^ n = M at *
    generalize x / 2 ^ n = Z at *
    go_enter Tryz.func126, Tryz.ntmps126
    go_wp2_with fail
    generalize ((w.alloc (.cells #[.bool true, .slice a1 l1 c1] 50)).alloc (.cells #[.bool false, .slice none 0 0] 50)) = W at *
    refine (HT.out _ XS.out).mono ?_
    rintro e w1 ⟨⟨u, rfl, hu⟩, x1⟩
    obtain ⟨q0, q1, q4, q5, q6, q7⟩ := LS.out.ext x1
    obtain ⟨au, lu, cu, hau⟩ := hu.isSlice
    subst hau
    go_wp2_with fail
    have k1 := q1
    go_region_held (fun w' => w'.cell? ⟨w.heap.size, 0, none⟩ = some (.bool true) ∧ w'.cell? ⟨w.heap.size, 1, none⟩ = some (.slice a1 l1 c1)) (go_keep) (first | (go_at_call 97; refine (HU.out _ _ (hu.ext ((Ext.refl _).drew))).mono ?_; rintro e w2 ⟨⟨v2, rfl, h2⟩, x2⟩; obtain ⟨s0, s1, s4, s5, s6, s7⟩ := LS.out.ext (x1.trans (cell_drew x2))) | (go_at_call 92; refine (HC.out _ _ ((XS.out.trans x1).trans (cell_drew x2)) h2).mono ?_; rintro e w3 ⟨rfl, x3⟩; obtain ⟨z0, z1, z4, z5, z6, z7⟩ := LS.out.ext ((x1.trans (cell_drew x2)).trans x3)))
    go_wp2_with fail
    refine (HM.out _ _ (hu.ext ((cell_drew x2).trans x3))).mono ?_
    rintro e w9 ⟨rfl, x9⟩
    obtain ⟨t0, t1, t4, t5, t6, t7⟩ := LS.out.ext (((x1.trans (cell_drew x2)).trans x3).trans x9)
    have X9 : Hid (Ext w w9) := (XS.out.trans ((x1.trans (cell_drew x2)).trans x3)).trans x9
    have HI9 : Hid (IsI w9 (zG #[.bool B, .slice au lu cu]) Z) := HI.out _ _ ((hu.ext ((cell_drew x2).trans x3)).ext x9)
    clear x9
    go_wp2_with fail
    exact bodyPost_ret (v := zG #[.bool B, .slice au lu cu]) (by simp [results, Tryz.results126, go_sem, t4, t5]) rfl ⟨⟨_, rfl, HI9.out.set2 t4 t5⟩, (X9.out.setCell (show w.heap.size ≤ w.heap.size + 1 by omega) _).setCell (show w.heap.size ≤ w.heap.size + 1 by omega) _⟩
  · have hle1 : x.natAbs / 2 ^ n + 1 ≤ 2 * x.natAbs := by have := Nat.div_le_self x.natAbs (2 ^ n); omega
    have HM : Hid (∀ u w', IsN w' u (x.natAbs / 2 ^ n + 1) → Calls zP 56 #[.bool true, u] w' fun e w'' => e = zR (zG #[.bool (true && decide (0 < x.natAbs / 2 ^ n + 1)), u]) ∧ Ext w' w'') := fun u w' hu => made_any true u _ w' hu (small_le (f1.small2 (by omega)) hle1)
    have HO : Hid (∀ w', Calls zP 57 #[J zu 1] w' fun e w'' => (∃ v', e = zR v' ∧ IsN w'' v' 1) ∧ Ext w' w'') := fun w' => nof_any 1 (by omega) w'
    have HP : Hid (∀ u v w', IsN w' u (x.natAbs / 2 ^ n) → IsN w' v 1 → Calls zP 91 #[u, v] w' fun e w'' => (∃ v', e = zR v' ∧ IsN w'' v' (x.natAbs / 2 ^ n + 1)) ∧ Ext w' w'') := fun u v w' hu hv => nplus_any _ _ u v w' hu hv (small_le (f1.small (by omega)) (Nat.div_le_self _ _)) (small_64 1 (by omega))
    have HI : Hid (∀ u w', IsN w' u (x.natAbs / 2 ^ n + 1) → IsI w' (zG #[.bool (true && decide (0 < x.natAbs / 2 ^ n + 1)), u]) (x / 2 ^ n)) := fun u w' hu => by
      have h := isI_made w' true u _ hu
      rw [if_pos rfl, ← floor_shr1 x n hx hz] at h
      exact h
    have ec : cmpN (x.natAbs / 2 ^ n * 2 ^ n) x.natAbs = -1 := by unfold cmpN; rw [if_pos (by have := Nat.div_mul_le_self x.natAbs (2 ^ n); omega)]
    rw [ec] at HC
    clear k1 f1 hx hz ec hle1
    generalize (true && decide (0 < x.natAbs / 2 ^ n + 1)) = B at *
    generalize x.natAbs / 2 ^ n + 1 = M1 at *
    generalize x.natAbs / 2 ^ n * 2 ^ n = N at *
    generalize x.natAbs / 2 ^ n = M at *
    generalize x / 2 ^ n = Z at *
    go_enter Tryz.func126, Tryz.ntmps126
    go_wp2_with fail
    generalize ((w.alloc (.cells #[.bool true, .slice a1 l1 c1] 50)).alloc (.cells #[.bool false, .slice none 0 0] 50)) = W at *
    refine (HT.out _ XS.out).mono ?_
    rintro e w1 ⟨⟨u, rfl, hu⟩, x1⟩
    obtain ⟨q0, q1, q4, q5, q6, q7⟩ := LS.out.ext x1
    obtain ⟨au, lu, cu, hau⟩ := hu.isSlice
    subst hau
    go_wp2_with fail
    have k1 := q1
    go_region_held (fun w' => w'.cell? ⟨w.heap.size, 0, none⟩ = some (.bool true) ∧ w'.cell? ⟨w.heap.size, 1, none⟩ = some (.slice a1 l1 c1)) (go_keep) (first | (go_at_call 97; refine (HU.out _ _ (hu.ext ((Ext.refl _).drew))).mono ?_; rintro e w2 ⟨⟨v2, rfl, h2⟩, x2⟩; obtain ⟨s0, s1, s4, s5, s6, s7⟩ := LS.out.ext (x1.trans (cell_drew x2))) | (go_at_call 92; refine (HC.out _ _ ((XS.out.trans x1).trans (cell_drew x2)) h2).mono ?_; rintro e w3 ⟨rfl, x3⟩; obtain ⟨z0, z1, z4, z5, z6, z7⟩ := LS.out.ext ((x1.trans (cell_drew x2)).trans x3)))
    go_wp2_with fail
    refine (HO.out _).mono ?_
    rintro e w4 ⟨⟨o, rfl, ho⟩, x4⟩
    go_wp2_with fail
    refine (HP.out _ _ _ ((hu.ext ((cell_drew x2).trans x3)).ext x4) ho).mono ?_
    rintro e w5 ⟨⟨v5, rfl, h5⟩, x5⟩
    obtain ⟨y0, y1, y4, y5, y6, y7⟩ := LS.out.ext (((x1.trans (cell_drew x2)).trans x3).trans (x4.trans x5))
    obtain ⟨av, lv, cv, hav⟩ := h5.isSlice
    subst hav
    go_wp2_with fail
    refine (HM.out _ _ h5).mono ?_
    rintro e w9 ⟨rfl, x9⟩
    obtain ⟨t0, t1, t4, t5, t6, t7⟩ := LS.out.ext (((((x1.trans (cell_drew x2)).trans x3)).trans (x4.trans x5)).trans x9)
    have X9 : Hid (Ext w w9) := (XS.out.trans ((((x1.trans (cell_drew x2)).trans x3)).trans (x4.trans x5))).trans x9
    have HI9 : Hid (IsI w9 (zG #[.bool B, .slice av lv cv]) Z) := HI.out _ _ (h5.ext x9)
    clear x9
    go_wp2_with fail
    exact bodyPost_ret (v := zG #[.bool B, .slice av lv cv]) (by simp [results, Tryz.results126, go_sem, t4, t5]) rfl ⟨⟨_, rfl, HI9.out.set2 t4 t5⟩, (X9.out.setCell (show w.heap.size ≤ w.heap.size + 1 by omega) _).setCell (show w.heap.size ≤ w.heap.size + 1 by omega) _⟩
theorem right_isI (x : Int) (n k : Nat) (r1 : Value) (w : World) (h1 : IsI w r1 x) (hk : k ≤ 4000) (hn : n ≤ 4000) (f1 : Fit k x) :
    Calls zP 126 #[r1, J zq (n : Int)] w fun e w' => (∃ r', e = zR r' ∧ IsI w' r' (x / 2 ^ n)) ∧ Ext w w' := by
  by_cases hx : x < 0
  · exact right_neg x n k r1 w h1 hk hn f1 hx
  · exact right_pos x n k r1 w h1 hk hn f1 (by omega)
theorem div_gcd (x : Int) (d : Nat) (hd : d ≠ 0) : (x / (Nat.gcd x.natAbs d : Int)).natAbs = x.natAbs / Nat.gcd x.natAbs d ∧ (x.natAbs / Nat.gcd x.natAbs d ≠ 0 → decide (x < 0) = decide (x / (Nat.gcd x.natAbs d : Int) < 0)) := by
  have hg : 0 < Nat.gcd x.natAbs d := Nat.gcd_pos_of_pos_right _ (by omega)
  have hdv : Nat.gcd x.natAbs d ∣ x.natAbs := Nat.gcd_dvd_left _ _
  generalize Nat.gcd x.natAbs d = g at *
  obtain ⟨c, hc⟩ := hdv
  have e1 : x.natAbs / g = c := by rw [hc, Nat.mul_div_cancel_left _ hg]
  have e2 : x / (g : Int) = if x < 0 then -(c : Int) else (c : Int) := by
    split
    · have : x = (g : Int) * -(c : Int) := by rw [Int.mul_neg, ← Int.natCast_mul, ← hc]; omega
      rw [this, Int.mul_ediv_cancel_left _ (by omega)]
    · have : x = (g : Int) * (c : Int) := by rw [← Int.natCast_mul, ← hc]; omega
      rw [this, Int.mul_ediv_cancel_left _ (by omega)]
  rw [e1, e2]
  constructor
  · split <;> simp
  · intro h0
    rw [decide_eq_decide]
    split <;> omega
def IsQ (w : World) (v : Value) (n : Int) (d : Nat) : Prop := ∃ u1 u2, v = zG #[.bool (decide (n < 0)), u1, u2] ∧ IsN w u1 n.natAbs ∧ IsN w u2 d
theorem IsQ.ext {w w' : World} {v : Value} {n : Int} {d : Nat} (h : IsQ w v n d) (hx : Ext w w') : IsQ w' v n d := by
  obtain ⟨u1, u2, h1, h2, h3⟩ := h
  exact ⟨u1, u2, h1, h2.ext hx, h3.ext hx⟩
theorem IsN.set3 {w : World} {v : Value} {n g : Nat} {b0 : Bool} {a a' : Option Addr} {l c l' c' : Nat} {x y z : Value} (h : IsN w v n) (c0 : w.cell? ⟨g, 0, none⟩ = some (.bool b0)) (c1 : w.cell? ⟨g, 1, none⟩ = some (.slice a l c)) (c2 : w.cell? ⟨g, 2, none⟩ = some (.slice a' l' c')) :
    IsN (((w.setCell ⟨g, 0, none⟩ x).setCell ⟨g, 1, none⟩ y).setCell ⟨g, 2, none⟩ z) v n := by
  refine Row.set (c := .slice a' l' c') (Row.set (c := .slice a l c) (Row.set h x c0 (by simp)) y ?_ (by simp)) z ?_ (by simp)
  · rw [World.cell?_setCell_other _ _ _ _ (by simp)]; exact c1
  · rw [World.cell?_setCell_other _ _ _ _ (by simp), World.cell?_setCell_other _ _ _ _ (by simp)]; exact c2
structure Has3 (w : World) (b : Nat) (u v x : Value) : Prop where
  c0 : w.cell? ⟨b, 0, none⟩ = some u
  c1 : w.cell? ⟨b, 1, none⟩ = some v
  c2 : w.cell? ⟨b, 2, none⟩ = some x
  f0 : w.frozen? ⟨b, 0, none⟩ = false
  f1 : w.frozen? ⟨b, 1, none⟩ = false
  f2 : w.frozen? ⟨b, 2, none⟩ = false
theorem Has3.ext {w w' : World} {b : Nat} {u v x : Value} (h : Has3 w b u v x) (hx : Ext w w') : Has3 w' b u v x :=
  ⟨hx.kept h.c0, hx.kept h.c1, hx.kept h.c2, by rw [(hx.lay).2.1 _ _ (cell_lt h.c0)]; exact h.f0, by rw [(hx.lay).2.1 _ _ (cell_lt h.c1)]; exact h.f1, by rw [(hx.lay).2.1 _ _ (cell_lt h.c2)]; exact h.f2⟩
theorem has3_new (w : World) (u v x : Value) (T : TypeId) : Has3 (w.alloc (.cells #[u, v, x] T)) w.heap.size u v x := by
  constructor <;> simp [go_sem]
structure LaidR (p : Nat) (W : World) (u1 v1 : Value) : Prop where
  a : Has W p u1 v1
  b : Has3 W (p + 1) (.bool false) (.slice none 0 0) (.slice none 0 0)
theorem LaidR.ext {p : Nat} {W W' : World} {u1 v1 : Value} (h : LaidR p W u1 v1) (hx : Ext W W') : LaidR p W' u1 v1 := ⟨h.a.ext hx, h.b.ext hx⟩
theorem laidR_start (w : World) (u1 v1 : Value) : LaidR w.heap.size ((w.alloc (.cells #[u1, v1] 50)).alloc (.cells #[.bool false, .slice none 0 0, .slice none 0 0] 96)) u1 v1 := by
  constructor <;> constructor <;> simp [go_sem]
set_option maxHeartbeats 4000000 in
theorem make_isQ (x : Int) (d k : Nat) (r1 v2 : Value) (w : World) (h1 : IsI w r1 x) (h2 : IsN w v2 d) (hd : d ≠ 0) (hk : k ≤ 4000) (f1 : Fit k x) (f2 : Fit k (d : Int)) :
    Calls zP 99 #[r1, v2] w fun e w' => (∃ r, e = zR r ∧ IsQ w' r (x / (Nat.gcd x.natAbs d : Int)) (d / Nat.gcd x.natAbs d)) ∧ Ext w w' := by
  obtain ⟨u1, rfl, k1⟩ := h1
  have hg : 0 < Nat.gcd x.natAbs d := Nat.gcd_pos_of_pos_right _ (by omega)
  have hgd : Nat.gcd x.natAbs d ≤ d := Nat.le_of_dvd (by omega) (Nat.gcd_dvd_right _ _)
  have hM : ∃ M : Nat, x.natAbs ≤ M ∧ d ≤ M ∧ Fit k (M : Int) := by
    rcases Nat.le_total x.natAbs d with h | h
    · exact ⟨d, h, Nat.le_refl _, f2⟩
    · exact ⟨x.natAbs, Nat.le_refl _, h, by unfold Fit at *; rwa [Int.natAbs_natCast]⟩
  obtain ⟨M, hM1, hM2, fM⟩ := hM
  have fd : d < 2 ^ k := by have := f2; unfold Fit at this; rwa [Int.natAbs_natCast] at this
  have SD : Small d := small_pow d k fd (by omega)
  have SD2 : Small (2 * d) := by have := f2.small2 (by omega); rwa [Int.natAbs_natCast] at this
  have HG : Hid (∀ w', Ext w w' → Calls zP 127 #[u1, v2] w' fun e w'' => (∃ v', e = zR v' ∧ IsN w'' v' (Nat.gcd x.natAbs d)) ∧ Ext w' w'') := fun w' hxx => ngcd_any _ _ M u1 v2 w' (k1.ext hxx) (h2.ext hxx) hM1 hM2 (by have := fM.small2 (by omega); rwa [Int.natAbs_natCast] at this) (by have := fM.blen; rw [Int.natAbs_natCast] at this; omega)
  have HD1 : Hid (∀ g w', Ext w w' → IsN w' g (Nat.gcd x.natAbs d) → Calls zP 128 #[u1, g] w' fun e w'' => (∃ q r, e = zR (.tuple #[q, r]) ∧ IsN w'' q (x.natAbs / Nat.gcd x.natAbs d) ∧ IsN w'' r (x.natAbs % Nat.gcd x.natAbs d)) ∧ Ext w' w'') := fun g w' hxx hgg => ndivide_any _ _ u1 g w' (k1.ext hxx) hgg (f1.small2 (by omega)) (small_le SD hgd) (by omega) (Nat.le_trans f1.blen (by omega))
  have HD2 : Hid (∀ g w', Ext w w' → IsN w' g (Nat.gcd x.natAbs d) → Calls zP 128 #[v2, g] w' fun e w'' => (∃ q r, e = zR (.tuple #[q, r]) ∧ IsN w'' q (d / Nat.gcd x.natAbs d) ∧ IsN w'' r (d % Nat.gcd x.natAbs d)) ∧ Ext w' w'') := fun g w' hxx hgg => ndivide_any _ _ v2 g w' (h2.ext hxx) hgg SD2 (small_le SD hgd) (by omega) (Nat.le_trans (Dig.blen_le _ _ fd) (by omega))
  have HM : Hid (∀ u w', IsN w' u (x.natAbs / Nat.gcd x.natAbs d) → Calls zP 56 #[.bool (decide (x < 0)), u] w' fun e w'' => e = zR (zG #[.bool (decide (x < 0) && decide (0 < x.natAbs / Nat.gcd x.natAbs d)), u]) ∧ Ext w' w'') := fun u w' hu => made_any _ u _ w' hu (small_le (f1.small (by omega)) (Nat.div_le_self _ _))
  have HF : Hid (∀ u1 u2 w', IsN w' u1 (x.natAbs / Nat.gcd x.natAbs d) → IsN w' u2 (d / Nat.gcd x.natAbs d) → IsQ w' (zG #[.bool (decide (x < 0) && decide (0 < x.natAbs / Nat.gcd x.natAbs d)), u1, u2]) (x / (Nat.gcd x.natAbs d : Int)) (d / Nat.gcd x.natAbs d)) := fun u1 u2 w' hu1 hu2 => by
    obtain ⟨u, hu, hn⟩ := isI_of hu1 (div_gcd x d hd).1 (div_gcd x d hd).2
    have := (Value.agg.inj hu)
    simp only [Array.mk.injEq, List.cons.injEq, and_true] at this
    exact ⟨u1, u2, by rw [this.1], by rw [this.2]; exact hn, hu2⟩
  obtain ⟨a1, l1, c1, rfl⟩ := k1.isSlice
  obtain ⟨a2, l2, c2, rfl⟩ := h2.isSlice
  clear k1 h2 f1 f2 fd SD SD2 fM hM1 hM2 hg hgd
  generalize (decide (x < 0) && decide (0 < x.natAbs / Nat.gcd x.natAbs d)) = B at *
  generalize x / (Nat.gcd x.natAbs d : Int) = ZZ at *
  generalize x.natAbs / Nat.gcd x.natAbs d = X1 at *
  generalize x.natAbs % Nat.gcd x.natAbs d = X2 at *
  generalize d / Nat.gcd x.natAbs d = Y1 at *
  generalize d % Nat.gcd x.natAbs d = Y2 at *
  generalize Nat.gcd x.natAbs d = G at *
  generalize decide (x < 0) = b at *
  have XS : Hid (Ext w ((w.alloc (.cells #[.bool b, .slice a1 l1 c1] 50)).alloc (.cells #[.bool false, .slice none 0 0, .slice none 0 0] 96))) := ((Ext.refl w).alloc _).alloc _
  have LS : Hid (LaidR w.heap.size ((w.alloc (.cells #[.bool b, .slice a1 l1 c1] 50)).alloc (.cells #[.bool false, .slice none 0 0, .slice none 0 0] 96)) (.bool b) (.slice a1 l1 c1)) := laidR_start w _ _
  go_enter Tryz.func99, Tryz.ntmps99
  go_wp2_with fail
  generalize ((w.alloc (.cells #[.bool b, .slice a1 l1 c1] 50)).alloc (.cells #[.bool false, .slice none 0 0, .slice none 0 0] 96)) = W at *
  refine (HG.out _ XS.out).mono ?_
  rintro e w1 ⟨⟨g, rfl, hg⟩, x1⟩
  obtain ⟨ag, lg, cg, eg⟩ := hg.isSlice
  subst eg
  have L1 : Hid _ := LS.out.ext x1
  obtain ⟨⟨a0, a1', a2', a3'⟩, _⟩ := LS.out.ext x1
  go_wp2_with fail
  refine (HD1.out _ _ (XS.out.trans x1) hg).mono ?_
  rintro e w2 ⟨⟨m, m', rfl, hm, hm'⟩, x2⟩
  obtain ⟨am, lm, cm, em⟩ := hm.isSlice
  subst em
  have X2 : Hid (Ext w w2) := (XS.out.trans x1).trans x2
  have HG2 : Hid _ := hg.ext x2
  have LS2 : Hid _ := LS.out.ext (x1.trans x2)
  have HM2 : Hid (IsN w2 (.slice am lm cm) X1) := hm
  clear x1 x2 a0 a1' a2' a3' hg hm hm'
  go_wp2_with fail
  refine (HD2.out _ _ X2.out HG2.out).mono ?_
  rintro e w3 ⟨⟨n, n', rfl, hn, hn'⟩, x3⟩
  obtain ⟨an, ln, cn, en⟩ := hn.isSlice
  subst en
  have LS3 : Hid _ := LS2.out.ext x3
  obtain ⟨⟨a0, a1', a2', a3'⟩, ⟨b0, b1, b2, b3, b4, b5⟩⟩ := LS2.out.ext x3
  have X3 : Hid (Ext w w3) := X2.out.trans x3
  have HM3 : Hid (IsN w3 (.slice am lm cm) X1) := HM2.out.ext x3
  have HN3 : Hid (IsN w3 (.slice an ln cn) Y1) := hn
  clear x3 hn hn' HM2
  go_wp2_with fail
  refine (HM.out _ _ HM3.out).mono ?_
  rintro e w4 ⟨rfl, x4⟩
  obtain ⟨⟨d0, d1, d2, d3⟩, ⟨e0, e1, e2, e3, e4, e5⟩⟩ := LS3.out.ext x4
  have X4 : Hid (Ext w w4) := X3.out.trans x4
  have HM4 : Hid (IsN w4 (.slice am lm cm) X1) := HM3.out.ext x4
  have HN4 : Hid (IsN w4 (.slice an ln cn) Y1) := HN3.out.ext x4
  clear x4 a0 a1' a2' a3' b0 b1 b2 b3 b4 b5
  go_wp2_with fail
  exact bodyPost_ret (v := zG #[.bool B, .slice am lm cm, .slice an ln cn]) (by simp [results, Tryz.results99, go_sem, e0, e1, e2]) rfl
    ⟨⟨_, rfl, HF.out _ _ _ (HM4.out.set3 e0 e1 e2) (HN4.out.set3 e0 e1 e2)⟩, ((X4.out.setCell (show w.heap.size ≤ w.heap.size + 1 by omega) _).setCell (show w.heap.size ≤ w.heap.size + 1 by omega) _).setCell (show w.heap.size ≤ w.heap.size + 1 by omega) _⟩
end Go.Proofs.YtoeecldhbabmbaaGreat
