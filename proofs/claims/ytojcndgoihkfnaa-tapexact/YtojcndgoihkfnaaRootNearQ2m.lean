/- The reference of layer 1: RootNear of a rational. -/
import Derived.Test.YtojcndgoihkfnaaFloorm
import Derived.Test.YtojcndgoihkfnaaFloorQm
import Derived.Test.YtojcndgoihkfnaaRootQNumm
import Derived.Test.YtojcndgoihkfnaaMg46
import Derived.Test.YtojcndgoihkfnaaRoot90m
namespace Go.Proofs.Ytojcndgoihkfnaa
open Go.RowKit

theorem sq_odd (s : Nat) : (2 * s + 1) * (2 * s + 1) = 4 * (s * (s + 1)) + 1 := by
  simp only [Nat.mul_add, Nat.add_mul, Nat.mul_one, Nat.one_mul]
  have : 2 * s * (2 * s) = 4 * (s * s) := by rw [Nat.mul_mul_mul_comm]
  omega
theorem odd_gcd (m n : Nat) (hm : m % 2 = 1) (hn : n = 2 ∨ n = 4) : Nat.gcd m n = 1 := by
  have h : ∀ g, g ∣ m → g ∣ n → g = 1 := by
    intro g h1 h2
    have hle : g ≤ 4 := Nat.le_trans (Nat.le_of_dvd (by omega) h2) (by omega)
    obtain ⟨c, hc⟩ := h1
    obtain ⟨e, he⟩ := h2
    match g, hle with
    | 0, _ => omega
    | 1, _ => rfl
    | 2, _ => omega
    | 3, _ => omega
    | 4, _ => omega
  exact h _ (Nat.gcd_dvd_left _ _) (Nat.gcd_dvd_right _ _)

set_option maxHeartbeats 8000000 in
theorem rootnearq_any (N d k : Nat) (v : Value) (w : World) (h1 : IsQ w v (N : Int) d) (hd : d ≠ 0) (hk : k ≤ 300) (hk1 : 3 ≤ k) (f1 : Fit k (N : Int)) (f2 : Fit k (d : Int)) :
    Calls Try.prog 44 #[v] w fun e w' => (∃ (r : Value) (s : Nat), e = .returned r ∧ IsI w' r (s : Int) ∧ RootQ N d s) ∧ Ext w w' := by
  have HF : Hid (∀ w', Ext w w' → Calls Try.prog 61 #[v] w' fun e w'' => (∃ r, e = .returned r ∧ IsI w'' r ((N / d : Nat) : Int)) ∧ Ext w' w'') := fun w' hx => by
    have h := floorq_any (N : Int) d k v w' (h1.ext hx) hd (by omega) f1 f2
    rw [← Int.natCast_ediv] at h
    exact h
  have fN : Fit k ((N / d : Nat) : Int) := f1.of_le (by rw [Int.natAbs_natCast, Int.natAbs_natCast]; exact Nat.div_le_self _ _)
  have HR : Hid (∀ r w', IsI w' r ((N / d : Nat) : Int) → Calls Try.prog 60 #[r, .int .i64 2] w' fun e w'' => (∃ (r' : Value) (s : Nat), e = .returned r' ∧ IsI w'' r' (s : Int) ∧ s * s ≤ N / d ∧ N / d < (s + 1) * (s + 1)) ∧ Ext w' w'') := fun r w' hr => root2_isI (N / d) k r w' hr (by omega) fN
  have HQ0 : Hid (∀ w', Ext w w' → IsQ w' v (N : Int) d) := fun w' hx => h1.ext hx
  have HS : Hid (∀ s : Nat, s * s ≤ N / d → Fit (k + 3) (s : Int) ∧ Fit (k + 3) ((2 * s + 1 : Nat) : Int)) := by
    intro s hs
    have hle : s ≤ N := by
      have hdv := Nat.div_le_self N d
      rcases Nat.eq_zero_or_pos s with h0 | h0
      · omega
      · exact Nat.le_trans (Nat.le_mul_of_pos_left s h0) (Nat.le_trans hs hdv)
    have fs : Fit k (s : Int) := f1.of_le (by rw [Int.natAbs_natCast, Int.natAbs_natCast]; exact hle)
    refine ⟨fs.le (by omega), ?_⟩
    have g : Fit (k + 1) ((s : Int) * 2 ^ 1) := fs.shl 1
    have g2 : Fit (k + 2) ((s : Int) * 2 ^ 1 + 1) := g.add (fit_one _ (by omega))
    have e : ((2 * s + 1 : Nat) : Int) = (s : Int) * 2 ^ 1 + 1 := by rw [Int.pow_succ, Int.pow_zero, Int.one_mul]; omega
    rw [e]
    exact g2.le (by omega)
  have HO : Hid (∀ w', Calls Try.prog 51 #[.int .i64 1] w' fun e w'' => (∃ r, e = .returned r ∧ IsI w'' r 1) ∧ Ext w' w'') := fun w' => from_any 1 w' (by omega) (by omega)
  have HO2 : Hid (∀ w', Calls Try.prog 63 #[.int .u64 2] w' fun e w'' => (∃ v', e = .returned v' ∧ IsN w'' v' 2) ∧ Ext w' w'') := fun w' => nof_any 2 (by omega) w'
  have HL : Hid (∀ (s : Nat) r w', s * s ≤ N / d → IsI w' r (s : Int) → Calls Try.prog 62 #[r, .int .i64 1] w' fun e w'' => (∃ r', e = .returned r' ∧ IsI w'' r' ((2 * s : Nat) : Int)) ∧ Ext w' w'') := fun s r w' hs hr => by
    have f := (HS.out s hs).1
    have h := left_isI (s : Int) 1 r w' hr (f.small (by omega)) (by omega) ((f.shl 1).small (by omega))
    have e : (s : Int) * 2 ^ 1 = ((2 * s : Nat) : Int) := by rw [Int.pow_succ, Int.pow_zero, Int.one_mul]; omega
    rw [e] at h
    exact h
  have HP : Hid (∀ (s : Nat) r o w', s * s ≤ N / d → IsI w' r ((2 * s : Nat) : Int) → IsI w' o 1 → Calls Try.prog 48 #[r, o] w' fun e w'' => (∃ r', e = .returned r' ∧ IsI w'' r' ((2 * s + 1 : Nat) : Int)) ∧ Ext w' w'') := fun s r o w' hs hr ho => by
    have f := (HS.out s hs).2
    have h := plus_isI ((2 * s : Nat) : Int) 1 r o w' hr ho ((f.of_le (by rw [Int.natAbs_natCast, Int.natAbs_natCast]; omega)).small (by omega)) ((fit_one 1 (by omega) : Fit 1 1).small (by omega)) (by rw [show ((2 * s : Nat) : Int) + 1 = ((2 * s + 1 : Nat) : Int) by omega]; exact f.small (by omega))
    rw [show ((2 * s : Nat) : Int) + 1 = ((2 * s + 1 : Nat) : Int) by omega] at h
    exact h
  have HM : Hid (∀ (s : Nat) r o w', s * s ≤ N / d → IsI w' r ((2 * s + 1 : Nat) : Int) → IsN w' o 2 → Calls Try.prog 45 #[r, o] w' fun e w'' => (∃ q, e = .returned q ∧ IsQ w'' q ((2 * s + 1 : Nat) : Int) 2) ∧ Ext w' w'') := fun s r o w' hs hr ho => by
    have h := make_isQ ((2 * s + 1 : Nat) : Int) 2 (k + 3) r o w' hr ho (by omega) (by omega) (HS.out s hs).2 ((show Fit 2 ((2 : Nat) : Int) by unfold Fit; decide).le (by omega))
    rw [Int.natAbs_natCast, odd_gcd (2 * s + 1) 2 (by omega) (.inl rfl)] at h
    rw [show ((2 * s + 1 : Nat) : Int) / ((1 : Nat) : Int) = ((2 * s + 1 : Nat) : Int) by omega] at h
    exact h
  have HT : Hid (∀ (s : Nat) q w', s * s ≤ N / d → IsQ w' q ((2 * s + 1 : Nat) : Int) 2 → Calls Try.prog 65 #[q, q] w' fun e w'' => (∃ q', e = .returned q' ∧ IsQ w'' q' (((2 * s + 1) * (2 * s + 1) : Nat) : Int) 4) ∧ Ext w' w'') := fun s q w' hs hq => by
    have h := qtimes_any ((2 * s + 1 : Nat) : Int) ((2 * s + 1 : Nat) : Int) 2 2 (k + 3) q q w' hq hq (by omega) (by omega) (by omega) (HS.out s hs).2 (HS.out s hs).2 ((show Fit 2 ((2 : Nat) : Int) by unfold Fit; decide).le (by omega)) ((show Fit 2 ((2 : Nat) : Int) by unfold Fit; decide).le (by omega))
    rw [← Int.natCast_mul, Int.natAbs_natCast, odd_gcd ((2 * s + 1) * (2 * s + 1)) (2 * 2) (by rw [sq_odd]; omega) (.inr rfl)] at h
    rw [show (((2 * s + 1) * (2 * s + 1) : Nat) : Int) / ((1 : Nat) : Int) = (((2 * s + 1) * (2 * s + 1) : Nat) : Int) by omega] at h
    exact h
  have HC : Hid (∀ (s : Nat) q w', s * s ≤ N / d → Ext w w' → IsQ w' q (((2 * s + 1) * (2 * s + 1) : Nat) : Int) 4 → Calls Try.prog 64 #[q, v] w' fun e w'' => e = .returned (.int .i64 (sgn ((((2 * s + 1) * (2 * s + 1) : Nat) : Int) * (d : Int) - (N : Int) * ((4 : Nat) : Int)))) ∧ Ext w' w'') := fun s q w' hs hx hq =>
    qcmp_any _ _ 4 d (k + 3 + (k + 3)) q v w' hq (h1.ext hx) (by omega) (by rw [Int.natCast_mul]; exact (HS.out s hs).2.mul (HS.out s hs).2) (f1.le (by omega)) ((show Fit 3 ((4 : Nat) : Int) by unfold Fit; decide).le (by omega)) (f2.le (by omega))
  have HP2 : Hid (∀ (s : Nat) r o w', s * s ≤ N / d → IsI w' r (s : Int) → IsI w' o 1 → Calls Try.prog 48 #[r, o] w' fun e w'' => (∃ r', e = .returned r' ∧ IsI w'' r' ((s + 1 : Nat) : Int)) ∧ Ext w' w'') := fun s r o w' hs hr ho => by
    have f := (HS.out s hs).1
    have h := plus_isI (s : Int) 1 r o w' hr ho (f.small (by omega)) ((fit_one 1 (by omega) : Fit 1 1).small (by omega)) ((f.add (fit_one _ (by omega))).small (by omega))
    rw [show (s : Int) + 1 = ((s + 1 : Nat) : Int) by omega] at h
    exact h
  have HR2 : Hid (∀ (s : Nat) r w', s * s ≤ N / d → IsI w' r (s : Int) → Calls Try.prog 67 #[r, .int .i64 1] w' fun e w'' => (∃ r', e = .returned r' ∧ IsI w'' r' ((s / 2 : Nat) : Int)) ∧ Ext w' w'') := fun s r w' hs hr => by
    have h := right_isI (s : Int) 1 (k + 3) r w' hr (by omega) (by omega) (HS.out s hs).1
    have e : (s : Int) / 2 ^ 1 = ((s / 2 : Nat) : Int) := by rw [Int.pow_succ, Int.pow_zero, Int.one_mul]; omega
    rw [e] at h
    exact h
  have HL2 : Hid (∀ (s : Nat) r w', s * s ≤ N / d → IsI w' r ((s / 2 : Nat) : Int) → Calls Try.prog 62 #[r, .int .i64 1] w' fun e w'' => (∃ r', e = .returned r' ∧ IsI w'' r' ((s / 2 * 2 : Nat) : Int)) ∧ Ext w' w'') := fun s r w' hs hr => by
    have f := (HS.out s hs).1.of_le (show ((s / 2 : Nat) : Int).natAbs ≤ (s : Int).natAbs by rw [Int.natAbs_natCast, Int.natAbs_natCast]; omega)
    have h := left_isI ((s / 2 : Nat) : Int) 1 r w' hr (f.small (by omega)) (by omega) ((f.shl 1).small (by omega))
    have e : ((s / 2 : Nat) : Int) * 2 ^ 1 = ((s / 2 * 2 : Nat) : Int) := by rw [Int.pow_succ, Int.pow_zero, Int.one_mul]; omega
    rw [e] at h
    exact h
  have HC2 : Hid (∀ (s : Nat) r r' w', s * s ≤ N / d → IsI w' r ((s / 2 * 2 : Nat) : Int) → IsI w' r' (s : Int) → Calls Try.prog 66 #[r, r'] w' fun e w'' => e = .returned (.int .i64 (sgn (((s / 2 * 2 : Nat) : Int) - (s : Int)))) ∧ Ext w' w'') := fun s r r' w' hs hr hr' => by
    have f := (HS.out s hs).1
    have f' := f.of_le (show ((s / 2 * 2 : Nat) : Int).natAbs ≤ (s : Int).natAbs by rw [Int.natAbs_natCast, Int.natAbs_natCast]; omega)
    exact cmp_isI _ _ r r' w' hr hr' (f'.small (by omega)) (f.small (by omega)) ((f'.sub f).small (by omega))
  obtain ⟨u1, u2, rfl, k1, k2⟩ := h1
  rw [nat_nonneg] at HF HC HQ0 ⊢
  obtain ⟨a1, l1, c1, rfl⟩ := k1.isSlice
  obtain ⟨a2, l2, c2, rfl⟩ := k2.isSlice
  clear k1 k2 f1 f2 fN
  have XS : Hid (Ext w ((w.alloc (.cells #[.bool false, .slice a1 l1 c1, .slice a2 l2 c2] 87)).alloc (.cells #[.bool false, .slice none 0 0] 72))) := ((Ext.refl w).alloc _).alloc _
  have LS : Hid (LaidQ w.heap.size ((w.alloc (.cells #[.bool false, .slice a1 l1 c1, .slice a2 l2 c2] 87)).alloc (.cells #[.bool false, .slice none 0 0] 72)) (.bool false) (.slice a1 l1 c1) (.slice a2 l2 c2)) := laidQ_start w _ _ _
  go_enter Try.func44, Try.ntmps44
  go_wp2_with fail
  generalize ((w.alloc (.cells #[.bool false, .slice a1 l1 c1, .slice a2 l2 c2] 87)).alloc (.cells #[.bool false, .slice none 0 0] 72)) = W at *
  refine (HF.out _ XS.out).mono ?_
  rintro e w1 ⟨⟨r1, rfl, hr1⟩, x1⟩
  go_wp2_with fail
  refine (HR.out _ _ hr1).mono ?_
  rintro e w2 ⟨⟨r2, s, rfl, hr2, hs1, hs2⟩, x2⟩
  obtain ⟨u, hu, hk2⟩ := hr2
  obtain ⟨ak, lk, ck, ek⟩ := hk2.isSlice
  subst ek
  rw [nat_nonneg] at hu
  subst hu
  have X3 : Hid (Ext W (w2.alloc (.cells #[.bool false, .slice ak lk ck] 72))) := (x1.trans x2).alloc _
  have BK : Hid (Has (w2.alloc (.cells #[.bool false, .slice ak lk ck] 72)) w2.heap.size (.bool false) (.slice ak lk ck)) := ext_new1 (Ext.refl _)
  have HK : Hid (IsI (w2.alloc (.cells #[.bool false, .slice ak lk ck] 72)) (.agg #[.bool false, .slice ak lk ck]) (s : Int)) := ⟨_, by rw [nat_nonneg], hk2.ext ((Ext.refl _).alloc _)⟩
  obtain ⟨b0, b1, b2, b3⟩ := BK.out
  have HS1 : Hid (s * s ≤ N / d) := hs1
  have HS2 : Hid (N / d < (s + 1) * (s + 1)) := hs2
  have hgk : w.heap.size + 1 < w2.heap.size := Nat.lt_of_lt_of_le LS.out.b.lt (x1.trans x2).size
  clear hr1 x1 x2 hk2 hs1 hs2
  go_wp2_with fail
  refine (HL.out s _ _ HS1.out HK.out).mono ?_
  rintro e w3 ⟨⟨r3, rfl, hr3⟩, x3⟩
  go_wp2_with fail
  refine (HO.out _).mono ?_
  rintro e w4 ⟨⟨r4, rfl, hr4⟩, x4⟩
  go_wp2_with fail
  refine (HP.out s _ _ _ HS1.out (hr3.ext x4) hr4).mono ?_
  rintro e w5 ⟨⟨r5, rfl, hr5⟩, x5⟩
  go_wp2_with fail
  refine (HO2.out _).mono ?_
  rintro e w6 ⟨⟨r6, rfl, hr6⟩, x6⟩
  go_wp2_with fail
  refine (HM.out s _ _ _ HS1.out (hr5.ext x6) hr6).mono ?_
  rintro e w7 ⟨⟨r7, rfl, hr7⟩, x7⟩
  obtain ⟨uq, ud, hq, hq1, hq2⟩ := hr7
  obtain ⟨an, ln, cn, en⟩ := hq1.isSlice
  obtain ⟨ad, ld, cd, ed⟩ := hq2.isSlice
  subst en ed
  rw [nat_nonneg] at hq
  subst hq
  have x37 : Hid (Ext (w2.alloc (.cells #[.bool false, .slice ak lk ck] 72)) (w7.alloc (.cells #[.bool false, .slice an ln cn, .slice ad ld cd] 87))) := ((((x3.trans x4).trans x5).trans x6).trans x7).alloc _
  have X7 : Hid (Ext W (w7.alloc (.cells #[.bool false, .slice an ln cn, .slice ad ld cd] 87))) := X3.out.trans x37.out
  have BK7 : Hid (Has (w7.alloc (.cells #[.bool false, .slice an ln cn, .slice ad ld cd] 87)) w2.heap.size (.bool false) (.slice ak lk ck)) := BK.out.ext x37.out
  have HK7 : Hid (IsI (w7.alloc (.cells #[.bool false, .slice an ln cn, .slice ad ld cd] 87)) (.agg #[.bool false, .slice ak lk ck]) (s : Int)) := HK.out.ext x37.out
  have BH : Hid (Has3 (w7.alloc (.cells #[.bool false, .slice an ln cn, .slice ad ld cd] 87)) w7.heap.size (.bool false) (.slice an ln cn) (.slice ad ld cd)) := has3_new _ _ _ _ _
  have HH : Hid (IsQ (w7.alloc (.cells #[.bool false, .slice an ln cn, .slice ad ld cd] 87)) (.agg #[.bool false, .slice an ln cn, .slice ad ld cd]) ((2 * s + 1 : Nat) : Int) 2) := ⟨_, _, by rw [nat_nonneg], hq1.ext ((Ext.refl _).alloc _), hq2.ext ((Ext.refl _).alloc _)⟩
  clear hr3 hr4 hr5 hr6 hq1 hq2 x3 x4 x5 x6 x7 x37 b0 b1 b2 b3 BK HK X3 HL HP HM HO2
  have hlo : s * s * d ≤ N := Nat.le_trans (Nat.mul_le_mul_right d HS1.out) (Nat.div_mul_le_self N d)
  have hhi : N < (s + 1) * (s + 1) * d := by rw [← Nat.div_lt_iff_lt_mul (by omega)]; exact HS2.out
  have hd0 : 0 < d := by omega
  have ecast : (((2 * s + 1) * (2 * s + 1) : Nat) : Int) * (d : Int) - (N : Int) * ((4 : Nat) : Int) = (((2 * s + 1) * (2 * s + 1) * d : Nat) : Int) - ((4 * N : Nat) : Int) := by rw [Int.natCast_mul ((2 * s + 1) * (2 * s + 1)) d]; omega
  by_cases hc : (2 * s + 1) * (2 * s + 1) * d < 4 * N
  · have HZ : Hid (RootQ N d (s + 1)) := rootQ_up hhi (.inl hc)
    have ec : sgn ((((2 * s + 1) * (2 * s + 1) : Nat) : Int) * (d : Int) - (N : Int) * ((4 : Nat) : Int)) = -1 := by rw [ecast]; unfold sgn; rw [if_pos (by omega)]
    have HC' : Hid (∀ q w', Ext w w' → IsQ w' q (((2 * s + 1) * (2 * s + 1) : Nat) : Int) 4 → Calls Try.prog 64 #[q, .agg #[.bool false, .slice a1 l1 c1, .slice a2 l2 c2]] w' fun e w'' => e = .returned (.int .i64 (-1)) ∧ Ext w' w'') := fun q w' hx hq => by
      have h := HC.out s q w' HS1.out hx hq
      rw [ec] at h
      exact h
    clear hc ec hlo hhi hd0 ecast HS
    go_wp2_with fail
    generalize w7.alloc (.cells #[.bool false, .slice an ln cn, .slice ad ld cd] 87) = W7 at *
    generalize w7.heap.size = gh at *
    obtain ⟨h0, h1', h2', h3', h4', h5'⟩ := BH.out
    obtain ⟨⟨i0, i1, i2, i3, i4, i5⟩, _⟩ := LS.out.ext X7.out
    go_region_held (fun w' => w'.cell? ⟨gh, 0, none⟩ = some (.bool false) ∧ w'.cell? ⟨gh, 1, none⟩ = some (.slice an ln cn) ∧ w'.cell? ⟨gh, 2, none⟩ = some (.slice ad ld cd) ∧ w'.cell? ⟨w.heap.size, 0, none⟩ = some (.bool false) ∧ w'.cell? ⟨w.heap.size, 1, none⟩ = some (.slice a1 l1 c1) ∧ w'.cell? ⟨w.heap.size, 2, none⟩ = some (.slice a2 l2 c2)) (go_keep) (first | (go_at_call 65; refine (HT.out s _ _ HS1.out (HH.out.ext ((Ext.refl _).drew))).mono ?_; rintro e w8 ⟨⟨q8, rfl, hq8⟩, x8⟩; obtain ⟨d0, d1, d2, d3, d4, d5⟩ := BH.out.ext (cell_drew x8); obtain ⟨⟨d6, d7, d8, d9, d10, d11⟩, _⟩ := LS.out.ext (X7.out.trans (cell_drew x8))) | (go_at_call 64; refine (HC'.out _ _ (XS.out.trans (X7.out.trans (cell_drew x8))) hq8).mono ?_; rintro e w9 ⟨rfl, x9⟩; obtain ⟨e0, e1, e2, e3, e4, e5⟩ := BH.out.ext ((cell_drew x8).trans x9); obtain ⟨⟨e6, e7, e8, e9, e10, e11⟩, ⟨r0, r1', r2', r3⟩⟩ := LS.out.ext (X7.out.trans ((cell_drew x8).trans x9)); obtain ⟨g0, g1, g2, g3⟩ := BK7.out.ext ((cell_drew x8).trans x9)))
    have X9 : Hid (Ext W w9) := X7.out.trans ((cell_drew x8).trans x9)
    have BK9 : Hid (Has w9 w2.heap.size (.bool false) (.slice ak lk ck)) := BK7.out.ext ((cell_drew x8).trans x9)
    have HK9 : Hid (IsI w9 (.agg #[.bool false, .slice ak lk ck]) (s : Int)) := HK7.out.ext ((cell_drew x8).trans x9)
    clear x8 x9 hq8 d0 d1 d2 d3 d4 d5 d6 d7 d8 d9 d10 d11 e0 e1 e2 e3 e4 e5 e6 e7 e8 e9 e10 e11 h0 h1' h2' h3' h4' h5' i0 i1 i2 i3 i4 i5 BH HH BK7 HK7 X7 HT HC HC'
    go_wp2_with fail
    go_quiet (fail)
    go_wp2_with fail
    have BN : Hid (Has (w9.drewN nq) w2.heap.size (.bool false) (.slice ak lk ck)) := BK9.out.ext ((Ext.refl _).drewN _)
    have HN9 : Hid (IsI (w9.drewN nq) (.agg #[.bool false, .slice ak lk ck]) (s : Int)) := HK9.out.ext ((Ext.refl _).drewN _)
    have XN : Hid (Ext W (w9.drewN nq)) := X9.out.drewN _
    clear g0 g1 g2 g3 r0 r1' r2' r3
    generalize w9.drewN nq = Wn at *
    obtain ⟨g0, g1, g2, g3⟩ := BN.out
    have n1 : w2.heap.size ≠ w.heap.size + 1 := by omega
    go_region_held (fun w' => w'.cell? ⟨w2.heap.size, 0, none⟩ = some (.bool false) ∧ w'.cell? ⟨w2.heap.size, 1, none⟩ = some (.slice ak lk ck)) (first | (go_keep; done) | (simp only [far2 _ _ _ _ _ n1]; exact ⟨by assumption, by assumption⟩)) (first | (go_at_call 51; refine (HO.out _).mono ?_; rintro e wa ⟨⟨oa, rfl, hoa⟩, xa⟩; obtain ⟨ka0, ka1, ka2, ka3⟩ := BN.out.ext (cell_drew xa); obtain ⟨_, ⟨ra0, ra1, ra2, ra3⟩⟩ := LS.out.ext (XN.out.trans (cell_drew xa))) | (go_at_call 48; refine (HP2.out s _ _ _ HS1.out (HN9.out.ext (cell_drew xa)) hoa).mono ?_; rintro e wb ⟨⟨ob, rfl, hob⟩, xb⟩; obtain ⟨kb0, kb1, kb2, kb3⟩ := BN.out.ext ((cell_drew xa).trans xb); obtain ⟨_, ⟨rb0, rb1, rb2, rb3⟩⟩ := LS.out.ext (XN.out.trans ((cell_drew xa).trans xb)); obtain ⟨ub, hub, kb⟩ := hob; obtain ⟨ab, lb, cb, hab⟩ := kb.isSlice; subst hab; rw [nat_nonneg] at hub; subst hub))
    have XF : Hid (Ext w wb) := XS.out.trans (XN.out.trans ((cell_drew xa).trans xb))
    have HIF : Hid (IsI wb (.agg #[.bool false, .slice ab lb cb]) ((s + 1 : Nat) : Int)) := ⟨_, by rw [nat_nonneg], kb⟩
    go_wp2_with fail
    exact bodyPost_ret (v := .agg #[.bool false, .slice ab lb cb]) (by simp [results, Try.results44, go_sem, rb0, rb1]) rfl ⟨⟨_, s + 1, rfl, HIF.out.set2 rb0 rb1, HZ.out⟩, (XF.out.setCell (show w.heap.size ≤ w.heap.size + 1 by omega) _).setCell (show w.heap.size ≤ w.heap.size + 1 by omega) _⟩
  · by_cases hc2 : 4 * N < (2 * s + 1) * (2 * s + 1) * d
    · have HZ : Hid (RootQ N d s) := rootQ_down hd0 hlo (.inl hc2)
      have ec : sgn ((((2 * s + 1) * (2 * s + 1) : Nat) : Int) * (d : Int) - (N : Int) * ((4 : Nat) : Int)) = 1 := by rw [ecast]; unfold sgn; rw [if_neg (by omega), if_neg (by omega)]
      have HC' : Hid (∀ q w', Ext w w' → IsQ w' q (((2 * s + 1) * (2 * s + 1) : Nat) : Int) 4 → Calls Try.prog 64 #[q, .agg #[.bool false, .slice a1 l1 c1, .slice a2 l2 c2]] w' fun e w'' => e = .returned (.int .i64 1) ∧ Ext w' w'') := fun q w' hx hq => by
        have h := HC.out s q w' HS1.out hx hq
        rw [ec] at h
        exact h
      clear hc hc2 ec hlo hhi hd0 ecast HS
      go_wp2_with fail
      generalize w7.alloc (.cells #[.bool false, .slice an ln cn, .slice ad ld cd] 87) = W7 at *
      generalize w7.heap.size = gh at *
      obtain ⟨h0, h1', h2', h3', h4', h5'⟩ := BH.out
      obtain ⟨⟨i0, i1, i2, i3, i4, i5⟩, _⟩ := LS.out.ext X7.out
      go_region_held (fun w' => w'.cell? ⟨gh, 0, none⟩ = some (.bool false) ∧ w'.cell? ⟨gh, 1, none⟩ = some (.slice an ln cn) ∧ w'.cell? ⟨gh, 2, none⟩ = some (.slice ad ld cd) ∧ w'.cell? ⟨w.heap.size, 0, none⟩ = some (.bool false) ∧ w'.cell? ⟨w.heap.size, 1, none⟩ = some (.slice a1 l1 c1) ∧ w'.cell? ⟨w.heap.size, 2, none⟩ = some (.slice a2 l2 c2)) (go_keep) (first | (go_at_call 65; refine (HT.out s _ _ HS1.out (HH.out.ext ((Ext.refl _).drew))).mono ?_; rintro e w8 ⟨⟨q8, rfl, hq8⟩, x8⟩; obtain ⟨d0, d1, d2, d3, d4, d5⟩ := BH.out.ext (cell_drew x8); obtain ⟨⟨d6, d7, d8, d9, d10, d11⟩, _⟩ := LS.out.ext (X7.out.trans (cell_drew x8))) | (go_at_call 64; refine (HC'.out _ _ (XS.out.trans (X7.out.trans (cell_drew x8))) hq8).mono ?_; rintro e w9 ⟨rfl, x9⟩; obtain ⟨e0, e1, e2, e3, e4, e5⟩ := BH.out.ext ((cell_drew x8).trans x9); obtain ⟨⟨e6, e7, e8, e9, e10, e11⟩, ⟨r0, r1', r2', r3⟩⟩ := LS.out.ext (X7.out.trans ((cell_drew x8).trans x9)); obtain ⟨g0, g1, g2, g3⟩ := BK7.out.ext ((cell_drew x8).trans x9)))
      have X9 : Hid (Ext W w9) := X7.out.trans ((cell_drew x8).trans x9)
      have BK9 : Hid (Has w9 w2.heap.size (.bool false) (.slice ak lk ck)) := BK7.out.ext ((cell_drew x8).trans x9)
      have HK9 : Hid (IsI w9 (.agg #[.bool false, .slice ak lk ck]) (s : Int)) := HK7.out.ext ((cell_drew x8).trans x9)
      clear x8 x9 hq8 d0 d1 d2 d3 d4 d5 d6 d7 d8 d9 d10 d11 e0 e1 e2 e3 e4 e5 e6 e7 e8 e9 e10 e11 h0 h1' h2' h3' h4' h5' i0 i1 i2 i3 i4 i5 BH HH BK7 HK7 X7 HT HC HC'
      go_wp2_with fail
      go_quiet (fail)
      have XF : Hid (Ext w (w9.drewN nq)) := XS.out.trans (X9.out.drewN _)
      have HIF : Hid (IsI (w9.drewN nq) (.agg #[.bool false, .slice ak lk ck]) (s : Int)) := HK9.out.ext ((Ext.refl _).drewN _)
      obtain ⟨_, ⟨rb0, rb1, rb2, rb3⟩⟩ := LS.out.ext (X9.out.drewN nq)
      obtain ⟨kk0, kk1, kk2, kk3⟩ := BK9.out.ext ((Ext.refl _).drewN nq)
      clear g0 g1 g2 g3 r0 r1' r2' r3
      go_wp2_with fail
      exact bodyPost_ret (v := .agg #[.bool false, .slice ak lk ck]) (by simp [results, Try.results44, go_sem, rb0, rb1]) rfl ⟨⟨_, s, rfl, HIF.out.set2 rb0 rb1, HZ.out⟩, (XF.out.setCell (show w.heap.size ≤ w.heap.size + 1 by omega) _).setCell (show w.heap.size ≤ w.heap.size + 1 by omega) _⟩
    · by_cases hpar : s % 2 = 1
      · have HZ : Hid (RootQ N d (s + 1)) := rootQ_up hhi (.inr ⟨by omega, hpar⟩)
        have ec : sgn ((((2 * s + 1) * (2 * s + 1) : Nat) : Int) * (d : Int) - (N : Int) * ((4 : Nat) : Int)) = 0 := by rw [ecast]; unfold sgn; rw [if_neg (by omega), if_pos (by omega)]
        have HC' : Hid (∀ q w', Ext w w' → IsQ w' q (((2 * s + 1) * (2 * s + 1) : Nat) : Int) 4 → Calls Try.prog 64 #[q, .agg #[.bool false, .slice a1 l1 c1, .slice a2 l2 c2]] w' fun e w'' => e = .returned (.int .i64 0) ∧ Ext w' w'') := fun q w' hx hq => by
          have h := HC.out s q w' HS1.out hx hq
          rw [ec] at h
          exact h
        have HC2' : Hid (∀ r r' w', IsI w' r ((s / 2 * 2 : Nat) : Int) → IsI w' r' (s : Int) → Calls Try.prog 66 #[r, r'] w' fun e w'' => e = .returned (.int .i64 (-1)) ∧ Ext w' w'') := fun r r' w' hr hr' => by
          have h := HC2.out s r r' w' HS1.out hr hr'
          rw [show sgn (((s / 2 * 2 : Nat) : Int) - (s : Int)) = (-1) by unfold sgn; rw [if_pos (by omega)]] at h
          exact h
        clear hc hc2 hpar ec hlo hhi hd0 ecast HS
        go_wp2_with fail
        generalize w7.alloc (.cells #[.bool false, .slice an ln cn, .slice ad ld cd] 87) = W7 at *
        generalize w7.heap.size = gh at *
        obtain ⟨h0, h1', h2', h3', h4', h5'⟩ := BH.out
        obtain ⟨⟨i0, i1, i2, i3, i4, i5⟩, _⟩ := LS.out.ext X7.out
        go_region_held (fun w' => w'.cell? ⟨gh, 0, none⟩ = some (.bool false) ∧ w'.cell? ⟨gh, 1, none⟩ = some (.slice an ln cn) ∧ w'.cell? ⟨gh, 2, none⟩ = some (.slice ad ld cd) ∧ w'.cell? ⟨w.heap.size, 0, none⟩ = some (.bool false) ∧ w'.cell? ⟨w.heap.size, 1, none⟩ = some (.slice a1 l1 c1) ∧ w'.cell? ⟨w.heap.size, 2, none⟩ = some (.slice a2 l2 c2)) (go_keep) (first | (go_at_call 65; refine (HT.out s _ _ HS1.out (HH.out.ext ((Ext.refl _).drew))).mono ?_; rintro e w8 ⟨⟨q8, rfl, hq8⟩, x8⟩; obtain ⟨d0, d1, d2, d3, d4, d5⟩ := BH.out.ext (cell_drew x8); obtain ⟨⟨d6, d7, d8, d9, d10, d11⟩, _⟩ := LS.out.ext (X7.out.trans (cell_drew x8))) | (go_at_call 64; refine (HC'.out _ _ (XS.out.trans (X7.out.trans (cell_drew x8))) hq8).mono ?_; rintro e w9 ⟨rfl, x9⟩; obtain ⟨e0, e1, e2, e3, e4, e5⟩ := BH.out.ext ((cell_drew x8).trans x9); obtain ⟨⟨e6, e7, e8, e9, e10, e11⟩, ⟨r0, r1', r2', r3⟩⟩ := LS.out.ext (X7.out.trans ((cell_drew x8).trans x9)); obtain ⟨g0, g1, g2, g3⟩ := BK7.out.ext ((cell_drew x8).trans x9)))
        have X9 : Hid (Ext W w9) := X7.out.trans ((cell_drew x8).trans x9)
        have BK9 : Hid (Has w9 w2.heap.size (.bool false) (.slice ak lk ck)) := BK7.out.ext ((cell_drew x8).trans x9)
        have HK9 : Hid (IsI w9 (.agg #[.bool false, .slice ak lk ck]) (s : Int)) := HK7.out.ext ((cell_drew x8).trans x9)
        clear x8 x9 hq8 d0 d1 d2 d3 d4 d5 d6 d7 d8 d9 d10 d11 e0 e1 e2 e3 e4 e5 e6 e7 e8 e9 e10 e11 h0 h1' h2' h3' h4' h5' i0 i1 i2 i3 i4 i5 BH HH BK7 HK7 X7 HT HC HC'
        go_wp2_with fail
        obtain ⟨g0', g1', g2', g3'⟩ := BK9.out
        go_region_held (fun w' => w'.cell? ⟨w2.heap.size, 0, none⟩ = some (.bool false) ∧ w'.cell? ⟨w2.heap.size, 1, none⟩ = some (.slice ak lk ck)) (go_keep) (first | (go_at_call 67; refine (HR2.out s _ _ HS1.out (HK9.out.ext ((Ext.refl _).drew))).mono ?_; rintro e wp ⟨⟨op, rfl, hop⟩, xp⟩; obtain ⟨kp0, kp1, kp2, kp3⟩ := BK9.out.ext (cell_drew xp)) | (go_at_call 62; refine (HL2.out s _ _ HS1.out hop).mono ?_; rintro e wq ⟨⟨oq, rfl, hoq⟩, xq⟩; obtain ⟨kq0, kq1, kq2, kq3⟩ := BK9.out.ext ((cell_drew xp).trans xq)) | (go_at_call 66; refine (HC2'.out _ _ _ hoq (HK9.out.ext ((cell_drew xp).trans xq))).mono ?_; rintro e wt ⟨rfl, xt⟩; obtain ⟨kt0, kt1, kt2, kt3⟩ := BK9.out.ext (((cell_drew xp).trans xq).trans xt)))
        have xpt : Hid (Ext w9 wt) := ((cell_drew xp).trans xq).trans xt
        have BN : Hid (Has wt w2.heap.size (.bool false) (.slice ak lk ck)) := BK9.out.ext xpt.out
        have HN9 : Hid (IsI wt (.agg #[.bool false, .slice ak lk ck]) (s : Int)) := HK9.out.ext xpt.out
        have XN : Hid (Ext W wt) := X9.out.trans xpt.out
        clear g0 g1 g2 g3 r0 r1' r2' r3 g0' g1' g2' g3' xp xq xt hop hoq kp0 kp1 kp2 kp3 kq0 kq1 kq2 kq3 kt0 kt1 kt2 kt3
        go_wp2_with fail
        generalize wt = Wn at *
        obtain ⟨g0, g1, g2, g3⟩ := BN.out
        have n1 : w2.heap.size ≠ w.heap.size + 1 := by omega
        go_region_held (fun w' => w'.cell? ⟨w2.heap.size, 0, none⟩ = some (.bool false) ∧ w'.cell? ⟨w2.heap.size, 1, none⟩ = some (.slice ak lk ck)) (first | (go_keep; done) | (simp only [far2 _ _ _ _ _ n1]; exact ⟨by assumption, by assumption⟩)) (first | (go_at_call 51; refine (HO.out _).mono ?_; rintro e wa ⟨⟨oa, rfl, hoa⟩, xa⟩; obtain ⟨ka0, ka1, ka2, ka3⟩ := BN.out.ext (cell_drew xa); obtain ⟨_, ⟨ra0, ra1, ra2, ra3⟩⟩ := LS.out.ext (XN.out.trans (cell_drew xa))) | (go_at_call 48; refine (HP2.out s _ _ _ HS1.out (HN9.out.ext (cell_drew xa)) hoa).mono ?_; rintro e wb ⟨⟨ob, rfl, hob⟩, xb⟩; obtain ⟨kb0, kb1, kb2, kb3⟩ := BN.out.ext ((cell_drew xa).trans xb); obtain ⟨_, ⟨rb0, rb1, rb2, rb3⟩⟩ := LS.out.ext (XN.out.trans ((cell_drew xa).trans xb)); obtain ⟨ub, hub, kb⟩ := hob; obtain ⟨ab, lb, cb, hab⟩ := kb.isSlice; subst hab; rw [nat_nonneg] at hub; subst hub))
        have XF : Hid (Ext w wb) := XS.out.trans (XN.out.trans ((cell_drew xa).trans xb))
        have HIF : Hid (IsI wb (.agg #[.bool false, .slice ab lb cb]) ((s + 1 : Nat) : Int)) := ⟨_, by rw [nat_nonneg], kb⟩
        go_wp2_with fail
        exact bodyPost_ret (v := .agg #[.bool false, .slice ab lb cb]) (by simp [results, Try.results44, go_sem, rb0, rb1]) rfl ⟨⟨_, s + 1, rfl, HIF.out.set2 rb0 rb1, HZ.out⟩, (XF.out.setCell (show w.heap.size ≤ w.heap.size + 1 by omega) _).setCell (show w.heap.size ≤ w.heap.size + 1 by omega) _⟩
      · have HZ : Hid (RootQ N d s) := rootQ_down hd0 hlo (.inr ⟨by omega, by omega⟩)
        have ec : sgn ((((2 * s + 1) * (2 * s + 1) : Nat) : Int) * (d : Int) - (N : Int) * ((4 : Nat) : Int)) = 0 := by rw [ecast]; unfold sgn; rw [if_neg (by omega), if_pos (by omega)]
        have HC' : Hid (∀ q w', Ext w w' → IsQ w' q (((2 * s + 1) * (2 * s + 1) : Nat) : Int) 4 → Calls Try.prog 64 #[q, .agg #[.bool false, .slice a1 l1 c1, .slice a2 l2 c2]] w' fun e w'' => e = .returned (.int .i64 0) ∧ Ext w' w'') := fun q w' hx hq => by
          have h := HC.out s q w' HS1.out hx hq
          rw [ec] at h
          exact h
        have HC2' : Hid (∀ r r' w', IsI w' r ((s / 2 * 2 : Nat) : Int) → IsI w' r' (s : Int) → Calls Try.prog 66 #[r, r'] w' fun e w'' => e = .returned (.int .i64 0) ∧ Ext w' w'') := fun r r' w' hr hr' => by
          have h := HC2.out s r r' w' HS1.out hr hr'
          rw [show sgn (((s / 2 * 2 : Nat) : Int) - (s : Int)) = 0 by unfold sgn; rw [if_neg (by omega), if_pos (by omega)]] at h
          exact h
        clear hc hc2 hpar ec hlo hhi hd0 ecast HS
        go_wp2_with fail
        generalize w7.alloc (.cells #[.bool false, .slice an ln cn, .slice ad ld cd] 87) = W7 at *
        generalize w7.heap.size = gh at *
        obtain ⟨h0, h1', h2', h3', h4', h5'⟩ := BH.out
        obtain ⟨⟨i0, i1, i2, i3, i4, i5⟩, _⟩ := LS.out.ext X7.out
        go_region_held (fun w' => w'.cell? ⟨gh, 0, none⟩ = some (.bool false) ∧ w'.cell? ⟨gh, 1, none⟩ = some (.slice an ln cn) ∧ w'.cell? ⟨gh, 2, none⟩ = some (.slice ad ld cd) ∧ w'.cell? ⟨w.heap.size, 0, none⟩ = some (.bool false) ∧ w'.cell? ⟨w.heap.size, 1, none⟩ = some (.slice a1 l1 c1) ∧ w'.cell? ⟨w.heap.size, 2, none⟩ = some (.slice a2 l2 c2)) (go_keep) (first | (go_at_call 65; refine (HT.out s _ _ HS1.out (HH.out.ext ((Ext.refl _).drew))).mono ?_; rintro e w8 ⟨⟨q8, rfl, hq8⟩, x8⟩; obtain ⟨d0, d1, d2, d3, d4, d5⟩ := BH.out.ext (cell_drew x8); obtain ⟨⟨d6, d7, d8, d9, d10, d11⟩, _⟩ := LS.out.ext (X7.out.trans (cell_drew x8))) | (go_at_call 64; refine (HC'.out _ _ (XS.out.trans (X7.out.trans (cell_drew x8))) hq8).mono ?_; rintro e w9 ⟨rfl, x9⟩; obtain ⟨e0, e1, e2, e3, e4, e5⟩ := BH.out.ext ((cell_drew x8).trans x9); obtain ⟨⟨e6, e7, e8, e9, e10, e11⟩, ⟨r0, r1', r2', r3⟩⟩ := LS.out.ext (X7.out.trans ((cell_drew x8).trans x9)); obtain ⟨g0, g1, g2, g3⟩ := BK7.out.ext ((cell_drew x8).trans x9)))
        have X9 : Hid (Ext W w9) := X7.out.trans ((cell_drew x8).trans x9)
        have BK9 : Hid (Has w9 w2.heap.size (.bool false) (.slice ak lk ck)) := BK7.out.ext ((cell_drew x8).trans x9)
        have HK9 : Hid (IsI w9 (.agg #[.bool false, .slice ak lk ck]) (s : Int)) := HK7.out.ext ((cell_drew x8).trans x9)
        clear x8 x9 hq8 d0 d1 d2 d3 d4 d5 d6 d7 d8 d9 d10 d11 e0 e1 e2 e3 e4 e5 e6 e7 e8 e9 e10 e11 h0 h1' h2' h3' h4' h5' i0 i1 i2 i3 i4 i5 BH HH BK7 HK7 X7 HT HC HC'
        go_wp2_with fail
        obtain ⟨g0', g1', g2', g3'⟩ := BK9.out
        go_region_held (fun w' => w'.cell? ⟨w2.heap.size, 0, none⟩ = some (.bool false) ∧ w'.cell? ⟨w2.heap.size, 1, none⟩ = some (.slice ak lk ck)) (go_keep) (first | (go_at_call 67; refine (HR2.out s _ _ HS1.out (HK9.out.ext ((Ext.refl _).drew))).mono ?_; rintro e wp ⟨⟨op, rfl, hop⟩, xp⟩; obtain ⟨kp0, kp1, kp2, kp3⟩ := BK9.out.ext (cell_drew xp)) | (go_at_call 62; refine (HL2.out s _ _ HS1.out hop).mono ?_; rintro e wq ⟨⟨oq, rfl, hoq⟩, xq⟩; obtain ⟨kq0, kq1, kq2, kq3⟩ := BK9.out.ext ((cell_drew xp).trans xq)) | (go_at_call 66; refine (HC2'.out _ _ _ hoq (HK9.out.ext ((cell_drew xp).trans xq))).mono ?_; rintro e wt ⟨rfl, xt⟩; obtain ⟨kt0, kt1, kt2, kt3⟩ := BK9.out.ext (((cell_drew xp).trans xq).trans xt)))
        have xpt : Hid (Ext w9 wt) := ((cell_drew xp).trans xq).trans xt
        have BN : Hid (Has wt w2.heap.size (.bool false) (.slice ak lk ck)) := BK9.out.ext xpt.out
        have HN9 : Hid (IsI wt (.agg #[.bool false, .slice ak lk ck]) (s : Int)) := HK9.out.ext xpt.out
        have XN : Hid (Ext W wt) := X9.out.trans xpt.out
        clear g0 g1 g2 g3 r0 r1' r2' r3 g0' g1' g2' g3' xp xq xt hop hoq kp0 kp1 kp2 kp3 kq0 kq1 kq2 kq3 kt0 kt1 kt2 kt3
        have XF : Hid (Ext w wt) := XS.out.trans XN.out
        obtain ⟨_, ⟨rb0, rb1, rb2, rb3⟩⟩ := LS.out.ext XN.out
        obtain ⟨kk0, kk1, kk2, kk3⟩ := BN.out
        go_wp2_with fail
        exact bodyPost_ret (v := .agg #[.bool false, .slice ak lk ck]) (by simp [results, Try.results44, go_sem, rb0, rb1]) rfl ⟨⟨_, s, rfl, HN9.out.set2 rb0 rb1, HZ.out⟩, (XF.out.setCell (show w.heap.size ≤ w.heap.size + 1 by omega) _).setCell (show w.heap.size ≤ w.heap.size + 1 by omega) _⟩
end Go.Proofs.Ytojcndgoihkfnaa
