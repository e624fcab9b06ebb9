/- The reference's whole numbers with a sign: Less, Cmp, Left. The reference's whole numbers: NDivide. -/
import Derived.Test.YteimgbafclhkpaaInt2m
import Derived.Test.YteimgbafclhkpaaMg27
import Derived.Test.YteimgbafclhkpaaMg28
namespace Go.Proofs.Yteimgbafclhkpaa
open Go.RowKit

set_option maxHeartbeats 4000000 in
theorem less_isI (x y : Int) (r1 r2 : Value) (w : World) (h1 : IsI w r1 x) (h2 : IsI w r2 y) (s1 : SmallI x) (s2 : SmallI y) (s3 : SmallI (x - y)) :
    Calls Try.prog 87 #[r1, r2] w fun e w' => (∃ r', e = .returned r' ∧ IsI w' r' (x - y)) ∧ Ext w w' := by
  have s2' : SmallI (-y) := by unfold SmallI at *; rw [Int.natAbs_neg]; exact s2
  have HG : Hid (∀ w', Ext w w' → Calls Try.prog 42 #[r2] w' fun e w'' => (∃ r', e = .returned r' ∧ IsI w'' r' (-y)) ∧ Ext w' w'') := fun w' hx => neg_isI y r2 w' (h2.ext hx) s2
  have HP : Hid (∀ r w', Ext w w' → IsI w' r (-y) → Calls Try.prog 36 #[r1, r] w' fun e w'' => (∃ r', e = .returned r' ∧ IsI w'' r' (x - y)) ∧ Ext w' w'') := fun r w' hx hr => by
    have h := plus_isI x (-y) r1 r w' (h1.ext hx) hr s1 s2' (by rw [← Int.sub_eq_add_neg]; exact s3)
    rw [← Int.sub_eq_add_neg] at h
    exact h
  obtain ⟨u1, rfl, k1⟩ := h1
  obtain ⟨u2, rfl, k2⟩ := h2
  obtain ⟨a1, l1, c1, e1⟩ := k1.isSlice
  obtain ⟨a2, l2, c2, e2⟩ := k2.isSlice
  subst e1 e2
  clear k1 k2 s1 s2 s3 s2'
  generalize decide (x < 0) = d1 at *
  generalize decide (y < 0) = d2 at *
  have LS : Hid _ := laid_start w d1 d2 (.slice a1 l1 c1) (.slice a2 l2 c2)
  have XS : Hid (Ext w (((w.alloc (.cells #[.bool d1, .slice a1 l1 c1] 53)).alloc (.cells #[.bool d2, .slice a2 l2 c2] 53)).alloc (.cells #[.bool false, .slice none 0 0] 53))) := (((Ext.refl w).alloc _).alloc _).alloc _
  go_enter Try.func87, Try.ntmps87
  go_wp2_with fail
  generalize ((w.alloc (.cells #[.bool d1, .slice a1 l1 c1] 53)).alloc (.cells #[.bool d2, .slice a2 l2 c2] 53)).alloc (.cells #[.bool false, .slice none 0 0] 53) = W at *
  obtain ⟨p0, p1, p2, p3, p4, p5, p6, p7⟩ := LS.out
  go_region_held (fun w' => w'.cell? ⟨w.heap.size, 0, none⟩ = some (.bool d1) ∧ w'.cell? ⟨w.heap.size, 1, none⟩ = some (.slice a1 l1 c1) ∧ w'.cell? ⟨w.heap.size + 1, 0, none⟩ = some (.bool d2) ∧ w'.cell? ⟨w.heap.size + 1, 1, none⟩ = some (.slice a2 l2 c2)) (first | (go_keep; done) | (simp only [far2 _ _ _ _ _ (show w.heap.size ≠ w.heap.size + 1 + 1 by omega), far2 _ _ _ _ _ (show w.heap.size + 1 ≠ w.heap.size + 1 + 1 by omega)]; exact ⟨by assumption, by assumption, by assumption, by assumption⟩)) (first | (go_at_call 42; refine (HG.out _ (XS.out.drew)).mono ?_; rintro e w1 ⟨⟨r, rfl, hr⟩, x1⟩; obtain ⟨q0, q1, q2, q3, q4, q5, q6, q7⟩ := LS.out.ext (cell_drew x1)) | (go_at_call 36; refine (HP.out _ _ (XS.out.trans (cell_drew x1)) hr).mono ?_; rintro e w2 ⟨⟨r', rfl, hr'⟩, x2⟩; obtain ⟨t0, t1, t2, t3, t4, t5, t6, t7⟩ := LS.out.ext ((cell_drew x1).trans x2); obtain ⟨u, hru, hu⟩ := hr'; obtain ⟨au, lu, cu, hau⟩ := hu.isSlice; subst hau; subst hru))
  have X : Hid (Ext w w2) := (XS.out.trans (cell_drew x1)).trans x2
  have HI : Hid (IsI w2 (.agg #[.bool (decide (x - y < 0)), .slice au lu cu]) (x - y)) := ⟨_, rfl, hu⟩
  go_wp2_with fail
  exact bodyPost_ret (v := .agg #[.bool (decide (x - y < 0)), .slice au lu cu]) (by simp [results, Try.results87, go_sem, t4, t5]) rfl ⟨⟨_, rfl, HI.out.set2 t4 t5⟩, (X.out.setCell (show w.heap.size ≤ w.heap.size + 1 + 1 by omega) _).setCell (show w.heap.size ≤ w.heap.size + 1 + 1 by omega) _⟩

set_option maxHeartbeats 1000000 in
theorem cmp_isI (x y : Int) (r1 r2 : Value) (w : World) (h1 : IsI w r1 x) (h2 : IsI w r2 y) (s1 : SmallI x) (s2 : SmallI y) (s3 : SmallI (x - y)) :
    Calls Try.prog 62 #[r1, r2] w fun e w' => e = .returned (.int .i64 (sgn (x - y))) ∧ Ext w w' := by
  have HL : Hid (∀ w', Ext w w' → Calls Try.prog 87 #[r1, r2] w' fun e w'' => (∃ r', e = .returned r' ∧ IsI w'' r' (x - y)) ∧ Ext w' w'') := fun w' hx => less_isI x y r1 r2 w' (h1.ext hx) (h2.ext hx) s1 s2 s3
  have HS : Hid (∀ r w', IsI w' r (x - y) → Calls Try.prog 86 #[r] w' fun e w'' => e = .returned (.int .i64 (sgn (x - y))) ∧ Ext w' w'') := fun r w' hr => sign_isI (x - y) r w' hr s3
  obtain ⟨u1, rfl, k1⟩ := h1
  obtain ⟨u2, rfl, k2⟩ := h2
  obtain ⟨a1, l1, c1, e1⟩ := k1.isSlice
  obtain ⟨a2, l2, c2, e2⟩ := k2.isSlice
  subst e1 e2
  clear k1 k2 s1 s2 s3
  generalize decide (x < 0) = d1 at *
  generalize decide (y < 0) = d2 at *
  have XS : Hid (Ext w ((w.alloc (.cells #[.bool d1, .slice a1 l1 c1] 53)).alloc (.cells #[.bool d2, .slice a2 l2 c2] 53))) := ((Ext.refl w).alloc _).alloc _
  go_enter Try.func62, Try.ntmps62
  go_wp2_with fail
  refine (HL.out _ XS.out).mono ?_
  rintro e w1 ⟨⟨r, rfl, hr⟩, x1⟩
  go_wp2_with fail
  refine (HS.out _ _ hr).mono ?_
  rintro e w2 ⟨rfl, x2⟩
  go_wp2_with fail
  go_ret
  exact ⟨rfl, (XS.out.trans x1).trans x2⟩

/-- what a function of one number lays first: it, and room for its answer -/
structure Laid1 (w W : World) (b1 : Bool) (u1 : Value) : Prop where
  a0 : W.cell? ⟨w.heap.size, 0, none⟩ = some (.bool b1)
  a1 : W.cell? ⟨w.heap.size, 1, none⟩ = some u1
  c0 : W.cell? ⟨w.heap.size + 1, 0, none⟩ = some (.bool false)
  c1 : W.cell? ⟨w.heap.size + 1, 1, none⟩ = some (.slice none 0 0)
  f0 : W.frozen? ⟨w.heap.size + 1, 0, none⟩ = false
  f1 : W.frozen? ⟨w.heap.size + 1, 1, none⟩ = false
theorem Laid1.ext {w W W' : World} {b1 : Bool} {u1 : Value} (h : Laid1 w W b1 u1) (hx : Ext W W') : Laid1 w W' b1 u1 :=
  ⟨hx.kept h.a0, hx.kept h.a1, hx.kept h.c0, hx.kept h.c1, by rw [(hx.lay).2.1 _ _ (cell_lt h.c0)]; exact h.f0, by rw [(hx.lay).2.1 _ _ (cell_lt h.c1)]; exact h.f1⟩
theorem laid1_start (w : World) (b1 : Bool) (u1 : Value) : Laid1 w ((w.alloc (.cells #[.bool b1, u1] 53)).alloc (.cells #[.bool false, .slice none 0 0] 53)) b1 u1 := by
  constructor <;> simp [go_sem]

set_option maxHeartbeats 4000000 in
theorem left_isI (x : Int) (n : Nat) (r1 : Value) (w : World) (h1 : IsI w r1 x) (s1 : SmallI x) (hn : n ≤ 10000) (s3 : SmallI (x * 2 ^ n)) :
    Calls Try.prog 23 #[r1, .int .i64 (n : Int)] w fun e w' => (∃ r', e = .returned r' ∧ IsI w' r' (x * 2 ^ n)) ∧ Ext w w' := by
  obtain ⟨u1, rfl, k1⟩ := h1
  have hab : (x * 2 ^ n).natAbs = x.natAbs * 2 ^ n := by rw [Int.natAbs_mul, Int.natAbs_pow]; rfl
  have hp : 0 < (2 : Int) ^ n := Int.pow_pos (by omega)
  have hsg : x.natAbs * 2 ^ n ≠ 0 → decide (x < 0) = decide (x * 2 ^ n < 0) := by
    intro h0
    rw [decide_eq_decide]
    constructor
    · intro h; exact Int.mul_neg_of_neg_of_pos h hp
    · intro h
      apply Int.not_le.1
      intro hle
      have := Int.mul_nonneg hle (Int.le_of_lt hp)
      omega
  have HT : Hid (∀ w', Ext w w' → Calls Try.prog 44 #[u1, .int .i64 (n : Int)] w' fun e w'' => (∃ v', e = .returned v' ∧ IsN w'' v' (x.natAbs * 2 ^ n)) ∧ Ext w' w'') := fun w' hx => up2_any _ n u1 w' (k1.ext hx) s1 hn
  have HM : Hid (∀ u w', IsN w' u (x.natAbs * 2 ^ n) → Calls Try.prog 43 #[.bool (decide (x < 0)), u] w' fun e w'' => e = .returned (.agg #[.bool (decide (x < 0) && decide (0 < x.natAbs * 2 ^ n)), u]) ∧ Ext w' w'') := fun u w' hu => made_any _ u _ w' hu (by have : Small (x * 2 ^ n).natAbs := s3; rwa [hab] at this)
  have HF : Hid (∀ u w', IsN w' u (x.natAbs * 2 ^ n) → IsI w' (.agg #[.bool (decide (x < 0) && decide (0 < x.natAbs * 2 ^ n)), u]) (x * 2 ^ n)) := fun u w' hu => isI_of hu hab hsg
  obtain ⟨a1, l1, c1, rfl⟩ := k1.isSlice
  clear k1 s1 s3 hab hsg hp
  generalize (decide (x < 0) && decide (0 < x.natAbs * 2 ^ n)) = B at *
  generalize decide (x < 0) = d1 at *
  generalize x.natAbs * 2 ^ n = M at *
  generalize x * 2 ^ n = Z at *
  have XS : Hid (Ext w ((w.alloc (.cells #[.bool d1, .slice a1 l1 c1] 53)).alloc (.cells #[.bool false, .slice none 0 0] 53))) := ((Ext.refl w).alloc _).alloc _
  have LS : Hid (Laid1 w ((w.alloc (.cells #[.bool d1, .slice a1 l1 c1] 53)).alloc (.cells #[.bool false, .slice none 0 0] 53)) d1 (.slice a1 l1 c1)) := laid1_start w d1 (.slice a1 l1 c1)
  go_enter Try.func23, Try.ntmps23
  go_wp2_with fail
  generalize (w.alloc (.cells #[.bool d1, .slice a1 l1 c1] 53)).alloc (.cells #[.bool false, .slice none 0 0] 53) = W at *
  obtain ⟨p0, p1, p4, p5, p6, p7⟩ := LS.out
  go_region_held (fun w' => w'.cell? ⟨w.heap.size, 0, none⟩ = some (.bool d1) ∧ w'.cell? ⟨w.heap.size, 1, none⟩ = some (.slice a1 l1 c1)) (first | (go_keep; done) | (simp only [far2 _ _ _ _ _ (show w.heap.size ≠ w.heap.size + 1 by omega)]; exact ⟨by assumption, by assumption⟩)) (first | (go_at_call 44; refine (HT.out _ (XS.out.drew)).mono ?_; rintro e w1 ⟨⟨u, rfl, hu⟩, x1⟩; obtain ⟨q0, q1, q4, q5, q6, q7⟩ := LS.out.ext (cell_drew x1)) | (go_at_call 43; refine (HM.out _ _ hu).mono ?_; rintro e w2 ⟨rfl, x2⟩; obtain ⟨t0, t1, t4, t5, t6, t7⟩ := LS.out.ext ((cell_drew x1).trans x2); obtain ⟨au, lu, cu, hau⟩ := hu.isSlice; subst hau))
  have X : Hid (Ext w w2) := (XS.out.trans (cell_drew x1)).trans x2
  have HI : Hid (IsI w2 (.agg #[.bool B, .slice au lu cu]) Z) := HF.out _ w2 (hu.ext x2)
  go_wp2_with fail
  exact bodyPost_ret (v := .agg #[.bool B, .slice au lu cu]) (by simp [results, Try.results23, go_sem, t4, t5]) rfl ⟨⟨_, rfl, HI.out.set2 t4 t5⟩, (X.out.setCell (show w.heap.size ≤ w.heap.size + 1 by omega) _).setCell (show w.heap.size ≤ w.heap.size + 1 by omega) _⟩
end Go.Proofs.Yteimgbafclhkpaa

namespace Go.Proofs.Yteimgbafclhkpaa
open Go.RowKit

theorem small_le {m n : Nat} (h : Small m) (hn : n ≤ m) : Small n := by
  have k1 := Dig.val_lt 18446744073709551616 _ (Dig.okd 18446744073709551616 m (by omega))
  have k2 := Dig.val_lt 4294967296 _ (Dig.okd 4294967296 m (by omega))
  rw [Dig.vald 18446744073709551616 m (by omega)] at k1
  rw [Dig.vald 4294967296 m (by omega)] at k2
  exact ⟨Nat.le_trans (Dig.digs_length_le _ (by omega) n _ (Nat.lt_of_le_of_lt hn k1)) h.1, Nat.le_trans (Dig.digs_length_le _ (by omega) n _ (Nat.lt_of_le_of_lt hn k2)) h.2⟩

set_option maxHeartbeats 4000000 in
theorem ndivide_short (m b : Nat) (v1 v2 : Value) (w : World) (h1 : IsN w v1 m) (h2 : IsN w v2 b) (s1 : Small m) (s2 : Small b) (hl : (Dig.digs 4294967296 b).length = 1) :
    Calls Try.prog 65 #[v1, v2] w fun e w' => (∃ q r, e = .returned (.tuple #[q, r]) ∧ IsN w' q (m / b) ∧ IsN w' r (m % b)) ∧ Ext w w' := by
  have hbb := Dig.length_bounds 4294967296 b 0 (by omega) hl
  have hb1 : 1 ≤ b := by simpa using hbb.1
  have hb2 : b < 4294967296 := by simpa using hbb.2
  have hd0 : (Dig.digs 4294967296 b).getD 0 0 = b := by rw [Dig.digs_getD _ (by omega), Nat.pow_zero, Nat.div_one, Nat.mod_eq_of_lt hb2]
  have H1 : Hid (∀ w', Ext w w' → Calls Try.prog 79 #[v2] w' fun e w'' => (∃ v', e = .returned v' ∧ Row .u32 w'' v' (Dig.digs 4294967296 b)) ∧ Ext w' w'') := fun w' hx => halves_any b v2 w' (h2.ext hx) s2.1
  have H2 : Hid (∀ w', Ext w w' → Calls Try.prog 79 #[v1] w' fun e w'' => (∃ v', e = .returned v' ∧ Row .u32 w'' v' (Dig.digs 4294967296 m)) ∧ Ext w' w'') := fun w' hx => halves_any m v1 w' (h1.ext hx) s1.1
  have H3 : Hid (∀ v w, Row .u32 w v (Dig.digs 4294967296 m) → Calls Try.prog 89 #[v, .int .u32 (b : Int)] w fun e w' => (∃ v', e = .returned (.tuple #[v', .int .u32 ((m % b : Nat) : Int)]) ∧ Row .u32 w' v' (Dig.digs 4294967296 (m / b))) ∧ Ext w w') := fun v w hr => short_any m b v w hr s1.2 hb1 hb2
  have H4 : Hid (∀ v w, Row .u32 w v (Dig.digs 4294967296 (m / b)) → Calls Try.prog 80 #[v] w fun e w' => (∃ v', e = .returned v' ∧ IsN w' v' (m / b)) ∧ Ext w w') := fun v w hr => by
    have h := whole_any _ v w hr (Dig.okd _ _ (by omega)) (by have := (small_le s1 (Nat.div_le_self m b)).2; omega)
    rw [Dig.vald _ _ (by omega)] at h
    exact h
  have hmb : m % b < 4294967296 := Nat.lt_trans (Nat.mod_lt _ hb1) hb2
  have H5 : Hid (∀ w, Calls Try.prog 45 #[.int .u64 ((m % b : Nat) : Int)] w fun e w' => (∃ v', e = .returned v' ∧ IsN w' v' (m % b)) ∧ Ext w w') := fun w => nof_any (m % b) (by omega) w
  obtain ⟨a1, l1, c1, e1⟩ := h1.isSlice
  obtain ⟨a2, l2, c2, e2⟩ := h2.isSlice
  subst e1 e2
  clear h1 h2 s1 s2 hbb hb1
  obtain ⟨xs, hxs⟩ : ∃ xs, Dig.digs 4294967296 b = xs := ⟨_, rfl⟩
  rw [hxs] at H1 hl hd0
  clear hxs
  obtain ⟨Bb, gB⟩ : ∃ B : Int, (b : Int) = B := ⟨_, rfl⟩
  obtain ⟨Rr, gR, gR1, gR2⟩ : ∃ R : Int, ((m % b : Nat) : Int) = R ∧ 0 ≤ R ∧ R < 4294967296 := ⟨_, rfl, by omega, by omega⟩
  rw [gB, gR] at H3
  rw [gR] at H5
  have HQ : Hid (xs.getD 0 0 = b) := hd0
  have GB : Hid ((b : Int) = Bb) := gB
  have HL1 : Hid (xs.length = 1) := hl
  clear hd0 gB gR hmb hb2
  go_enter Try.func65, Try.ntmps65
  go_wp2_with fail
  refine (H1.out _ (Ext.refl _)).mono ?_
  rintro e w1 ⟨⟨y, rfl, hy⟩, x1⟩
  obtain ⟨ay, cy, rfl, gy⟩ := hy.shape
  obtain ⟨by', oy, rfl, hcell⟩ := gy (by omega)
  have hc0 := hcell 0 (by omega)
  rw [HQ.out, GB.out, Nat.add_zero] at hc0
  rw [HL1.out]
  clear hcell gy hy hl
  go_wp2_with fail
  go_region_with (first | (go_at_call 79; refine (H2.out _ (by first | exact x1 | exact x1.drew | exact x1.drew.drew | exact x1.drewN _)).mono ?_; rintro e w2 ⟨⟨x, rfl, hx⟩, x2⟩; have k0 := x2.kept hc0) | (go_at_call 89; refine (H3.out _ _ hx).mono ?_; rintro e w3 ⟨⟨q, rfl, hq⟩, x3⟩))
  all_goals
    have X3 : Hid (Ext w w3) := by first | exact (x1.trans x2).trans x3 | exact (x1.trans (cell_drew x2)).trans x3 | exact ((x1.drewN _).trans x2).trans x3 | exact (x1.drew.trans x2).trans x3
    clear x1 x2 x3 hx
    go_wp2_with fail
    refine (H4.out _ _ hq).mono ?_
    rintro e w4 ⟨⟨q', rfl, hq'⟩, x4⟩
    go_wp2_with fail
    refine (H5.out _).mono ?_
    rintro e w5 ⟨⟨r', rfl, hr'⟩, x5⟩
    go_wp2_with fail
    go_ret2
    exact ⟨⟨_, _, rfl, hq'.ext x5, hr'⟩, (X3.out.trans x4).trans x5⟩

set_option maxHeartbeats 4000000 in
theorem ndivide_less (m b : Nat) (v1 v2 : Value) (w : World) (h1 : IsN w v1 m) (h2 : IsN w v2 b) (s1 : Small m) (s2 : Small b) (hl : (Dig.digs 4294967296 b).length ≠ 1) (hlt : Dig.blen m < Dig.blen b) :
    Calls Try.prog 65 #[v1, v2] w fun e w' => (∃ q r, e = .returned (.tuple #[q, r]) ∧ IsN w' q (m / b) ∧ IsN w' r (m % b)) ∧ Ext w w' := by
  have hmb : m < b := by
    apply Nat.lt_of_not_le
    intro hle
    have := Dig.blen_le b _ (Nat.lt_of_le_of_lt hle (Dig.lt_blen m))
    omega
  have T1 : Dig.blen m ≤ 64000 := Dig.blen_bound m 1000 s1.1
  have T2 : Dig.blen b ≤ 64000 := Dig.blen_bound b 1000 s2.1
  have H1 : Hid (∀ w', Ext w w' → Calls Try.prog 79 #[v2] w' fun e w'' => (∃ v', e = .returned v' ∧ Row .u32 w'' v' (Dig.digs 4294967296 b)) ∧ Ext w' w'') := fun w' hx => halves_any b v2 w' (h2.ext hx) s2.1
  have H2 : Hid (∀ w', Ext w w' → Calls Try.prog 90 #[v1] w' fun e w'' => e = .returned (.int .i64 (Dig.blen m : Int)) ∧ w'' = w') := fun w' hx => nlen_any m v1 w' (h1.ext hx) s1
  have H3 : Hid (∀ w', Ext w w' → Calls Try.prog 90 #[v2] w' fun e w'' => e = .returned (.int .i64 (Dig.blen b : Int)) ∧ w'' = w') := fun w' hx => nlen_any b v2 w' (h2.ext hx) s2
  have E1 : Hid (m / b = 0) := Nat.div_eq_of_lt hmb
  have E2 : Hid (m % b = m) := Nat.mod_eq_of_lt hmb
  have HM : Hid (IsN w v1 m) := h1
  obtain ⟨a1, l1, c1, e1⟩ := h1.isSlice
  obtain ⟨a2, l2, c2, e2⟩ := h2.isSlice
  subst e1 e2
  have HS : Hid ((Dig.digs 4294967296 b).length ≤ 2000) := s2.2
  clear h1 h2 s1 s2 hmb
  generalize Dig.blen m = A at *
  generalize Dig.blen b = B at *
  generalize Dig.digs 4294967296 b = xs at *
  have hne : ((xs.length : Int) == 1) = false := by simp; omega
  have hA : (A : Int) < (B : Int) := by omega
  have hl2 : xs.length ≤ 2000 := HS.out
  clear hl
  go_enter Try.func65, Try.ntmps65
  go_wp2_with fail
  refine (H1.out _ (Ext.refl _)).mono ?_
  rintro e w1 ⟨⟨y, rfl, hy⟩, x1⟩
  obtain ⟨ay, cy, rfl, gy⟩ := hy.shape
  clear gy hy
  go_wp2_with fail
  refine (H2.out _ x1).mono ?_
  rintro e wx ⟨rfl, hwx⟩
  have hwy := hwx.symm
  clear hwx
  subst hwy
  go_wp2_with fail
  refine (H3.out _ x1).mono ?_
  rintro e wx ⟨rfl, hwx⟩
  have hwy := hwx.symm
  clear hwx
  subst hwy
  go_wp2_with fail
  go_ret2
  refine ⟨⟨_, _, rfl, .inl ⟨rfl, ?_⟩, ?_⟩, x1⟩
  · rw [E1.out]; rfl
  · rw [E2.out]; exact HM.out.ext x1
end Go.Proofs.Yteimgbafclhkpaa
