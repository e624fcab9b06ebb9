/- The reference's whole numbers: NGcd. Sizes of whole numbers, by bits. The reference's whole numbers with a sign: Divide. The reference's whole numbers with a sign: Divide, below 0. -/
import Derived.Test.YtoeecldhbabmbaaGreatMg35
open Go.Value renaming int → J, agg → zG
open Go.IntKind renaming i64 → zq
open Go.Ending renaming returned → zR
open Go.Proofs.Tryz renaming prog → zP
namespace Go.Proofs.YtoeecldhbabmbaaGreat
open Go.RowKit
theorem row_unique {k : IntKind} {w : World} {v : Value} {xs ys : List Nat} (h : Row k w v xs) (h' : Row k w v ys) : xs = ys := by
  obtain ⟨a, c, hv, hc⟩ := h.shape
  obtain ⟨a', c', hv', hc'⟩ := h'.shape
  rw [hv] at hv'
  obtain ⟨e1, e2, _⟩ := Value.slice.inj hv'
  subst e1
  apply List.ext_getElem?
  intro i
  by_cases hi : i < xs.length
  · obtain ⟨b, o, hb, hcell⟩ := hc (by omega)
    obtain ⟨b', o', hb', hcell'⟩ := hc' (by omega)
    rw [hb] at hb'
    cases hb'
    have h1 := hcell i hi
    have h2 := hcell' i (by omega)
    rw [h1] at h2
    have h3 := (Value.int.inj (Option.some.inj h2)).2
    have h4 : xs.getD i 0 = ys.getD i 0 := by omega
    rw [List.getElem?_eq_getElem hi, List.getElem?_eq_getElem (show i < ys.length by omega)]
    rw [List.getD_eq_getElem?_getD, List.getD_eq_getElem?_getD, List.getElem?_eq_getElem hi, List.getElem?_eq_getElem (show i < ys.length by omega)] at h4
    simp only [Option.getD_some] at h4
    rw [h4]
  · rw [List.getElem?_eq_none (by omega), List.getElem?_eq_none (by omega)]
theorem isN_unique {w : World} {v : Value} {m n : Nat} (h : IsN w v m) (h' : IsN w v n) : m = n := by
  have e := row_unique h h'
  have h1 := Dig.vald 18446744073709551616 m (by omega)
  have h2 := Dig.vald 18446744073709551616 n (by omega)
  rw [e] at h1
  omega
theorem blen_mono {x y : Nat} (h : x ≤ y) : Dig.blen x ≤ Dig.blen y := Dig.blen_le x _ (Nat.lt_of_le_of_lt h (Dig.lt_blen y))
set_option maxHeartbeats 2000000 in
theorem ngcd_aux (numOf : World → Value → Nat) (numOf_eq : Hid (∀ w v n, IsN w v n → numOf w v = n)) (m n M : Nat) (v1 v2 : Value) (w : World) (h1 : IsN w v1 m) (h2 : IsN w v2 n) (hm : m ≤ M) (hn : n ≤ M) (s : Small (2 * M)) (hb : Dig.blen M ≤ 10000) :
    Calls zP 127 #[v1, v2] w fun e w' => (∃ v', e = zR v' ∧ IsN w' v' (Nat.gcd m n)) ∧ Ext w w' := by
  have HD : Hid (∀ x y u v w', x ≤ M → y ≤ M → y ≠ 0 → IsN w' u x → IsN w' v y → Calls zP 128 #[u, v] w' fun e w'' => (∃ q r, e = zR (.tuple #[q, r]) ∧ IsN w'' q (x / y) ∧ IsN w'' r (x % y)) ∧ Ext w' w'') := fun x y u v w' hx hy h0 hu hv => ndivide_any x y u v w' hu hv (small_le s (by omega)) (small_le s (by omega)) h0 (Nat.le_trans (blen_mono hx) hb)
  have H1 : Hid _ := h1
  have H2 : Hid _ := h2
  have HS : Hid (∀ y, y ≤ M → Small y) := fun y hy => small_le s (by omega)
  obtain ⟨a1, l1, c1, e1⟩ := h1.isSlice
  obtain ⟨a2, l2, c2, e2⟩ := h2.isSlice
  subst e1 e2
  clear h1 h2 s hb
  go_enter Tryz.func127, Tryz.ntmps127
  go_wp2_with fail
  go_loopw [0, 1] (fun av bv wr => ∃ (x y : Nat), x ≤ M ∧ y ≤ M ∧ Hid (IsN wr av x) ∧ Hid (IsN wr bv y) ∧ Hid (Nat.gcd x y = Nat.gcd m n) ∧ Ext w wr) (fun _ bv wr => numOf wr bv)
  case atStart => exact ⟨m, n, hm, hn, H1, H2, rfl, Ext.refl _⟩
  case round =>
    obtain ⟨x, y, hx, hy, hX, hY, hg, hxx⟩ := hrel
    obtain ⟨ax, lx, cx, ex, zx, hlx⟩ := hX.out.zero_iff
    obtain ⟨ay, ly, cy, ey, zy, hly⟩ := hY.out.zero_iff
    subst ex ey
    have hly2 : ly ≤ 1000 := by have := (HS.out y hy).1; omega
    by_cases h0 : y = 0
    · have hz : ly = 0 := zy.2 h0
      subst hz
      have hG : Hid (IsN wr (.slice ax lx cx) (Nat.gcd m n)) := by
        have := hX.out
        have e := hg.out
        rw [h0, Nat.gcd_zero_right] at e
        rw [e] at this
        exact this
      clear zx zy hlx hly hX hY hg h0
      go_wp2_with fail
      go_ret
      exact ⟨⟨_, rfl, hG.out⟩, hxx⟩
    · have hp : (0 : Int) < (ly : Int) := by
        have : ly ≠ 0 := fun h => h0 (zy.1 h)
        omega
      have hm1 : Hid (numOf wr (.slice ay ly cy) = y) := numOf_eq.out _ _ _ hY.out
      have hlt : Hid (x % y < y) := Nat.mod_lt _ (by omega)
      have hg2 : Hid (Nat.gcd y (x % y) = Nat.gcd m n) := by
        show _ = _
        rw [← hg.out, Nat.gcd_comm x y, Nat.gcd_rec y x, Nat.gcd_comm]
      have h0' : Hid (y ≠ 0) := h0
      clear zx zy hlx hly h0 hg
      go_wp2_with fail
      refine (HD.out x y _ _ wr hx hy h0'.out hX.out hY.out).mono ?_
      rintro e w1 ⟨⟨q, r, rfl, hq, hr⟩, x1⟩
      obtain ⟨aq, lq, cq, eq⟩ := hq.isSlice
      obtain ⟨ar, lr, cr, er⟩ := hr.isSlice
      subst eq er
      have HR : Hid _ := hr
      have HY : Hid _ := hY.out.ext x1
      have HX1 : Hid (Ext w w1) := hxx.trans x1
      have hm2 : Hid (numOf w1 (.slice ar lr cr) = x % y) := numOf_eq.out _ _ _ hr
      clear hq hr x1 hX hY hxx
      go_wp2_with fail
      go_roundw
      case rel => exact ⟨y, x % y, hy, Nat.le_trans (Nat.le_of_lt hlt.out) hy, HY, HR, hg2, HX1.out⟩
      case measure =>
        show numOf w1 (.slice ar lr cr) < numOf wr (.slice ay ly cy)
        rw [hm1.out, hm2.out]
        exact hlt.out
theorem ngcd_any (m n M : Nat) (v1 v2 : Value) (w : World) (h1 : IsN w v1 m) (h2 : IsN w v2 n) (hm : m ≤ M) (hn : n ≤ M) (s : Small (2 * M)) (hb : Dig.blen M ≤ 10000) :
    Calls zP 127 #[v1, v2] w fun e w' => (∃ v', e = zR v' ∧ IsN w' v' (Nat.gcd m n)) ∧ Ext w w' :=
  ngcd_aux (fun w v => Classical.epsilon fun n => IsN w v n) (fun _ _ n h => isN_unique (Classical.epsilon_spec ⟨n, h⟩) h) m n M v1 v2 w h1 h2 hm hn s hb
def Fit (k : Nat) (z : Int) : Prop := z.natAbs < 2 ^ k
theorem Fit.le {k l : Nat} {z : Int} (h : Fit k z) (hl : k ≤ l) : Fit l z := Nat.lt_of_lt_of_le h (Nat.pow_le_pow_right (by omega) hl)
theorem Fit.neg {k : Nat} {z : Int} (h : Fit k z) : Fit k (-z) := by unfold Fit; rw [Int.natAbs_neg]; exact h
theorem Fit.mul {k l : Nat} {x y : Int} (h : Fit k x) (h' : Fit l y) : Fit (k + l) (x * y) := by
  unfold Fit
  rw [Int.natAbs_mul, Nat.pow_add]
  rcases Nat.eq_zero_or_pos y.natAbs with h0 | h0
  · rw [h0, Nat.mul_zero]; exact Nat.mul_pos (Nat.pow_pos (by omega)) (Nat.pow_pos (by omega))
  · exact Nat.mul_lt_mul_of_lt_of_le h (Nat.le_of_lt h') (Nat.pow_pos (by omega))
theorem Fit.add {k : Nat} {x y : Int} (h : Fit k x) (h' : Fit k y) : Fit (k + 1) (x + y) := by
  unfold Fit at *
  have := Int.natAbs_add_le x y
  rw [Nat.pow_succ]
  omega
theorem Fit.sub {k : Nat} {x y : Int} (h : Fit k x) (h' : Fit k y) : Fit (k + 1) (x - y) := by
  rw [Int.sub_eq_add_neg]; exact h.add h'.neg
theorem Fit.shl {k : Nat} {x : Int} (h : Fit k x) (n : Nat) : Fit (k + n) (x * 2 ^ n) := by
  unfold Fit at *
  have e : (x * 2 ^ n).natAbs = x.natAbs * 2 ^ n := by rw [Int.natAbs_mul, Int.natAbs_pow]; rfl
  rw [e, Nat.pow_add]
  exact Nat.mul_lt_mul_of_pos_right h (Nat.pow_pos (by omega))
theorem Fit.of_le {k : Nat} {x y : Int} (h : Fit k x) (h' : y.natAbs ≤ x.natAbs) : Fit k y := Nat.lt_of_le_of_lt h' h
theorem small_pow (n k : Nat) (h : n < 2 ^ k) (hk : k ≤ 9000) : Small n := by
  have e : ∀ j : Nat, (18446744073709551616 : Nat) ^ j = 2 ^ (64 * j) := fun j => by
    have : (18446744073709551616 : Nat) = 2 ^ 64 := by decide
    rw [this, ← Nat.pow_mul]
  have e' : ∀ j : Nat, (4294967296 : Nat) ^ j = 2 ^ (32 * j) := fun j => by
    have : (4294967296 : Nat) = 2 ^ 32 := by decide
    rw [this, ← Nat.pow_mul]
  constructor
  · have := Dig.digs_length_le 18446744073709551616 (by omega) n (k / 64 + 1) (by rw [e]; exact Nat.lt_of_lt_of_le h (Nat.pow_le_pow_right (by omega) (by omega)))
    omega
  · have := Dig.digs_length_le 4294967296 (by omega) n (k / 32 + 1) (by rw [e']; exact Nat.lt_of_lt_of_le h (Nat.pow_le_pow_right (by omega) (by omega)))
    omega
theorem Fit.small {k : Nat} {z : Int} (h : Fit k z) (hk : k ≤ 9000) : SmallI z := small_pow _ k h hk
theorem Fit.small2 {k : Nat} {z : Int} (h : Fit k z) (hk : k ≤ 8999) : Small (2 * z.natAbs) := by
  refine small_pow _ (k + 1) ?_ (by omega)
  unfold Fit at h
  rw [Nat.pow_succ]
  omega
theorem Fit.blen {k : Nat} {z : Int} (h : Fit k z) : Dig.blen z.natAbs ≤ k := Dig.blen_le _ _ h
structure Has (w : World) (b : Nat) (u v : Value) : Prop where
  c0 : w.cell? ⟨b, 0, none⟩ = some u
  c1 : w.cell? ⟨b, 1, none⟩ = some v
  f0 : w.frozen? ⟨b, 0, none⟩ = false
  f1 : w.frozen? ⟨b, 1, none⟩ = false
theorem Has.ext {w w' : World} {b : Nat} {u v : Value} (h : Has w b u v) (hx : Ext w w') : Has w' b u v :=
  ⟨hx.kept h.c0, hx.kept h.c1, by rw [(hx.lay).2.1 _ _ (cell_lt h.c0)]; exact h.f0, by rw [(hx.lay).2.1 _ _ (cell_lt h.c1)]; exact h.f1⟩
theorem Has.lt {w : World} {b : Nat} {u v : Value} (h : Has w b u v) : b < w.heap.size := cell_lt h.c0
structure Laid5 (p g : Nat) (W : World) (u1 v1 u2 v2 u3 v3 : Value) : Prop where
  a : Has W p u1 v1
  b : Has W (p + 1) u2 v2
  c : Has W (p + 1 + 1) (.bool false) (.slice none 0 0)
  d : Has W (p + 1 + 1 + 1) (.bool false) (.slice none 0 0)
  e : Has W g u3 v3
theorem Laid5.ext {p g : Nat} {W W' : World} {u1 v1 u2 v2 u3 v3 : Value} (h : Laid5 p g W u1 v1 u2 v2 u3 v3) (hx : Ext W W') : Laid5 p g W' u1 v1 u2 v2 u3 v3 := ⟨h.a.ext hx, h.b.ext hx, h.c.ext hx, h.d.ext hx, h.e.ext hx⟩
theorem has_new (w : World) (u v : Value) : Has (w.alloc (.cells #[u, v] 50)) w.heap.size u v := by
  constructor <;> simp [go_sem]
structure Laid4 (p : Nat) (W : World) (u1 v1 u2 v2 : Value) : Prop where
  a : Has W p u1 v1
  b : Has W (p + 1) u2 v2
  c : Has W (p + 1 + 1) (.bool false) (.slice none 0 0)
  d : Has W (p + 1 + 1 + 1) (.bool false) (.slice none 0 0)
theorem Laid4.ext {p : Nat} {W W' : World} {u1 v1 u2 v2 : Value} (h : Laid4 p W u1 v1 u2 v2) (hx : Ext W W') : Laid4 p W' u1 v1 u2 v2 := ⟨h.a.ext hx, h.b.ext hx, h.c.ext hx, h.d.ext hx⟩
theorem laid4_start (w : World) (u1 v1 u2 v2 : Value) : Laid4 w.heap.size ((((w.alloc (.cells #[u1, v1] 50)).alloc (.cells #[u2, v2] 50)).alloc (.cells #[.bool false, .slice none 0 0] 50)).alloc (.cells #[.bool false, .slice none 0 0] 50)) u1 v1 u2 v2 := by
  constructor <;> constructor <;> simp [go_sem]
set_option maxHeartbeats 4000000 in
theorem divide_pos (x y : Int) (k : Nat) (r1 r2 : Value) (w : World) (h1 : IsI w r1 x) (h2 : IsI w r2 y) (hk : k ≤ 4000) (f1 : Fit k x) (f2 : Fit k y) (hy : 0 < y) (hx : 0 ≤ x) :
    Calls zP 125 #[r1, r2] w fun e w' => (∃ q r, e = zR (.tuple #[q, r]) ∧ IsI w' q (x / y) ∧ IsI w' r (x % y)) ∧ Ext w w' := by
  have hq : (x / y).natAbs = x.natAbs / y.natAbs := by
    obtain ⟨a, rfl⟩ := Int.eq_ofNat_of_zero_le hx
    obtain ⟨b, rfl⟩ := Int.eq_ofNat_of_zero_le (Int.le_of_lt hy)
    rfl
  have hq0 : 0 ≤ x / y := Int.ediv_nonneg hx (Int.le_of_lt hy)
  have fq : Fit k (x / y) := f1.of_le (by rw [hq]; exact Nat.div_le_self _ _)
  have hmod : x - x / y * y = x % y := by have := Int.emod_add_mul_ediv x y; rw [Int.mul_comm] at this; omega
  have fqy : Fit (k + k) (x / y * y) := fq.mul f2
  obtain ⟨u1, rfl, k1⟩ := h1
  obtain ⟨u2, rfl, k2⟩ := h2
  have HD : Hid (∀ w', Ext w w' → Calls zP 128 #[u1, u2] w' fun e w'' => (∃ q r, e = zR (.tuple #[q, r]) ∧ IsN w'' q (x / y).natAbs ∧ IsN w'' r (x.natAbs % y.natAbs)) ∧ Ext w' w'') := fun w' hxx => by
    have h := ndivide_any x.natAbs y.natAbs u1 u2 w' (k1.ext hxx) (k2.ext hxx) (f1.small2 (by omega)) (f2.small (by omega)) (by omega) (Nat.le_trans f1.blen (by omega))
    rw [← hq] at h
    exact h
  have HM : Hid (∀ u w', IsN w' u (x / y).natAbs → Calls zP 56 #[.bool false, u] w' fun e w'' => e = zR (zG #[.bool false, u]) ∧ Ext w' w'') := fun u w' hu => made_any false u _ w' hu (fq.small (by omega))
  have HI : Hid (∀ u w', IsN w' u (x / y).natAbs → IsI w' (zG #[.bool false, u]) (x / y)) := fun u w' hu => ⟨u, by rw [decide_eq_false (by omega)], hu⟩
  have HT : Hid (∀ r w', Ext w w' → IsI w' r (x / y) → Calls zP 55 #[r, zG #[.bool (decide (y < 0)), u2]] w' fun e w'' => (∃ r', e = zR r' ∧ IsI w'' r' (x / y * y)) ∧ Ext w' w'') := fun r w' hxx hr => times_isI (x / y) y r _ w' hr ⟨u2, rfl, k2.ext hxx⟩ (fq.small (by omega)) (f2.small (by omega)) (fqy.small (by omega))
  have HL : Hid (∀ r w', Ext w w' → IsI w' r (x / y * y) → Calls zP 54 #[zG #[.bool (decide (x < 0)), u1], r] w' fun e w'' => (∃ r', e = zR r' ∧ IsI w'' r' (x % y)) ∧ Ext w' w'') := fun r w' hxx hr => by
    have h := less_isI x (x / y * y) _ r w' ⟨u1, rfl, k1.ext hxx⟩ hr (f1.small (by omega)) (fqy.small (by omega)) (((f1.le (by omega)).sub fqy).small (by omega))
    rw [hmod] at h
    exact h
  rw [decide_eq_false (show ¬ x < 0 by omega)] at HL ⊢
  rw [decide_eq_false (show ¬ y < 0 by omega)] at HT ⊢
  obtain ⟨a1, l1, c1, rfl⟩ := k1.isSlice
  obtain ⟨a2, l2, c2, rfl⟩ := k2.isSlice
  clear k1 k2 f1 f2 fq fqy hmod hq hq0 hx hy
  generalize (x / y).natAbs = Qn at *
  generalize x.natAbs % y.natAbs = Rn at *
  generalize x / y = Q at *
  generalize x % y = R at *
  generalize Q * y = P at *
  obtain ⟨p, hp⟩ : ∃ p : Nat, w.heap.size = p := ⟨_, rfl⟩
  have XS : Hid (Ext w ((((w.alloc (.cells #[.bool false, .slice a1 l1 c1] 50)).alloc (.cells #[.bool false, .slice a2 l2 c2] 50)).alloc (.cells #[.bool false, .slice none 0 0] 50)).alloc (.cells #[.bool false, .slice none 0 0] 50))) := ((((Ext.refl w).alloc _).alloc _).alloc _).alloc _
  have LS : Hid (Laid4 w.heap.size ((((w.alloc (.cells #[.bool false, .slice a1 l1 c1] 50)).alloc (.cells #[.bool false, .slice a2 l2 c2] 50)).alloc (.cells #[.bool false, .slice none 0 0] 50)).alloc (.cells #[.bool false, .slice none 0 0] 50)) (.bool false) (.slice a1 l1 c1) (.bool false) (.slice a2 l2 c2)) := laid4_start w _ _ _ _
  clear hp
  go_enter Tryz.func125, Tryz.ntmps125
  go_wp2_with fail
  generalize (((w.alloc (.cells #[.bool false, .slice a1 l1 c1] 50)).alloc (.cells #[.bool false, .slice a2 l2 c2] 50)).alloc (.cells #[.bool false, .slice none 0 0] 50)).alloc (.cells #[.bool false, .slice none 0 0] 50) = W at *
  refine (HD.out _ XS.out).mono ?_
  rintro e w1 ⟨⟨qn, rn, rfl, hqn, hrn⟩, x1⟩
  obtain ⟨aq, lq, cq, eq⟩ := hqn.isSlice
  obtain ⟨ar, lr, cr, er⟩ := hrn.isSlice
  subst eq er
  obtain ⟨A1, B1, C1, D1⟩ := LS.out.ext x1
  obtain ⟨a0, a1', a2', a3'⟩ := A1
  obtain ⟨b0, b1', b2', b3'⟩ := B1
  have X1 : Hid (Ext w w1) := XS.out.trans x1
  have x1W : Hid (Ext W w1) := x1
  have HQN : Hid _ := hqn
  have HC1 : Hid _ := C1
  have HD1 : Hid _ := D1
  clear hqn hrn x1 C1 D1
  go_wp2_with fail
  refine (HM.out _ _ HQN.out).mono ?_
  rintro e w2 ⟨rfl, x2⟩
  clear a0 a1' a2' a3' b0 b1' b2' b3'
  have x2W : Hid (Ext W (w2.alloc (.cells #[.bool false, .slice aq lq cq] 50))) := ((x1W.out).trans x2).alloc _
  have L5 : Hid (Laid5 w.heap.size w2.heap.size (w2.alloc (.cells #[.bool false, .slice aq lq cq] 50)) (.bool false) (.slice a1 l1 c1) (.bool false) (.slice a2 l2 c2) (.bool false) (.slice aq lq cq)) := by
    obtain ⟨A1, B1, C1, D1⟩ := LS.out.ext x2W.out
    exact ⟨A1, B1, C1, D1, has_new w2 _ _⟩
  have X2 : Hid (Ext w (w2.alloc (.cells #[.bool false, .slice aq lq cq] 50))) := (X1.out.trans x2).alloc _
  have HQ2 : Hid (IsI (w2.alloc (.cells #[.bool false, .slice aq lq cq] 50)) (zG #[.bool false, .slice aq lq cq]) Q) := HI.out _ _ ((HQN.out.ext x2).ext ((Ext.refl _).alloc _))
  have hgp : w.heap.size + 1 + 1 + 1 < w2.heap.size := Nat.lt_of_lt_of_le LS.out.d.lt ((x1W.out).trans x2).size
  obtain ⟨⟨q0, q1, q2, q3⟩, ⟨q4, q5, q6, q7⟩, ⟨q8, q9, q10, q11⟩, ⟨q12, q13, q14, q15⟩, ⟨q16, q17, q18, q19⟩⟩ := L5.out
  clear x2
  go_wp2_with fail
  generalize w2.alloc (.cells #[.bool false, .slice aq lq cq] 50) = W2 at *
  generalize w2.heap.size = g at *
  have n1 : w.heap.size ≠ w.heap.size + 1 + 1 := by omega
  have n2 : w.heap.size + 1 ≠ w.heap.size + 1 + 1 := by omega
  have n3 : g ≠ w.heap.size + 1 + 1 := by omega
  have n4 : w.heap.size ≠ w.heap.size + 1 + 1 + 1 := by omega
  have n5 : w.heap.size + 1 ≠ w.heap.size + 1 + 1 + 1 := by omega
  have n6 : g ≠ w.heap.size + 1 + 1 + 1 := by omega
  go_region_held (fun w' => w'.cell? ⟨w.heap.size, 0, none⟩ = some (.bool false) ∧ w'.cell? ⟨w.heap.size, 1, none⟩ = some (.slice a1 l1 c1) ∧ w'.cell? ⟨w.heap.size + 1, 0, none⟩ = some (.bool false) ∧ w'.cell? ⟨w.heap.size + 1, 1, none⟩ = some (.slice a2 l2 c2) ∧ w'.cell? ⟨g, 0, none⟩ = some (.bool false) ∧ w'.cell? ⟨g, 1, none⟩ = some (.slice aq lq cq)) (first | (go_keep; done) | (simp only [far2 _ _ _ _ _ n1, far2 _ _ _ _ _ n2, far2 _ _ _ _ _ n3, far2 _ _ _ _ _ n4, far2 _ _ _ _ _ n5, far2 _ _ _ _ _ n6]; exact ⟨by assumption, by assumption, by assumption, by assumption, by assumption, by assumption⟩)) (first | (go_at_call 55; refine (HT.out _ _ (X2.out.drew) (HQ2.out.ext ((Ext.refl _).drew))).mono ?_; rintro e w3 ⟨⟨r3, rfl, h3⟩, x3⟩; obtain ⟨⟨s0, s1, s2, s3⟩, ⟨s4, s5, s6, s7⟩, ⟨s8, s9, s10, s11⟩, ⟨s12, s13, s14, s15⟩, ⟨s16, s17, s18, s19⟩⟩ := L5.out.ext (cell_drew x3)) | (go_at_call 54; refine (HL.out _ _ (X2.out.trans (cell_drew x3)) h3).mono ?_; rintro e w4 ⟨⟨r4, rfl, h4⟩, x4⟩; obtain ⟨⟨t0, t1, t2, t3⟩, ⟨t4, t5, t6, t7⟩, ⟨t8, t9, t10, t11⟩, ⟨t12, t13, t14, t15⟩, ⟨t16, t17, t18, t19⟩⟩ := L5.out.ext ((cell_drew x3).trans x4); obtain ⟨u4, hu4, k4⟩ := h4; obtain ⟨au, lu, cu, hau⟩ := k4.isSlice; subst hau; subst hu4))
  have HQ4 : Hid (IsI w4 (zG #[.bool false, .slice aq lq cq]) Q) := HQ2.out.ext ((cell_drew x3).trans x4)
  have HR4 : Hid (IsI w4 (zG #[.bool (decide (R < 0)), .slice au lu cu]) R) := ⟨_, rfl, k4⟩
  have X4 : Hid (Ext w w4) := (X2.out.trans (cell_drew x3)).trans x4
  have n7 : w.heap.size + 1 + 1 + 1 ≠ w.heap.size + 1 + 1 := by omega
  go_wp2_with fail
  exact bodyPost_ret (v := .tuple #[zG #[.bool false, .slice aq lq cq], zG #[.bool (decide (R < 0)), .slice au lu cu]]) (by simp [results, Tryz.results125, go_sem, t8, t9, t12, t13]) rfl
    ⟨⟨_, _, rfl, (HQ4.out.set2 t8 t9).set2 (by rw [far2 _ _ _ _ _ n7]; exact t12) (by rw [far2 _ _ _ _ _ n7]; exact t13), (HR4.out.set2 t8 t9).set2 (by rw [far2 _ _ _ _ _ n7]; exact t12) (by rw [far2 _ _ _ _ _ n7]; exact t13)⟩,
      (((X4.out.setCell (show w.heap.size ≤ w.heap.size + 1 + 1 by omega) _).setCell (show w.heap.size ≤ w.heap.size + 1 + 1 by omega) _).setCell (show w.heap.size ≤ w.heap.size + 1 + 1 + 1 by omega) _).setCell (show w.heap.size ≤ w.heap.size + 1 + 1 + 1 by omega) _⟩
theorem Has.far {w : World} {b g : Nat} {u v x y : Value} (h : Has w b u v) (hb : b ≠ g) : Has ((w.setCell ⟨g, 0, none⟩ x).setCell ⟨g, 1, none⟩ y) b u v :=
  ⟨by rw [far2 _ _ _ _ _ hb]; exact h.c0, by rw [far2 _ _ _ _ _ hb]; exact h.c1, by simp [h.f0], by simp [h.f1]⟩
theorem Has.here {w : World} {g : Nat} {u v x y : Value} (h : Has w g u v) : Has ((w.setCell ⟨g, 0, none⟩ x).setCell ⟨g, 1, none⟩ y) g x y := by
  refine ⟨?_, ?_, by simp [h.f0], by simp [h.f1]⟩
  · rw [World.cell?_setCell_other _ _ _ _ (by simp)]
    exact World.cell?_setCell_same _ _ _ h.c0
  · exact World.cell?_setCell_same _ _ _ (by rw [World.cell?_setCell_other _ _ _ _ (by simp)]; exact h.c1)
theorem fit_one (k : Nat) (hk : 1 ≤ k) : Fit k 1 := by
  have := Nat.pow_le_pow_right (n := 2) (by omega) hk
  unfold Fit
  show 1 < 2 ^ k
  omega
theorem fit_pos {k : Nat} {y : Int} (h : Fit k y) (hy : 0 < y) : 1 ≤ k := by
  apply Nat.pos_of_ne_zero
  intro h0
  subst h0
  have : y.natAbs < 1 := h
  omega
theorem floor_eq (x y q : Int) (hy : 0 < y) (h1 : q * y ≤ x) (h2 : x < q * y + y) : x / y = q := by
  apply Int.le_antisymm
  · apply Int.lt_add_one_iff.1
    apply Int.ediv_lt_of_lt_mul hy
    rw [Int.add_mul, Int.one_mul]
    exact h2
  · exact Int.le_ediv_of_mul_le hy h1
theorem floor_zero (x y : Int) (hy : 0 < y) (hx : x < 0) (hz : x.natAbs % y.natAbs = 0) : x / y = -((x.natAbs / y.natAbs : Nat) : Int) := by
  have h := Nat.mod_add_div x.natAbs y.natAbs
  rw [hz, Nat.zero_add] at h
  have e : (y.natAbs : Int) * ((x.natAbs / y.natAbs : Nat) : Int) = (x.natAbs : Int) := by rw [← Int.natCast_mul, h]
  have ey : (y.natAbs : Int) = y := by omega
  rw [ey] at e
  apply floor_eq _ _ _ hy
  · rw [Int.neg_mul, Int.mul_comm, e]; omega
  · rw [Int.neg_mul, Int.mul_comm, e]; omega
theorem floor_one (x y : Int) (hy : 0 < y) (hx : x < 0) (hz : x.natAbs % y.natAbs ≠ 0) : x / y = -((x.natAbs / y.natAbs : Nat) : Int) - 1 := by
  have h := Nat.mod_add_div x.natAbs y.natAbs
  have hl := Nat.mod_lt x.natAbs (show 0 < y.natAbs by omega)
  have e : (y.natAbs : Int) * ((x.natAbs / y.natAbs : Nat) : Int) = (x.natAbs : Int) - ((x.natAbs % y.natAbs : Nat) : Int) := by rw [← Int.natCast_mul]; omega
  have ey : (y.natAbs : Int) = y := by omega
  rw [ey] at e
  apply floor_eq _ _ _ hy
  · rw [Int.sub_mul, Int.neg_mul, Int.mul_comm, e]; omega
  · rw [Int.sub_mul, Int.neg_mul, Int.mul_comm, e]; omega
set_option maxHeartbeats 4000000 in
theorem divide_neg0 (x y : Int) (k : Nat) (r1 r2 : Value) (w : World) (h1 : IsI w r1 x) (h2 : IsI w r2 y) (hk : k ≤ 4000) (f1 : Fit k x) (f2 : Fit k y) (hy : 0 < y) (hx : x < 0) (hz : x.natAbs % y.natAbs = 0) :
    Calls zP 125 #[r1, r2] w fun e w' => (∃ q r, e = zR (.tuple #[q, r]) ∧ IsI w' q (x / y) ∧ IsI w' r (x % y)) ∧ Ext w w' := by
  have hq : x / y = -((x.natAbs / y.natAbs : Nat) : Int) := floor_zero x y hy hx hz
  have fq0 : Fit k (-((x.natAbs / y.natAbs : Nat) : Int)) := (f1.of_le (by rw [Int.natAbs_natCast]; exact Nat.div_le_self _ _) : Fit k ((x.natAbs / y.natAbs : Nat) : Int)).neg
  have fq : Fit (k + 1) (x / y) := by
    rw [hq]
    exact fq0.le (by omega)
  have hmod : x - x / y * y = x % y := by have := Int.emod_add_mul_ediv x y; rw [Int.mul_comm] at this; omega
  have fqy : Fit (k + 1 + k) (x / y * y) := fq.mul f2
  obtain ⟨u1, rfl, k1⟩ := h1
  obtain ⟨u2, rfl, k2⟩ := h2
  have HD : Hid (∀ w', Ext w w' → Calls zP 128 #[u1, u2] w' fun e w'' => (∃ q r, e = zR (.tuple #[q, r]) ∧ IsN w'' q (x.natAbs / y.natAbs) ∧ IsN w'' r (x.natAbs % y.natAbs)) ∧ Ext w' w'') := fun w' hxx => ndivide_any x.natAbs y.natAbs u1 u2 w' (k1.ext hxx) (k2.ext hxx) (f1.small2 (by omega)) (f2.small (by omega)) (by omega) (Nat.le_trans f1.blen (by omega))
  have HM : Hid (∀ u w', IsN w' u (x.natAbs / y.natAbs) → Calls zP 56 #[.bool true, u] w' fun e w'' => e = zR (zG #[.bool (true && decide (0 < x.natAbs / y.natAbs)), u]) ∧ Ext w' w'') := fun u w' hu => made_any true u _ w' hu (small_le (f1.small (by omega)) (Nat.div_le_self _ _))
  have HI : Hid (∀ u w', IsN w' u (x.natAbs / y.natAbs) → IsI w' (zG #[.bool (true && decide (0 < x.natAbs / y.natAbs)), u]) (-((x.natAbs / y.natAbs : Nat) : Int))) := fun u w' hu => isI_made w' true u _ hu
  have HT : Hid (∀ r w', Ext w w' → IsI w' r (x / y) → Calls zP 55 #[r, zG #[.bool (decide (y < 0)), u2]] w' fun e w'' => (∃ r', e = zR r' ∧ IsI w'' r' (x / y * y)) ∧ Ext w' w'') := fun r w' hxx hr => times_isI (x / y) y r _ w' hr ⟨u2, rfl, k2.ext hxx⟩ (fq.small (by omega)) (f2.small (by omega)) (fqy.small (by omega))
  have HL : Hid (∀ r w', Ext w w' → IsI w' r (x / y * y) → Calls zP 54 #[zG #[.bool (decide (x < 0)), u1], r] w' fun e w'' => (∃ r', e = zR r' ∧ IsI w'' r' (x % y)) ∧ Ext w' w'') := fun r w' hxx hr => by
    have h := less_isI x (x / y * y) _ r w' ⟨u1, rfl, k1.ext hxx⟩ hr (f1.small (by omega)) (fqy.small (by omega)) (((f1.le (by omega)).sub fqy).small (by omega))
    rw [hmod] at h
    exact h
  rw [decide_eq_true hx] at HL ⊢
  rw [decide_eq_false (show ¬ y < 0 by omega)] at HT ⊢
  obtain ⟨a1, l1, c1, rfl⟩ := k1.isSlice
  obtain ⟨a2, l2, c2, rfl⟩ := k2.isSlice
  rw [← hq] at HI
  have SR : Hid (Small (x.natAbs % y.natAbs)) := small_le (f1.small (by omega)) (Nat.mod_le _ _)
  clear k1 k2 f1 f2 fq fq0 fqy hmod hq hx hy
  have HZ : Hid (x.natAbs % y.natAbs = 0) := hz
  clear hz
  generalize (true && decide (0 < x.natAbs / y.natAbs)) = dq at *
  generalize x.natAbs / y.natAbs = Qn at *
  generalize x.natAbs % y.natAbs = Rn at *
  generalize x / y = Q at *
  generalize x % y = R at *
  generalize Q * y = PP at *
  have XS : Hid (Ext w ((((w.alloc (.cells #[.bool true, .slice a1 l1 c1] 50)).alloc (.cells #[.bool false, .slice a2 l2 c2] 50)).alloc (.cells #[.bool false, .slice none 0 0] 50)).alloc (.cells #[.bool false, .slice none 0 0] 50))) := ((((Ext.refl w).alloc _).alloc _).alloc _).alloc _
  have LS : Hid (Laid4 w.heap.size ((((w.alloc (.cells #[.bool true, .slice a1 l1 c1] 50)).alloc (.cells #[.bool false, .slice a2 l2 c2] 50)).alloc (.cells #[.bool false, .slice none 0 0] 50)).alloc (.cells #[.bool false, .slice none 0 0] 50)) (.bool true) (.slice a1 l1 c1) (.bool false) (.slice a2 l2 c2)) := laid4_start w _ _ _ _
  go_enter Tryz.func125, Tryz.ntmps125
  go_wp2_with fail
  generalize ((((w.alloc (.cells #[.bool true, .slice a1 l1 c1] 50)).alloc (.cells #[.bool false, .slice a2 l2 c2] 50)).alloc (.cells #[.bool false, .slice none 0 0] 50)).alloc (.cells #[.bool false, .slice none 0 0] 50)) = W at *
  refine (HD.out _ XS.out).mono ?_
  rintro e w1 ⟨⟨qn, rn, rfl, hqn, hrn⟩, x1⟩
  obtain ⟨aq, lq, cq, eq⟩ := hqn.isSlice
  obtain ⟨ar, lr, cr, er, zr, hlr⟩ := hrn.zero_iff
  subst eq er
  have hlr2 : lr ≤ 1000 := by have := SR.out.1; omega
  have hr0 : lr = 0 := zr.2 HZ.out
  subst hr0
  obtain ⟨A1, B1, C1, D1⟩ := LS.out.ext x1
  obtain ⟨a0, a1', a2', a3'⟩ := A1
  obtain ⟨b0, b1', b2', b3'⟩ := B1
  have X1 : Hid (Ext w w1) := XS.out.trans x1
  have x1W : Hid (Ext W w1) := x1
  have HQN : Hid _ := hqn
  clear hqn hrn x1 C1 D1 zr hlr
  go_wp2_with fail
  refine (HM.out _ _ HQN.out).mono ?_
  rintro e w2 ⟨rfl, x2⟩
  clear a0 a1' a2' a3' b0 b1' b2' b3'
  have x2W : Hid (Ext W (w2.alloc (.cells #[.bool dq, .slice aq lq cq] 50))) := ((x1W.out).trans x2).alloc _
  have L5 : Hid (Laid5 w.heap.size w2.heap.size (w2.alloc (.cells #[.bool dq, .slice aq lq cq] 50)) (.bool true) (.slice a1 l1 c1) (.bool false) (.slice a2 l2 c2) (.bool dq) (.slice aq lq cq)) := by
    obtain ⟨A1, B1, C1, D1⟩ := LS.out.ext x2W.out
    exact ⟨A1, B1, C1, D1, has_new w2 _ _⟩
  have X2 : Hid (Ext w (w2.alloc (.cells #[.bool dq, .slice aq lq cq] 50))) := (X1.out.trans x2).alloc _
  have HQ2 : Hid (IsI (w2.alloc (.cells #[.bool dq, .slice aq lq cq] 50)) (zG #[.bool dq, .slice aq lq cq]) Q) := HI.out _ _ ((HQN.out.ext x2).ext ((Ext.refl _).alloc _))
  have hgp : w.heap.size + 1 + 1 + 1 < w2.heap.size := Nat.lt_of_lt_of_le LS.out.d.lt ((x1W.out).trans x2).size
  obtain ⟨⟨q0, q1, q2, q3⟩, ⟨q4, q5, q6, q7⟩, ⟨q8, q9, q10, q11⟩, ⟨q12, q13, q14, q15⟩, ⟨q16, q17, q18, q19⟩⟩ := L5.out
  clear x2
  go_wp2_with fail
  generalize (w2.alloc (.cells #[.bool dq, .slice aq lq cq] 50)) = W2 at *
  generalize w2.heap.size = g at *
  have n1 : w.heap.size ≠ w.heap.size + 1 + 1 := by omega
  have n2 : w.heap.size + 1 ≠ w.heap.size + 1 + 1 := by omega
  have n3 : g ≠ w.heap.size + 1 + 1 := by omega
  have n4 : w.heap.size ≠ w.heap.size + 1 + 1 + 1 := by omega
  have n5 : w.heap.size + 1 ≠ w.heap.size + 1 + 1 + 1 := by omega
  have n6 : g ≠ w.heap.size + 1 + 1 + 1 := by omega
  go_region_held (fun w' => w'.cell? ⟨w.heap.size, 0, none⟩ = some (.bool true) ∧ w'.cell? ⟨w.heap.size, 1, none⟩ = some (.slice a1 l1 c1) ∧ w'.cell? ⟨w.heap.size + 1, 0, none⟩ = some (.bool false) ∧ w'.cell? ⟨w.heap.size + 1, 1, none⟩ = some (.slice a2 l2 c2) ∧ w'.cell? ⟨g, 0, none⟩ = some (.bool dq) ∧ w'.cell? ⟨g, 1, none⟩ = some (.slice aq lq cq)) (first | (go_keep; done) | (simp only [far2 _ _ _ _ _ n1, far2 _ _ _ _ _ n2, far2 _ _ _ _ _ n3, far2 _ _ _ _ _ n4, far2 _ _ _ _ _ n5, far2 _ _ _ _ _ n6]; exact ⟨by assumption, by assumption, by assumption, by assumption, by assumption, by assumption⟩)) (first | (go_at_call 55; refine (HT.out _ _ (X2.out.drew) (HQ2.out.ext ((Ext.refl _).drew))).mono ?_; rintro e w3 ⟨⟨r3, rfl, h3⟩, x3⟩; obtain ⟨⟨s0, s1, s2, s3⟩, ⟨s4, s5, s6, s7⟩, ⟨s8, s9, s10, s11⟩, ⟨s12, s13, s14, s15⟩, ⟨s16, s17, s18, s19⟩⟩ := L5.out.ext (cell_drew x3)) | (go_at_call 54; refine (HL.out _ _ (X2.out.trans (cell_drew x3)) h3).mono ?_; rintro e w4 ⟨⟨r4, rfl, h4⟩, x4⟩; obtain ⟨⟨t0, t1, t2, t3⟩, ⟨t4, t5, t6, t7⟩, ⟨t8, t9, t10, t11⟩, ⟨t12, t13, t14, t15⟩, ⟨t16, t17, t18, t19⟩⟩ := L5.out.ext ((cell_drew x3).trans x4); obtain ⟨u4, hu4, k4⟩ := h4; obtain ⟨au, lu, cu, hau⟩ := k4.isSlice; subst hau; subst hu4))
  have HQ4 : Hid (IsI w4 (zG #[.bool dq, .slice aq lq cq]) Q) := HQ2.out.ext ((cell_drew x3).trans x4)
  have HR4 : Hid (IsI w4 (zG #[.bool (decide (R < 0)), .slice au lu cu]) R) := ⟨_, rfl, k4⟩
  have X4 : Hid (Ext w w4) := (X2.out.trans (cell_drew x3)).trans x4
  have n7 : w.heap.size + 1 + 1 + 1 ≠ w.heap.size + 1 + 1 := by omega
  go_wp2_with fail
  exact bodyPost_ret (v := .tuple #[zG #[.bool dq, .slice aq lq cq], zG #[.bool (decide (R < 0)), .slice au lu cu]]) (by simp [results, Tryz.results125, go_sem, t8, t9, t12, t13]) rfl
    ⟨⟨_, _, rfl, (HQ4.out.set2 t8 t9).set2 (by rw [far2 _ _ _ _ _ n7]; exact t12) (by rw [far2 _ _ _ _ _ n7]; exact t13), (HR4.out.set2 t8 t9).set2 (by rw [far2 _ _ _ _ _ n7]; exact t12) (by rw [far2 _ _ _ _ _ n7]; exact t13)⟩,
      (((X4.out.setCell (show w.heap.size ≤ w.heap.size + 1 + 1 by omega) _).setCell (show w.heap.size ≤ w.heap.size + 1 + 1 by omega) _).setCell (show w.heap.size ≤ w.heap.size + 1 + 1 + 1 by omega) _).setCell (show w.heap.size ≤ w.heap.size + 1 + 1 + 1 by omega) _⟩
set_option maxHeartbeats 4000000 in
theorem divide_neg1 (x y : Int) (k : Nat) (r1 r2 : Value) (w : World) (h1 : IsI w r1 x) (h2 : IsI w r2 y) (hk : k ≤ 4000) (f1 : Fit k x) (f2 : Fit k y) (hy : 0 < y) (hx : x < 0) (hz : x.natAbs % y.natAbs ≠ 0) :
    Calls zP 125 #[r1, r2] w fun e w' => (∃ q r, e = zR (.tuple #[q, r]) ∧ IsI w' q (x / y) ∧ IsI w' r (x % y)) ∧ Ext w w' := by
  have hq : x / y = -((x.natAbs / y.natAbs : Nat) : Int) - 1 := floor_one x y hy hx hz
  have fq0 : Fit k (-((x.natAbs / y.natAbs : Nat) : Int)) := (f1.of_le (by rw [Int.natAbs_natCast]; exact Nat.div_le_self _ _) : Fit k ((x.natAbs / y.natAbs : Nat) : Int)).neg
  have fq : Fit (k + 1) (x / y) := by
    rw [hq]
    exact fq0.sub (fit_one _ (by have := fit_pos f2 hy; omega))
  have hmod : x - x / y * y = x % y := by have := Int.emod_add_mul_ediv x y; rw [Int.mul_comm] at this; omega
  have fqy : Fit (k + 1 + k) (x / y * y) := fq.mul f2
  obtain ⟨u1, rfl, k1⟩ := h1
  obtain ⟨u2, rfl, k2⟩ := h2
  have HD : Hid (∀ w', Ext w w' → Calls zP 128 #[u1, u2] w' fun e w'' => (∃ q r, e = zR (.tuple #[q, r]) ∧ IsN w'' q (x.natAbs / y.natAbs) ∧ IsN w'' r (x.natAbs % y.natAbs)) ∧ Ext w' w'') := fun w' hxx => ndivide_any x.natAbs y.natAbs u1 u2 w' (k1.ext hxx) (k2.ext hxx) (f1.small2 (by omega)) (f2.small (by omega)) (by omega) (Nat.le_trans f1.blen (by omega))
  have HM : Hid (∀ u w', IsN w' u (x.natAbs / y.natAbs) → Calls zP 56 #[.bool true, u] w' fun e w'' => e = zR (zG #[.bool (true && decide (0 < x.natAbs / y.natAbs)), u]) ∧ Ext w' w'') := fun u w' hu => made_any true u _ w' hu (small_le (f1.small (by omega)) (Nat.div_le_self _ _))
  have HI : Hid (∀ u w', IsN w' u (x.natAbs / y.natAbs) → IsI w' (zG #[.bool (true && decide (0 < x.natAbs / y.natAbs)), u]) (-((x.natAbs / y.natAbs : Nat) : Int))) := fun u w' hu => isI_made w' true u _ hu
  have HT : Hid (∀ r w', Ext w w' → IsI w' r (x / y) → Calls zP 55 #[r, zG #[.bool (decide (y < 0)), u2]] w' fun e w'' => (∃ r', e = zR r' ∧ IsI w'' r' (x / y * y)) ∧ Ext w' w'') := fun r w' hxx hr => times_isI (x / y) y r _ w' hr ⟨u2, rfl, k2.ext hxx⟩ (fq.small (by omega)) (f2.small (by omega)) (fqy.small (by omega))
  have HL : Hid (∀ r w', Ext w w' → IsI w' r (x / y * y) → Calls zP 54 #[zG #[.bool (decide (x < 0)), u1], r] w' fun e w'' => (∃ r', e = zR r' ∧ IsI w'' r' (x % y)) ∧ Ext w' w'') := fun r w' hxx hr => by
    have h := less_isI x (x / y * y) _ r w' ⟨u1, rfl, k1.ext hxx⟩ hr (f1.small (by omega)) (fqy.small (by omega)) (((f1.le (by omega)).sub fqy).small (by omega))
    rw [hmod] at h
    exact h
  have HG : Hid (∀ q o w', IsI w' q (-((x.natAbs / y.natAbs : Nat) : Int)) → IsI w' o 1 → Calls zP 54 #[q, o] w' fun e w'' => (∃ r', e = zR r' ∧ IsI w'' r' (x / y)) ∧ Ext w' w'') := fun q o w' hq' ho => by
    have h := less_isI (-((x.natAbs / y.natAbs : Nat) : Int)) 1 q o w' hq' ho (fq0.small (by omega)) ((fit_one 1 (by omega) : Fit 1 1).small (by omega)) (by have := fq.small (by omega); rw [hq] at this; exact this)
    rw [← hq] at h
    exact h
  have HO : Hid (∀ w', Calls zP 24 #[J zq 1] w' fun e w'' => (∃ r, e = zR r ∧ IsI w'' r 1) ∧ Ext w' w'') := fun w' => from_any 1 w' (by omega) (by omega)
  rw [decide_eq_true hx] at HL ⊢
  rw [decide_eq_false (show ¬ y < 0 by omega)] at HT ⊢
  obtain ⟨a1, l1, c1, rfl⟩ := k1.isSlice
  obtain ⟨a2, l2, c2, rfl⟩ := k2.isSlice
  have SR : Hid (Small (x.natAbs % y.natAbs)) := small_le (f1.small (by omega)) (Nat.mod_le _ _)
  clear k1 k2 f1 f2 fq fq0 fqy hmod hq hx hy
  have HZ : Hid (x.natAbs % y.natAbs ≠ 0) := hz
  clear hz
  generalize (true && decide (0 < x.natAbs / y.natAbs)) = dq at *
  generalize x.natAbs / y.natAbs = Qn at *
  generalize x.natAbs % y.natAbs = Rn at *
  generalize x / y = Q at *
  generalize x % y = R at *
  generalize Q * y = PP at *
  have XS : Hid (Ext w ((((w.alloc (.cells #[.bool true, .slice a1 l1 c1] 50)).alloc (.cells #[.bool false, .slice a2 l2 c2] 50)).alloc (.cells #[.bool false, .slice none 0 0] 50)).alloc (.cells #[.bool false, .slice none 0 0] 50))) := ((((Ext.refl w).alloc _).alloc _).alloc _).alloc _
  have LS : Hid (Laid4 w.heap.size ((((w.alloc (.cells #[.bool true, .slice a1 l1 c1] 50)).alloc (.cells #[.bool false, .slice a2 l2 c2] 50)).alloc (.cells #[.bool false, .slice none 0 0] 50)).alloc (.cells #[.bool false, .slice none 0 0] 50)) (.bool true) (.slice a1 l1 c1) (.bool false) (.slice a2 l2 c2)) := laid4_start w _ _ _ _
  go_enter Tryz.func125, Tryz.ntmps125
  go_wp2_with fail
  generalize ((((w.alloc (.cells #[.bool true, .slice a1 l1 c1] 50)).alloc (.cells #[.bool false, .slice a2 l2 c2] 50)).alloc (.cells #[.bool false, .slice none 0 0] 50)).alloc (.cells #[.bool false, .slice none 0 0] 50)) = W at *
  refine (HD.out _ XS.out).mono ?_
  rintro e w1 ⟨⟨qn, rn, rfl, hqn, hrn⟩, x1⟩
  obtain ⟨aq, lq, cq, eq⟩ := hqn.isSlice
  obtain ⟨ar, lr, cr, er, zr, hlr⟩ := hrn.zero_iff
  subst eq er
  have hlr2 : lr ≤ 1000 := by have := SR.out.1; omega
  have hr0 : (0 : Int) < (lr : Int) := by
    have : lr ≠ 0 := fun h => HZ.out (zr.1 h)
    omega
  obtain ⟨A1, B1, C1, D1⟩ := LS.out.ext x1
  obtain ⟨a0, a1', a2', a3'⟩ := A1
  obtain ⟨b0, b1', b2', b3'⟩ := B1
  have X1 : Hid (Ext w w1) := XS.out.trans x1
  have x1W : Hid (Ext W w1) := x1
  have HQN : Hid _ := hqn
  clear hqn hrn x1 C1 D1 zr hlr
  go_wp2_with fail
  refine (HM.out _ _ HQN.out).mono ?_
  rintro e w2 ⟨rfl, x2⟩
  clear a0 a1' a2' a3' b0 b1' b2' b3'
  have x2W : Hid (Ext W (w2.alloc (.cells #[.bool dq, .slice aq lq cq] 50))) := ((x1W.out).trans x2).alloc _
  have L5 : Hid (Laid5 w.heap.size w2.heap.size (w2.alloc (.cells #[.bool dq, .slice aq lq cq] 50)) (.bool true) (.slice a1 l1 c1) (.bool false) (.slice a2 l2 c2) (.bool dq) (.slice aq lq cq)) := by
    obtain ⟨A1, B1, C1, D1⟩ := LS.out.ext x2W.out
    exact ⟨A1, B1, C1, D1, has_new w2 _ _⟩
  have X2 : Hid (Ext w (w2.alloc (.cells #[.bool dq, .slice aq lq cq] 50))) := (X1.out.trans x2).alloc _
  have HQ2 : Hid (IsI (w2.alloc (.cells #[.bool dq, .slice aq lq cq] 50)) (zG #[.bool dq, .slice aq lq cq]) (-(Qn : Int))) := HI.out _ _ ((HQN.out.ext x2).ext ((Ext.refl _).alloc _))
  have hgp : w.heap.size + 1 + 1 + 1 < w2.heap.size := Nat.lt_of_lt_of_le LS.out.d.lt ((x1W.out).trans x2).size
  obtain ⟨⟨q0, q1, q2, q3⟩, ⟨q4, q5, q6, q7⟩, ⟨q8, q9, q10, q11⟩, ⟨q12, q13, q14, q15⟩, ⟨q16, q17, q18, q19⟩⟩ := L5.out
  clear x2
  go_wp2_with fail
  generalize (w2.alloc (.cells #[.bool dq, .slice aq lq cq] 50)) = W2 at *
  generalize w2.heap.size = g at *
  go_region_with (first | (go_at_call 24; refine (HO.out _).mono ?_; rintro e w5 ⟨⟨o5, rfl, h5⟩, x5⟩; obtain ⟨⟨z0, z1, z2, z3⟩, ⟨z4, z5, z6, z7⟩, ⟨z8, z9, z10, z11⟩, ⟨z12, z13, z14, z15⟩, ⟨z16, z17, z18, z19⟩⟩ := L5.out.ext (cell_drew x5)) | (go_at_call 54; refine (HG.out _ _ _ (HQ2.out.ext (cell_drew x5)) h5).mono ?_; rintro e w6 ⟨⟨r6, rfl, h6⟩, x6⟩; obtain ⟨⟨y0, y1, y2, y3⟩, ⟨y4, y5, y6, y7⟩, ⟨y8, y9, y10, y11⟩, ⟨y12, y13, y14, y15⟩, ⟨y16, y17, y18, y19⟩⟩ := L5.out.ext ((cell_drew x5).trans x6); obtain ⟨u6, hu6, k6⟩ := h6; obtain ⟨ap, lp, cp, hap⟩ := k6.isSlice; subst hap; subst hu6))
  all_goals
    have x6W : Hid (Ext W2 w6) := (cell_drew x5).trans x6
    have L6 : Hid (Laid5 w.heap.size g ((w6.setCell ⟨g, 0, none⟩ (.bool (decide (Q < 0)))).setCell ⟨g, 1, none⟩ (.slice ap lp cp)) (.bool true) (.slice a1 l1 c1) (.bool false) (.slice a2 l2 c2) (.bool (decide (Q < 0))) (.slice ap lp cp)) := by
      obtain ⟨A, B, C, D, E⟩ := L5.out.ext x6W.out
      exact ⟨A.far (by omega), B.far (by omega), C.far (by omega), D.far (by omega), E.here⟩
    have X3 : Hid (Ext w ((w6.setCell ⟨g, 0, none⟩ (.bool (decide (Q < 0)))).setCell ⟨g, 1, none⟩ (.slice ap lp cp))) := ((X2.out.trans x6W.out).setCell (by omega) _).setCell (by omega) _
    have HQ3 : Hid (IsI ((w6.setCell ⟨g, 0, none⟩ (.bool (decide (Q < 0)))).setCell ⟨g, 1, none⟩ (.slice ap lp cp)) (zG #[.bool (decide (Q < 0)), .slice ap lp cp]) Q) := IsI.set2 ⟨_, rfl, k6⟩ y16 y17
    clear q0 q1 q2 q3 q4 q5 q6 q7 q8 q9 q10 q11 q12 q13 q14 q15 q16 q17 q18 q19 z0 z1 z2 z3 z4 z5 z6 z7 z8 z9 z10 z11 z12 z13 z14 z15 z16 z17 z18 z19 y0 y1 y2 y3 y4 y5 y6 y7 y8 y9 y10 y11 y12 y13 y14 y15 y16 y17 y18 y19 L5 X2 HQ2 x5 x6 h5 k6 x6W HG HO HI HM HD
    generalize ((w6.setCell ⟨g, 0, none⟩ (.bool (decide (Q < 0)))).setCell ⟨g, 1, none⟩ (.slice ap lp cp)) = W2b at *
    have L5 := L6
    have X2 := X3
    have HQ2 := HQ3
    clear L6 X3 HQ3
    go_wp2_with fail
    obtain ⟨⟨v0, v1, v2, v3⟩, ⟨v4, v5, v6, v7⟩, ⟨v8, v9, v10, v11⟩, ⟨v12, v13, v14, v15⟩, ⟨v16, v17, v18, v19⟩⟩ := L5.out
    have n1 : w.heap.size ≠ w.heap.size + 1 + 1 := by omega
    have n2 : w.heap.size + 1 ≠ w.heap.size + 1 + 1 := by omega
    have n3 : g ≠ w.heap.size + 1 + 1 := by omega
    have n4 : w.heap.size ≠ w.heap.size + 1 + 1 + 1 := by omega
    have n5 : w.heap.size + 1 ≠ w.heap.size + 1 + 1 + 1 := by omega
    have n6 : g ≠ w.heap.size + 1 + 1 + 1 := by omega
    go_region_held (fun w' => w'.cell? ⟨w.heap.size, 0, none⟩ = some (.bool true) ∧ w'.cell? ⟨w.heap.size, 1, none⟩ = some (.slice a1 l1 c1) ∧ w'.cell? ⟨w.heap.size + 1, 0, none⟩ = some (.bool false) ∧ w'.cell? ⟨w.heap.size + 1, 1, none⟩ = some (.slice a2 l2 c2) ∧ w'.cell? ⟨g, 0, none⟩ = some (.bool (decide (Q < 0))) ∧ w'.cell? ⟨g, 1, none⟩ = some (.slice ap lp cp)) (first | (go_keep; done) | (simp only [far2 _ _ _ _ _ n1, far2 _ _ _ _ _ n2, far2 _ _ _ _ _ n3, far2 _ _ _ _ _ n4, far2 _ _ _ _ _ n5, far2 _ _ _ _ _ n6]; exact ⟨by assumption, by assumption, by assumption, by assumption, by assumption, by assumption⟩)) (first | (go_at_call 55; refine (HT.out _ _ (X2.out.drew) (HQ2.out.ext ((Ext.refl _).drew))).mono ?_; rintro e w3 ⟨⟨r3, rfl, h3⟩, x3⟩; obtain ⟨⟨s0, s1, s2, s3⟩, ⟨s4, s5, s6, s7⟩, ⟨s8, s9, s10, s11⟩, ⟨s12, s13, s14, s15⟩, ⟨s16, s17, s18, s19⟩⟩ := L5.out.ext (cell_drew x3)) | (go_at_call 54; refine (HL.out _ _ (X2.out.trans (cell_drew x3)) h3).mono ?_; rintro e w4 ⟨⟨r4, rfl, h4⟩, x4⟩; obtain ⟨⟨t0, t1, t2, t3⟩, ⟨t4, t5, t6, t7⟩, ⟨t8, t9, t10, t11⟩, ⟨t12, t13, t14, t15⟩, ⟨t16, t17, t18, t19⟩⟩ := L5.out.ext ((cell_drew x3).trans x4); obtain ⟨u4, hu4, k4⟩ := h4; obtain ⟨au, lu, cu, hau⟩ := k4.isSlice; subst hau; subst hu4))
    have HQ4 : Hid (IsI w4 (zG #[.bool (decide (Q < 0)), .slice ap lp cp]) Q) := HQ2.out.ext ((cell_drew x3).trans x4)
    have HR4 : Hid (IsI w4 (zG #[.bool (decide (R < 0)), .slice au lu cu]) R) := ⟨_, rfl, k4⟩
    have X4 : Hid (Ext w w4) := (X2.out.trans (cell_drew x3)).trans x4
    have n7 : w.heap.size + 1 + 1 + 1 ≠ w.heap.size + 1 + 1 := by omega
    go_wp2_with fail
    exact bodyPost_ret (v := .tuple #[zG #[.bool (decide (Q < 0)), .slice ap lp cp], zG #[.bool (decide (R < 0)), .slice au lu cu]]) (by simp [results, Tryz.results125, go_sem, t8, t9, t12, t13]) rfl
      ⟨⟨_, _, rfl, (HQ4.out.set2 t8 t9).set2 (by rw [far2 _ _ _ _ _ n7]; exact t12) (by rw [far2 _ _ _ _ _ n7]; exact t13), (HR4.out.set2 t8 t9).set2 (by rw [far2 _ _ _ _ _ n7]; exact t12) (by rw [far2 _ _ _ _ _ n7]; exact t13)⟩,
        (((X4.out.setCell (show w.heap.size ≤ w.heap.size + 1 + 1 by omega) _).setCell (show w.heap.size ≤ w.heap.size + 1 + 1 by omega) _).setCell (show w.heap.size ≤ w.heap.size + 1 + 1 + 1 by omega) _).setCell (show w.heap.size ≤ w.heap.size + 1 + 1 + 1 by omega) _⟩
theorem divide_isI (x y : Int) (k : Nat) (r1 r2 : Value) (w : World) (h1 : IsI w r1 x) (h2 : IsI w r2 y) (hk : k ≤ 4000) (f1 : Fit k x) (f2 : Fit k y) (hy : 0 < y) :
    Calls zP 125 #[r1, r2] w fun e w' => (∃ q r, e = zR (.tuple #[q, r]) ∧ IsI w' q (x / y) ∧ IsI w' r (x % y)) ∧ Ext w w' := by
  by_cases hx : x < 0
  · by_cases hz : x.natAbs % y.natAbs = 0
    · exact divide_neg0 x y k r1 r2 w h1 h2 hk f1 f2 hy hx hz
    · exact divide_neg1 x y k r1 r2 w h1 h2 hk f1 f2 hy hx hz
  · exact divide_pos x y k r1 r2 w h1 h2 hk f1 f2 hy (by omega)
end Go.Proofs.YtoeecldhbabmbaaGreat
