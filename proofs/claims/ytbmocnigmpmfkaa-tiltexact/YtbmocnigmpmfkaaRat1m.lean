/- The reference's rational numbers: Make. -/
import Derived.Test.YtbmocnigmpmfkaaRightm
namespace Go.Proofs.Ytbmocnigmpmfkaa
open Go.RowKit

theorem div_gcd (x : Int) (d : Nat) (hd : d ≠ 0) : (x / (Nat.gcd x.natAbs d : Int)).natAbs = x.natAbs / Nat.gcd x.natAbs d ∧ (x.natAbs / Nat.gcd x.natAbs d ≠ 0 → decide (x < 0) = decide (x / (Nat.gcd x.natAbs d : Int) < 0)) := by
  have hg : 0 < Nat.gcd x.natAbs d := Nat.gcd_pos_of_pos_right _ (by omega)
  have hdv : Nat.gcd x.natAbs d ∣ x.natAbs := Nat.gcd_dvd_left _ _
  generalize Nat.gcd x.natAbs d = g at *
  obtain ⟨c, hc⟩ := hdv
  have e1 : x.natAbs / g = c := by rw [hc, Nat.mul_div_cancel_left _ hg]
  have e2 : x / (g : Int) = if x < 0 then -(c : Int) else (c : Int) := by
    split
    · have : x = (g : Int) * -(c : Int) := by rw [Int.mul_neg, ← Int.natCast_mul, ← hc]; omega
      rw [this, Int.mul_ediv_cancel_left _ (by omega)]
    · have : x = (g : Int) * (c : Int) := by rw [← Int.natCast_mul, ← hc]; omega
      rw [this, Int.mul_ediv_cancel_left _ (by omega)]
  rw [e1, e2]
  constructor
  · split <;> simp
  · intro h0
    rw [decide_eq_decide]
    split <;> omega

/-- v is the number n / d -/
def IsQ (w : World) (v : Value) (n : Int) (d : Nat) : Prop := ∃ u1 u2, v = .agg #[.bool (decide (n < 0)), u1, u2] ∧ IsN w u1 n.natAbs ∧ IsN w u2 d
theorem IsQ.ext {w w' : World} {v : Value} {n : Int} {d : Nat} (h : IsQ w v n d) (hx : Ext w w') : IsQ w' v n d := by
  obtain ⟨u1, u2, h1, h2, h3⟩ := h
  exact ⟨u1, u2, h1, h2.ext hx, h3.ext hx⟩
theorem IsN.set3 {w : World} {v : Value} {n g : Nat} {b0 : Bool} {a a' : Option Addr} {l c l' c' : Nat} {x y z : Value} (h : IsN w v n) (c0 : w.cell? ⟨g, 0, none⟩ = some (.bool b0)) (c1 : w.cell? ⟨g, 1, none⟩ = some (.slice a l c)) (c2 : w.cell? ⟨g, 2, none⟩ = some (.slice a' l' c')) :
    IsN (((w.setCell ⟨g, 0, none⟩ x).setCell ⟨g, 1, none⟩ y).setCell ⟨g, 2, none⟩ z) v n := by
  refine Row.set (c := .slice a' l' c') (Row.set (c := .slice a l c) (Row.set h x c0 (by simp)) y ?_ (by simp)) z ?_ (by simp)
  · rw [World.cell?_setCell_other _ _ _ _ (by simp)]; exact c1
  · rw [World.cell?_setCell_other _ _ _ _ (by simp), World.cell?_setCell_other _ _ _ _ (by simp)]; exact c2
structure Has3 (w : World) (b : Nat) (u v x : Value) : Prop where
  c0 : w.cell? ⟨b, 0, none⟩ = some u
  c1 : w.cell? ⟨b, 1, none⟩ = some v
  c2 : w.cell? ⟨b, 2, none⟩ = some x
  f0 : w.frozen? ⟨b, 0, none⟩ = false
  f1 : w.frozen? ⟨b, 1, none⟩ = false
  f2 : w.frozen? ⟨b, 2, none⟩ = false
theorem Has3.ext {w w' : World} {b : Nat} {u v x : Value} (h : Has3 w b u v x) (hx : Ext w w') : Has3 w' b u v x :=
  ⟨hx.kept h.c0, hx.kept h.c1, hx.kept h.c2, by rw [(hx.lay).2.1 _ _ (cell_lt h.c0)]; exact h.f0, by rw [(hx.lay).2.1 _ _ (cell_lt h.c1)]; exact h.f1, by rw [(hx.lay).2.1 _ _ (cell_lt h.c2)]; exact h.f2⟩
theorem has3_new (w : World) (u v x : Value) (T : TypeId) : Has3 (w.alloc (.cells #[u, v, x] T)) w.heap.size u v x := by
  constructor <;> simp [go_sem]
structure LaidR (p : Nat) (W : World) (u1 v1 : Value) : Prop where
  a : Has W p u1 v1
  b : Has3 W (p + 1) (.bool false) (.slice none 0 0) (.slice none 0 0)
theorem LaidR.ext {p : Nat} {W W' : World} {u1 v1 : Value} (h : LaidR p W u1 v1) (hx : Ext W W') : LaidR p W' u1 v1 := ⟨h.a.ext hx, h.b.ext hx⟩
theorem laidR_start (w : World) (u1 v1 : Value) : LaidR w.heap.size ((w.alloc (.cells #[u1, v1] 63)).alloc (.cells #[.bool false, .slice none 0 0, .slice none 0 0] 74)) u1 v1 := by
  constructor <;> constructor <;> simp [go_sem]

set_option maxHeartbeats 4000000 in
theorem make_isQ (x : Int) (d k : Nat) (r1 v2 : Value) (w : World) (h1 : IsI w r1 x) (h2 : IsN w v2 d) (hd : d ≠ 0) (hk : k ≤ 4000) (f1 : Fit k x) (f2 : Fit k (d : Int)) :
    Calls Try.prog 35 #[r1, v2] w fun e w' => (∃ r, e = .returned r ∧ IsQ w' r (x / (Nat.gcd x.natAbs d : Int)) (d / Nat.gcd x.natAbs d)) ∧ Ext w w' := by
  obtain ⟨u1, rfl, k1⟩ := h1
  have hg : 0 < Nat.gcd x.natAbs d := Nat.gcd_pos_of_pos_right _ (by omega)
  have hgd : Nat.gcd x.natAbs d ≤ d := Nat.le_of_dvd (by omega) (Nat.gcd_dvd_right _ _)
  have hM : ∃ M : Nat, x.natAbs ≤ M ∧ d ≤ M ∧ Fit k (M : Int) := by
    rcases Nat.le_total x.natAbs d with h | h
    · exact ⟨d, h, Nat.le_refl _, f2⟩
    · exact ⟨x.natAbs, Nat.le_refl _, h, by unfold Fit at *; rwa [Int.natAbs_natCast]⟩
  obtain ⟨M, hM1, hM2, fM⟩ := hM
  have fd : d < 2 ^ k := by have := f2; unfold Fit at this; rwa [Int.natAbs_natCast] at this
  have SD : Small d := small_pow d k fd (by omega)
  have SD2 : Small (2 * d) := by have := f2.small2 (by omega); rwa [Int.natAbs_natCast] at this
  have HG : Hid (∀ w', Ext w w' → Calls Try.prog 47 #[u1, v2] w' fun e w'' => (∃ v', e = .returned v' ∧ IsN w'' v' (Nat.gcd x.natAbs d)) ∧ Ext w' w'') := fun w' hxx => ngcd_any _ _ M u1 v2 w' (k1.ext hxx) (h2.ext hxx) hM1 hM2 (by have := fM.small2 (by omega); rwa [Int.natAbs_natCast] at this) (by have := fM.blen; rw [Int.natAbs_natCast] at this; omega)
  have HD1 : Hid (∀ g w', Ext w w' → IsN w' g (Nat.gcd x.natAbs d) → Calls Try.prog 48 #[u1, g] w' fun e w'' => (∃ q r, e = .returned (.tuple #[q, r]) ∧ IsN w'' q (x.natAbs / Nat.gcd x.natAbs d) ∧ IsN w'' r (x.natAbs % Nat.gcd x.natAbs d)) ∧ Ext w' w'') := fun g w' hxx hgg => ndivide_any _ _ u1 g w' (k1.ext hxx) hgg (f1.small2 (by omega)) (small_le SD hgd) (by omega) (Nat.le_trans f1.blen (by omega))
  have HD2 : Hid (∀ g w', Ext w w' → IsN w' g (Nat.gcd x.natAbs d) → Calls Try.prog 48 #[v2, g] w' fun e w'' => (∃ q r, e = .returned (.tuple #[q, r]) ∧ IsN w'' q (d / Nat.gcd x.natAbs d) ∧ IsN w'' r (d % Nat.gcd x.natAbs d)) ∧ Ext w' w'') := fun g w' hxx hgg => ndivide_any _ _ v2 g w' (h2.ext hxx) hgg SD2 (small_le SD hgd) (by omega) (Nat.le_trans (Dig.blen_le _ _ fd) (by omega))
  have HM : Hid (∀ u w', IsN w' u (x.natAbs / Nat.gcd x.natAbs d) → Calls Try.prog 49 #[.bool (decide (x < 0)), u] w' fun e w'' => e = .returned (.agg #[.bool (decide (x < 0) && decide (0 < x.natAbs / Nat.gcd x.natAbs d)), u]) ∧ Ext w' w'') := fun u w' hu => made_any _ u _ w' hu (small_le (f1.small (by omega)) (Nat.div_le_self _ _))
  have HF : Hid (∀ u1 u2 w', IsN w' u1 (x.natAbs / Nat.gcd x.natAbs d) → IsN w' u2 (d / Nat.gcd x.natAbs d) → IsQ w' (.agg #[.bool (decide (x < 0) && decide (0 < x.natAbs / Nat.gcd x.natAbs d)), u1, u2]) (x / (Nat.gcd x.natAbs d : Int)) (d / Nat.gcd x.natAbs d)) := fun u1 u2 w' hu1 hu2 => by
    obtain ⟨u, hu, hn⟩ := isI_of hu1 (div_gcd x d hd).1 (div_gcd x d hd).2
    have := (Value.agg.inj hu)
    simp only [Array.mk.injEq, List.cons.injEq, and_true] at this
    exact ⟨u1, u2, by rw [this.1], by rw [this.2]; exact hn, hu2⟩
  obtain ⟨a1, l1, c1, rfl⟩ := k1.isSlice
  obtain ⟨a2, l2, c2, rfl⟩ := h2.isSlice
  clear k1 h2 f1 f2 fd SD SD2 fM hM1 hM2 hg hgd
  generalize (decide (x < 0) && decide (0 < x.natAbs / Nat.gcd x.natAbs d)) = B at *
  generalize x / (Nat.gcd x.natAbs d : Int) = ZZ at *
  generalize x.natAbs / Nat.gcd x.natAbs d = X1 at *
  generalize x.natAbs % Nat.gcd x.natAbs d = X2 at *
  generalize d / Nat.gcd x.natAbs d = Y1 at *
  generalize d % Nat.gcd x.natAbs d = Y2 at *
  generalize Nat.gcd x.natAbs d = G at *
  generalize decide (x < 0) = b at *
  have XS : Hid (Ext w ((w.alloc (.cells #[.bool b, .slice a1 l1 c1] 63)).alloc (.cells #[.bool false, .slice none 0 0, .slice none 0 0] 74))) := ((Ext.refl w).alloc _).alloc _
  have LS : Hid (LaidR w.heap.size ((w.alloc (.cells #[.bool b, .slice a1 l1 c1] 63)).alloc (.cells #[.bool false, .slice none 0 0, .slice none 0 0] 74)) (.bool b) (.slice a1 l1 c1)) := laidR_start w _ _
  go_enter Try.func35, Try.ntmps35
  go_wp2_with fail
  generalize ((w.alloc (.cells #[.bool b, .slice a1 l1 c1] 63)).alloc (.cells #[.bool false, .slice none 0 0, .slice none 0 0] 74)) = W at *
  refine (HG.out _ XS.out).mono ?_
  rintro e w1 ⟨⟨g, rfl, hg⟩, x1⟩
  obtain ⟨ag, lg, cg, eg⟩ := hg.isSlice
  subst eg
  have L1 : Hid _ := LS.out.ext x1
  obtain ⟨⟨a0, a1', a2', a3'⟩, _⟩ := LS.out.ext x1
  go_wp2_with fail
  refine (HD1.out _ _ (XS.out.trans x1) hg).mono ?_
  rintro e w2 ⟨⟨m, m', rfl, hm, hm'⟩, x2⟩
  obtain ⟨am, lm, cm, em⟩ := hm.isSlice
  subst em
  have X2 : Hid (Ext w w2) := (XS.out.trans x1).trans x2
  have HG2 : Hid _ := hg.ext x2
  have LS2 : Hid _ := LS.out.ext (x1.trans x2)
  have HM2 : Hid (IsN w2 (.slice am lm cm) X1) := hm
  clear x1 x2 a0 a1' a2' a3' hg hm hm'
  go_wp2_with fail
  refine (HD2.out _ _ X2.out HG2.out).mono ?_
  rintro e w3 ⟨⟨n, n', rfl, hn, hn'⟩, x3⟩
  obtain ⟨an, ln, cn, en⟩ := hn.isSlice
  subst en
  have LS3 : Hid _ := LS2.out.ext x3
  obtain ⟨⟨a0, a1', a2', a3'⟩, ⟨b0, b1, b2, b3, b4, b5⟩⟩ := LS2.out.ext x3
  have X3 : Hid (Ext w w3) := X2.out.trans x3
  have HM3 : Hid (IsN w3 (.slice am lm cm) X1) := HM2.out.ext x3
  have HN3 : Hid (IsN w3 (.slice an ln cn) Y1) := hn
  clear x3 hn hn' HM2
  go_wp2_with fail
  refine (HM.out _ _ HM3.out).mono ?_
  rintro e w4 ⟨rfl, x4⟩
  obtain ⟨⟨d0, d1, d2, d3⟩, ⟨e0, e1, e2, e3, e4, e5⟩⟩ := LS3.out.ext x4
  have X4 : Hid (Ext w w4) := X3.out.trans x4
  have HM4 : Hid (IsN w4 (.slice am lm cm) X1) := HM3.out.ext x4
  have HN4 : Hid (IsN w4 (.slice an ln cn) Y1) := HN3.out.ext x4
  clear x4 a0 a1' a2' a3' b0 b1 b2 b3 b4 b5
  go_wp2_with fail
  exact bodyPost_ret (v := .agg #[.bool B, .slice am lm cm, .slice an ln cn]) (by simp [results, Try.results35, go_sem, e0, e1, e2]) rfl
    ⟨⟨_, rfl, HF.out _ _ _ (HM4.out.set3 e0 e1 e2) (HN4.out.set3 e0 e1 e2)⟩, ((X4.out.setCell (show w.heap.size ≤ w.heap.size + 1 by omega) _).setCell (show w.heap.size ≤ w.heap.size + 1 by omega) _).setCell (show w.heap.size ≤ w.heap.size + 1 by omega) _⟩
end Go.Proofs.Ytbmocnigmpmfkaa
