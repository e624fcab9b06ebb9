/- The reference: products of two words. -/
import Derived.Test.YtmbdcgijjpcppaaGreatInt3m
namespace Go.Proofs.YtmbdcgijjpcppaaGreat
open Go.RowKit

def Fit (k : Nat) (z : Int) : Prop := z.natAbs < 2 ^ k
theorem Fit.le {k l : Nat} {z : Int} (h : Fit k z) (hl : k ≤ l) : Fit l z := Nat.lt_of_lt_of_le h (Nat.pow_le_pow_right (by omega) hl)
theorem Fit.neg {k : Nat} {z : Int} (h : Fit k z) : Fit k (-z) := by unfold Fit; rw [Int.natAbs_neg]; exact h
theorem Fit.mul {k l : Nat} {x y : Int} (h : Fit k x) (h' : Fit l y) : Fit (k + l) (x * y) := by
  unfold Fit
  rw [Int.natAbs_mul, Nat.pow_add]
  rcases Nat.eq_zero_or_pos y.natAbs with h0 | h0
  · rw [h0, Nat.mul_zero]; exact Nat.mul_pos (Nat.pow_pos (by omega)) (Nat.pow_pos (by omega))
  · exact Nat.mul_lt_mul_of_lt_of_le h (Nat.le_of_lt h') (Nat.pow_pos (by omega))
theorem Fit.add {k : Nat} {x y : Int} (h : Fit k x) (h' : Fit k y) : Fit (k + 1) (x + y) := by
  unfold Fit at *
  have := Int.natAbs_add_le x y
  rw [Nat.pow_succ]
  omega
theorem Fit.sub {k : Nat} {x y : Int} (h : Fit k x) (h' : Fit k y) : Fit (k + 1) (x - y) := by
  rw [Int.sub_eq_add_neg]; exact h.add h'.neg
theorem Fit.shl {k : Nat} {x : Int} (h : Fit k x) (n : Nat) : Fit (k + n) (x * 2 ^ n) := by
  unfold Fit at *
  have e : (x * 2 ^ n).natAbs = x.natAbs * 2 ^ n := by rw [Int.natAbs_mul, Int.natAbs_pow]; rfl
  rw [e, Nat.pow_add]
  exact Nat.mul_lt_mul_of_pos_right h (Nat.pow_pos (by omega))
theorem Fit.of_le {k : Nat} {x y : Int} (h : Fit k x) (h' : y.natAbs ≤ x.natAbs) : Fit k y := Nat.lt_of_le_of_lt h' h
theorem small_pow (n k : Nat) (h : n < 2 ^ k) (hk : k ≤ 9000) : Small n := by
  have e : ∀ j : Nat, (18446744073709551616 : Nat) ^ j = 2 ^ (64 * j) := fun j => by
    have : (18446744073709551616 : Nat) = 2 ^ 64 := by decide
    rw [this, ← Nat.pow_mul]
  have e' : ∀ j : Nat, (4294967296 : Nat) ^ j = 2 ^ (32 * j) := fun j => by
    have : (4294967296 : Nat) = 2 ^ 32 := by decide
    rw [this, ← Nat.pow_mul]
  constructor
  · have := Dig.digs_length_le 18446744073709551616 (by omega) n (k / 64 + 1) (by rw [e]; exact Nat.lt_of_lt_of_le h (Nat.pow_le_pow_right (by omega) (by omega)))
    omega
  · have := Dig.digs_length_le 4294967296 (by omega) n (k / 32 + 1) (by rw [e']; exact Nat.lt_of_lt_of_le h (Nat.pow_le_pow_right (by omega) (by omega)))
    omega
theorem Fit.small {k : Nat} {z : Int} (h : Fit k z) (hk : k ≤ 9000) : SmallI z := small_pow _ k h hk
theorem Fit.small2 {k : Nat} {z : Int} (h : Fit k z) (hk : k ≤ 8999) : Small (2 * z.natAbs) := by
  refine small_pow _ (k + 1) ?_ (by omega)
  unfold Fit at h
  rw [Nat.pow_succ]
  omega
theorem fit_of (k : Nat) (z : Int) (h1 : -(2 ^ k : Int) < z) (h2 : z < (2 ^ k : Int)) : Fit k z := by
  unfold Fit
  have e : ((2 ^ k : Nat) : Int) = (2 : Int) ^ k := by simp
  omega
structure Has (w : World) (b : Nat) (u v : Value) : Prop where
  c0 : w.cell? ⟨b, 0, none⟩ = some u
  c1 : w.cell? ⟨b, 1, none⟩ = some v
  f0 : w.frozen? ⟨b, 0, none⟩ = false
  f1 : w.frozen? ⟨b, 1, none⟩ = false
theorem Has.ext {w w' : World} {b : Nat} {u v : Value} (h : Has w b u v) (hx : Ext w w') : Has w' b u v :=
  ⟨hx.kept h.c0, hx.kept h.c1, by rw [(hx.lay).2.1 _ _ (cell_lt h.c0)]; exact h.f0, by rw [(hx.lay).2.1 _ _ (cell_lt h.c1)]; exact h.f1⟩
theorem ext_new1 {X w' : World} {u v : Value} {T : TypeId} (h : Ext (X.alloc (.cells #[u, v] T)) w') : Has w' X.heap.size u v := by
  have h0 : Has (X.alloc (.cells #[u, v] T)) X.heap.size u v := by constructor <;> simp [go_sem]
  exact h0.ext h
theorem fit_word (a : Int) (h1 : -9223372036854775808 ≤ a) (h2 : a ≤ 9223372036854775807) : Fit 64 a := by
  unfold Fit
  have e : (2 : Nat) ^ 64 = 18446744073709551616 := by decide
  omega
set_option maxHeartbeats 1000000 in
theorem prod_any (a b : Int) (w : World) (h1 : -9223372036854775808 ≤ a) (h2 : a ≤ 9223372036854775807) (k1 : -9223372036854775808 ≤ b) (k2 : b ≤ 9223372036854775807) :
    Calls Tryz.prog 30 #[.int .i64 a, .int .i64 b] w fun e w' => (∃ r, e = .returned r ∧ IsI w' r (a * b)) ∧ Ext w w' := by
  have fa : Fit 64 a := fit_word a h1 h2
  have fb : Fit 64 b := fit_word b k1 k2
  have HA : Hid (∀ w', Calls Tryz.prog 33 #[.int .i64 a] w' fun e w'' => (∃ r, e = .returned r ∧ IsI w'' r a) ∧ Ext w' w'') := fun w' => from_any a w' h1 h2
  have HB : Hid (∀ w', Calls Tryz.prog 33 #[.int .i64 b] w' fun e w'' => (∃ r, e = .returned r ∧ IsI w'' r b) ∧ Ext w' w'') := fun w' => from_any b w' k1 k2
  have HT : Hid (∀ r1 r2 w', IsI w' r1 a → IsI w' r2 b → Calls Tryz.prog 69 #[r1, r2] w' fun e w'' => (∃ r', e = .returned r' ∧ IsI w'' r' (a * b)) ∧ Ext w' w'') := fun r1 r2 w' hr1 hr2 => times_isI a b r1 r2 w' hr1 hr2 (fa.small (by omega)) (fb.small (by omega)) ((fa.mul fb).small (by omega))
  clear fa fb h1 h2 k1 k2
  generalize a * b = P at *
  have XS : Hid (Ext w (w.alloc (.cells #[.bool false, .slice none 0 0] 58))) := (Ext.refl _).alloc _
  have BS : Hid (Has (w.alloc (.cells #[.bool false, .slice none 0 0] 58)) w.heap.size (.bool false) (.slice none 0 0)) := ext_new1 (Ext.refl _)
  go_enter Tryz.func30, Tryz.ntmps30
  go_wp2_with fail
  generalize w.alloc (.cells #[.bool false, .slice none 0 0] 58) = W at *
  refine (HA.out _).mono ?_
  rintro e w1 ⟨⟨r1, rfl, hr1⟩, x1⟩
  go_wp2_with fail
  refine (HB.out _).mono ?_
  rintro e w2 ⟨⟨r2, rfl, hr2⟩, x2⟩
  go_wp2_with fail
  refine (HT.out _ _ _ (hr1.ext x2) hr2).mono ?_
  rintro e w3 ⟨⟨r3, rfl, hr3⟩, x3⟩
  obtain ⟨t0, t1, t2, t3⟩ := BS.out.ext ((x1.trans x2).trans x3)
  obtain ⟨u, hu, hk⟩ := hr3
  obtain ⟨au, lu, cu, hau⟩ := hk.isSlice
  subst hau
  subst hu
  have X3 : Hid (Ext w w3) := XS.out.trans ((x1.trans x2).trans x3)
  have HI : Hid (IsI w3 (.agg #[.bool (decide (P < 0)), .slice au lu cu]) P) := ⟨_, rfl, hk⟩
  clear hk x1 x2 x3 hr1 hr2
  go_wp2_with fail
  exact bodyPost_ret (v := .agg #[.bool (decide (P < 0)), .slice au lu cu]) (by simp [results, Tryz.results30, go_sem, t0, t1]) rfl ⟨⟨_, rfl, HI.out.set2 t0 t1⟩, (X3.out.setCell (Nat.le_refl _) _).setCell (Nat.le_refl _) _⟩

theorem Has.here {w : World} {g : Nat} {u v x y : Value} (h : Has w g u v) : Has ((w.setCell ⟨g, 0, none⟩ x).setCell ⟨g, 1, none⟩ y) g x y := by
  refine ⟨?_, ?_, by simp [h.f0], by simp [h.f1]⟩
  · rw [World.cell?_setCell_other _ _ _ _ (by simp)]
    exact World.cell?_setCell_same _ _ _ h.c0
  · exact World.cell?_setCell_same _ _ _ (by rw [World.cell?_setCell_other _ _ _ _ (by simp)]; exact h.c1)
theorem IsN.setH {w : World} {v : Value} {n g : Nat} {b0 : Bool} {a : Option Addr} {l c : Nat} {x y : Value} (h : IsN w v n) (k : Has w g (.bool b0) (.slice a l c)) : IsN ((w.setCell ⟨g, 0, none⟩ x).setCell ⟨g, 1, none⟩ y) v n := by
  refine Row.set (c := .slice a l c) (Row.set h x k.c0 (by simp)) y ?_ (by simp)
  rw [World.cell?_setCell_other _ _ _ _ (by simp)]
  exact k.c1
structure OneV (W wx : World) (g : Nat) (u v : Value) (n : Nat) : Prop where
  h : Has wx g u v
  i : IsN wx v n
  x : Ext W wx
theorem one_a {W X : World} {b : Bool} {a : Option Addr} {l c n : Nat} {T : TypeId} (hx : Ext W X) (i : IsN X (.slice a l c) n) : Hid (OneV W (X.alloc (.cells #[.bool b, .slice a l c] T)) X.heap.size (.bool b) (.slice a l c) n) :=
  ⟨ext_new1 (Ext.refl _), i.ext ((Ext.refl _).alloc _), hx.alloc _⟩
theorem one_b {W X : World} {g : Nat} {b : Bool} {a : Option Addr} {l c n : Nat} (hx : Ext W X) (i : IsN X (.slice a l c) n) (h : Has X g (.bool false) (.slice none 0 0)) (hl : W.heap.size ≤ g) :
    Hid (OneV W ((X.setCell ⟨g, 0, none⟩ (.bool b)).setCell ⟨g, 1, none⟩ (.slice a l c)) g (.bool b) (.slice a l c) n) :=
  ⟨Has.here h, i.setH h, (hx.setCell hl _).setCell hl _⟩
end Go.Proofs.YtmbdcgijjpcppaaGreat
