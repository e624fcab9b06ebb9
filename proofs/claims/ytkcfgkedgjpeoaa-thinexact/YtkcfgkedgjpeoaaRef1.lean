/- The reference of layer 1: Near, NearQ, Over, Prod, Mul, Div, Ratio, Add, Sub. -/
import Derived.Test.YtkcfgkedgjpeoaaNearQ
import Derived.Test.YtkcfgkedgjpeoaaWord
namespace Go.Proofs.Ytkcfgkedgjpeoaa
open Go.RowKit

theorem nearI_fit (n d : Int) (k : Nat) (f : Fit k n) (hd : 0 < d) : Fit (k + 2) (nearI n d) := by
  have h1 : (n * 2 / d / 2).natAbs ≤ (n * 2).natAbs := Nat.le_trans (natAbs_ediv_le _ _ (by omega)) (natAbs_ediv_le _ _ hd)
  have f1 : Fit (k + 1) (n * 2) := by have := f.shl 1; rwa [Int.pow_succ, Int.pow_zero, Int.one_mul] at this
  have f2 : Fit (k + 1) (n * 2 / d / 2) := f1.of_le h1
  unfold nearI
  split
  · exact f2.le (by omega)
  · split
    · exact f2.le (by omega)
    · exact f2.add (fit_one _ (by omega))
theorem fit_word (a : Int) (h1 : -9223372036854775808 ≤ a) (h2 : a ≤ 9223372036854775807) : Fit 64 a := by
  unfold Fit
  have e : (2 : Nat) ^ 64 = 18446744073709551616 := by decide
  omega

theorem near_lowest (x : Int) (d : Nat) (hd : d ≠ 0) (z : Int) (hz : IsNear x d z) : IsNear (x / (Nat.gcd x.natAbs d : Int)) ((d / Nat.gcd x.natAbs d : Nat) : Int) z := by
  have hg : 0 < Nat.gcd x.natAbs d := Nat.gcd_pos_of_pos_right _ (by omega)
  have h1 : (Nat.gcd x.natAbs d : Int) ∣ x := Int.ofNat_dvd_left.2 (Nat.gcd_dvd_left _ _)
  have h2 : Nat.gcd x.natAbs d ∣ d := Nat.gcd_dvd_right _ _
  generalize Nat.gcd x.natAbs d = g at *
  obtain ⟨c, hc⟩ := h1
  obtain ⟨e, he⟩ := h2
  have e1 : x / (g : Int) = c := by rw [hc, Int.mul_ediv_cancel_left _ (by omega)]
  have e2 : d / g = e := by rw [he, Nat.mul_div_cancel_left _ hg]
  have he0 : 0 < e := by
    apply Nat.pos_of_ne_zero
    intro h0
    rw [h0, Nat.mul_zero] at he
    exact hd he
  rw [e1, e2]
  have hs := nearI_spec c (e : Int) (by omega)
  have h3 := hs.scale (g := (g : Int)) (by omega)
  rw [← hc, ← Int.natCast_mul, ← he] at h3
  rw [hz.unique (by omega) h3]
  exact hs

theorem over_abs (x d : Int) : (over x d).natAbs = x.natAbs := by unfold over; split <;> omega
structure LaidO (p : Nat) (W : World) (u1 v1 u2 v2 : Value) : Prop where
  a : Has W p u1 v1
  b : Has W (p + 1) u2 v2
  c : Has3 W (p + 1 + 1) (.bool false) (.slice none 0 0) (.slice none 0 0)
theorem LaidO.ext {p : Nat} {W W' : World} {u1 v1 u2 v2 : Value} (h : LaidO p W u1 v1 u2 v2) (hx : Ext W W') : LaidO p W' u1 v1 u2 v2 := ⟨h.a.ext hx, h.b.ext hx, h.c.ext hx⟩
theorem laidO_start (w : World) (u1 v1 u2 v2 : Value) : LaidO w.heap.size (((w.alloc (.cells #[u1, v1] 70)).alloc (.cells #[u2, v2] 70)).alloc (.cells #[.bool false, .slice none 0 0, .slice none 0 0] 73)) u1 v1 u2 v2 := by
  constructor <;> constructor <;> simp [go_sem]
theorem Has3.far {w : World} {b g : Nat} {u v x y z : Value} (h : Has3 w b u v z) (hb : b ≠ g) : Has3 ((w.setCell ⟨g, 0, none⟩ x).setCell ⟨g, 1, none⟩ y) b u v z :=
  ⟨by rw [far2 _ _ _ _ _ hb]; exact h.c0, by rw [far2 _ _ _ _ _ hb]; exact h.c1, by rw [far2 _ _ _ _ _ hb]; exact h.c2, by simp [h.f0], by simp [h.f1], by simp [h.f2]⟩
theorem IsQ.set3 {w : World} {v : Value} {n : Int} {d g : Nat} {b0 : Bool} {a a' : Option Addr} {l c l' c' : Nat} {x y z : Value} (h : IsQ w v n d) (c0 : w.cell? ⟨g, 0, none⟩ = some (.bool b0)) (c1 : w.cell? ⟨g, 1, none⟩ = some (.slice a l c)) (c2 : w.cell? ⟨g, 2, none⟩ = some (.slice a' l' c')) :
    IsQ (((w.setCell ⟨g, 0, none⟩ x).setCell ⟨g, 1, none⟩ y).setCell ⟨g, 2, none⟩ z) v n d := by
  obtain ⟨u1, u2, h1, h2, h3⟩ := h
  exact ⟨u1, u2, h1, h2.set3 c0 c1 c2, h3.set3 c0 c1 c2⟩

end Go.Proofs.Ytkcfgkedgjpeoaa
