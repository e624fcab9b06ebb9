/- The reference's rational numbers: Floor. The reference's rational numbers: Times. The reference's whole numbers with a sign: Len, Pow. The reference's whole numbers with a sign: Root, of squares. The reference of layer 1: RootNear of a rational. -/
import Derived.Test.YtfmalpnlencmbaaMg39
import Derived.Test.YtfmalpnlencmbaaMg37
import Derived.Test.YtfmalpnlencmbaaMg18
namespace Go.Proofs.Ytfmalpnlencmbaa
open Go.RowKit

end Go.Proofs.Ytfmalpnlencmbaa

namespace Go.Proofs.Ytfmalpnlencmbaa
open Go.RowKit

structure LaidT3 (p : Nat) (W : World) (u1 v1 x1 u2 v2 x2 : Value) : Prop where
  a : Has3 W p u1 v1 x1
  b : Has3 W (p + 1) u2 v2 x2
  c : Has3 W (p + 1 + 1) (.bool false) (.slice none 0 0) (.slice none 0 0)
theorem LaidT3.ext {p : Nat} {W W' : World} {u1 v1 x1 u2 v2 x2 : Value} (h : LaidT3 p W u1 v1 x1 u2 v2 x2) (hx : Ext W W') : LaidT3 p W' u1 v1 x1 u2 v2 x2 := ⟨h.a.ext hx, h.b.ext hx, h.c.ext hx⟩

end Go.Proofs.Ytfmalpnlencmbaa

namespace Go.Proofs.Ytfmalpnlencmbaa
open Go.RowKit

theorem fit_pow {k : Nat} {x : Int} (f : Fit k x) : ∀ t : Nat, Fit (k * t + 1) (x ^ t) := by
  intro t
  induction t with
  | zero => rw [Int.pow_zero]; exact fit_one _ (by omega)
  | succ t ih =>
    rw [Int.pow_succ]
    exact (ih.mul f).le (by rw [Nat.mul_succ]; omega)

structure PowRel (w wr : World) (p g : Nat) (u v : Value) (z : Int) (ug : Value) (vg : Value) : Prop where
  a : Has wr p u v
  b : Has wr (p + 1) (.bool false) (.slice none 0 0)
  g : Has wr g ug vg
  i : IsI wr (.agg #[ug, vg]) z
  x : Ext w wr

end Go.Proofs.Ytfmalpnlencmbaa

namespace Go.Proofs.Ytfmalpnlencmbaa
open Go.RowKit

theorem nat_nonneg (n : Nat) : decide ((n : Int) < 0) = false := decide_eq_false (Int.not_lt.2 (Int.natCast_nonneg n))
theorem hid_ff : Hid (false = false) := rfl
/-- with t bits to come -/
structure RtRel (a t r : Nat) : Prop where
  lo : r * r ≤ a
  hi : a < (r + 2 ^ t) * (r + 2 ^ t)
theorem RtRel.start (a : Nat) : RtRel a (Dig.blen a / 2 + 2) 0 := by
  refine ⟨by omega, ?_⟩
  rw [Nat.zero_add, ← Nat.pow_add]
  exact Nat.lt_of_lt_of_le (Dig.lt_blen a) (Nat.pow_le_pow_right (by omega) (by omega))
theorem RtRel.yes {a i r : Nat} (h : RtRel a (i + 1) r) (hy : (r + 2 ^ i) * (r + 2 ^ i) ≤ a) : RtRel a i (r + 2 ^ i) := by
  refine ⟨hy, ?_⟩
  have := h.hi
  have e : r + 2 ^ i + 2 ^ i = r + 2 ^ (i + 1) := by rw [Nat.pow_succ]; omega
  rw [e]
  exact this
theorem RtRel.no {a i r : Nat} (h : RtRel a (i + 1) r) (hy : ¬ (r + 2 ^ i) * (r + 2 ^ i) ≤ a) : RtRel a i r := ⟨h.lo, by omega⟩
theorem RtRel.le {a t r : Nat} (h : RtRel a t r) : r ≤ a := by
  have := h.lo
  rcases Nat.eq_zero_or_pos r with h0 | h0
  · omega
  · exact Nat.le_trans (Nat.le_mul_of_pos_left r h0) this

end Go.Proofs.Ytfmalpnlencmbaa

namespace Go.Proofs.Ytfmalpnlencmbaa
open Go.RowKit

theorem sq_odd (s : Nat) : (2 * s + 1) * (2 * s + 1) = 4 * (s * (s + 1)) + 1 := by
  simp only [Nat.mul_add, Nat.add_mul, Nat.mul_one, Nat.one_mul]
  have : 2 * s * (2 * s) = 4 * (s * s) := by rw [Nat.mul_mul_mul_comm]
  omega
theorem odd_gcd (m n : Nat) (hm : m % 2 = 1) (hn : n = 2 ∨ n = 4) : Nat.gcd m n = 1 := by
  have h : ∀ g, g ∣ m → g ∣ n → g = 1 := by
    intro g h1 h2
    have hle : g ≤ 4 := Nat.le_trans (Nat.le_of_dvd (by omega) h2) (by omega)
    obtain ⟨c, hc⟩ := h1
    obtain ⟨e, he⟩ := h2
    match g, hle with
    | 0, _ => omega
    | 1, _ => rfl
    | 2, _ => omega
    | 3, _ => omega
    | 4, _ => omega
  exact h _ (Nat.gcd_dvd_left _ _) (Nat.gcd_dvd_right _ _)

end Go.Proofs.Ytfmalpnlencmbaa
