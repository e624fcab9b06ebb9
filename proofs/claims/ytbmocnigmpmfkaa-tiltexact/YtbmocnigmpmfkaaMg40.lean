/- The reference's whole numbers: NGcd. Sizes of whole numbers, by bits. -/
import Derived.Test.YtbmocnigmpmfkaaBig12m
namespace Go.Proofs.Ytbmocnigmpmfkaa
open Go.RowKit

theorem row_unique {k : IntKind} {w : World} {v : Value} {xs ys : List Nat} (h : Row k w v xs) (h' : Row k w v ys) : xs = ys := by
  obtain ⟨a, c, hv, hc⟩ := h.shape
  obtain ⟨a', c', hv', hc'⟩ := h'.shape
  rw [hv] at hv'
  obtain ⟨e1, e2, _⟩ := Value.slice.inj hv'
  subst e1
  apply List.ext_getElem?
  intro i
  by_cases hi : i < xs.length
  · obtain ⟨b, o, hb, hcell⟩ := hc (by omega)
    obtain ⟨b', o', hb', hcell'⟩ := hc' (by omega)
    rw [hb] at hb'
    cases hb'
    have h1 := hcell i hi
    have h2 := hcell' i (by omega)
    rw [h1] at h2
    have h3 := (Value.int.inj (Option.some.inj h2)).2
    have h4 : xs.getD i 0 = ys.getD i 0 := by omega
    rw [List.getElem?_eq_getElem hi, List.getElem?_eq_getElem (show i < ys.length by omega)]
    rw [List.getD_eq_getElem?_getD, List.getD_eq_getElem?_getD, List.getElem?_eq_getElem hi, List.getElem?_eq_getElem (show i < ys.length by omega)] at h4
    simp only [Option.getD_some] at h4
    rw [h4]
  · rw [List.getElem?_eq_none (by omega), List.getElem?_eq_none (by omega)]
theorem isN_unique {w : World} {v : Value} {m n : Nat} (h : IsN w v m) (h' : IsN w v n) : m = n := by
  have e := row_unique h h'
  have h1 := Dig.vald 18446744073709551616 m (by omega)
  have h2 := Dig.vald 18446744073709551616 n (by omega)
  rw [e] at h1
  omega
theorem blen_mono {x y : Nat} (h : x ≤ y) : Dig.blen x ≤ Dig.blen y := Dig.blen_le x _ (Nat.lt_of_le_of_lt h (Dig.lt_blen y))

set_option maxHeartbeats 2000000 in
theorem ngcd_aux (numOf : World → Value → Nat) (numOf_eq : Hid (∀ w v n, IsN w v n → numOf w v = n)) (m n M : Nat) (v1 v2 : Value) (w : World) (h1 : IsN w v1 m) (h2 : IsN w v2 n) (hm : m ≤ M) (hn : n ≤ M) (s : Small (2 * M)) (hb : Dig.blen M ≤ 10000) :
    Calls Try.prog 47 #[v1, v2] w fun e w' => (∃ v', e = .returned v' ∧ IsN w' v' (Nat.gcd m n)) ∧ Ext w w' := by
  have HD : Hid (∀ x y u v w', x ≤ M → y ≤ M → y ≠ 0 → IsN w' u x → IsN w' v y → Calls Try.prog 48 #[u, v] w' fun e w'' => (∃ q r, e = .returned (.tuple #[q, r]) ∧ IsN w'' q (x / y) ∧ IsN w'' r (x % y)) ∧ Ext w' w'') := fun x y u v w' hx hy h0 hu hv => ndivide_any x y u v w' hu hv (small_le s (by omega)) (small_le s (by omega)) h0 (Nat.le_trans (blen_mono hx) hb)
  have H1 : Hid _ := h1
  have H2 : Hid _ := h2
  have HS : Hid (∀ y, y ≤ M → Small y) := fun y hy => small_le s (by omega)
  obtain ⟨a1, l1, c1, e1⟩ := h1.isSlice
  obtain ⟨a2, l2, c2, e2⟩ := h2.isSlice
  subst e1 e2
  clear h1 h2 s hb
  go_enter Try.func47, Try.ntmps47
  go_wp2_with fail
  go_loopw [0, 1] (fun av bv wr => ∃ (x y : Nat), x ≤ M ∧ y ≤ M ∧ Hid (IsN wr av x) ∧ Hid (IsN wr bv y) ∧ Hid (Nat.gcd x y = Nat.gcd m n) ∧ Ext w wr) (fun _ bv wr => numOf wr bv)
  case atStart => exact ⟨m, n, hm, hn, H1, H2, rfl, Ext.refl _⟩
  case round =>
    obtain ⟨x, y, hx, hy, hX, hY, hg, hxx⟩ := hrel
    obtain ⟨ax, lx, cx, ex, zx, hlx⟩ := hX.out.zero_iff
    obtain ⟨ay, ly, cy, ey, zy, hly⟩ := hY.out.zero_iff
    subst ex ey
    have hly2 : ly ≤ 1000 := by have := (HS.out y hy).1; omega
    by_cases h0 : y = 0
    · have hz : ly = 0 := zy.2 h0
      subst hz
      have hG : Hid (IsN wr (.slice ax lx cx) (Nat.gcd m n)) := by
        have := hX.out
        have e := hg.out
        rw [h0, Nat.gcd_zero_right] at e
        rw [e] at this
        exact this
      clear zx zy hlx hly hX hY hg h0
      go_wp2_with fail
      go_ret
      exact ⟨⟨_, rfl, hG.out⟩, hxx⟩
    · have hp : (0 : Int) < (ly : Int) := by
        have : ly ≠ 0 := fun h => h0 (zy.1 h)
        omega
      have hm1 : Hid (numOf wr (.slice ay ly cy) = y) := numOf_eq.out _ _ _ hY.out
      have hlt : Hid (x % y < y) := Nat.mod_lt _ (by omega)
      have hg2 : Hid (Nat.gcd y (x % y) = Nat.gcd m n) := by
        show _ = _
        rw [← hg.out, Nat.gcd_comm x y, Nat.gcd_rec y x, Nat.gcd_comm]
      have h0' : Hid (y ≠ 0) := h0
      clear zx zy hlx hly h0 hg
      go_wp2_with fail
      refine (HD.out x y _ _ wr hx hy h0'.out hX.out hY.out).mono ?_
      rintro e w1 ⟨⟨q, r, rfl, hq, hr⟩, x1⟩
      obtain ⟨aq, lq, cq, eq⟩ := hq.isSlice
      obtain ⟨ar, lr, cr, er⟩ := hr.isSlice
      subst eq er
      have HR : Hid _ := hr
      have HY : Hid _ := hY.out.ext x1
      have HX1 : Hid (Ext w w1) := hxx.trans x1
      have hm2 : Hid (numOf w1 (.slice ar lr cr) = x % y) := numOf_eq.out _ _ _ hr
      clear hq hr x1 hX hY hxx
      go_wp2_with fail
      go_roundw
      case rel => exact ⟨y, x % y, hy, Nat.le_trans (Nat.le_of_lt hlt.out) hy, HY, HR, hg2, HX1.out⟩
      case measure =>
        show numOf w1 (.slice ar lr cr) < numOf wr (.slice ay ly cy)
        rw [hm1.out, hm2.out]
        exact hlt.out
theorem ngcd_any (m n M : Nat) (v1 v2 : Value) (w : World) (h1 : IsN w v1 m) (h2 : IsN w v2 n) (hm : m ≤ M) (hn : n ≤ M) (s : Small (2 * M)) (hb : Dig.blen M ≤ 10000) :
    Calls Try.prog 47 #[v1, v2] w fun e w' => (∃ v', e = .returned v' ∧ IsN w' v' (Nat.gcd m n)) ∧ Ext w w' :=
  ngcd_aux (fun w v => Classical.epsilon fun n => IsN w v n) (fun _ _ n h => isN_unique (Classical.epsilon_spec ⟨n, h⟩) h) m n M v1 v2 w h1 h2 hm hn s hb
end Go.Proofs.Ytbmocnigmpmfkaa

namespace Go.Proofs.Ytbmocnigmpmfkaa
open Go.RowKit

def Fit (k : Nat) (z : Int) : Prop := z.natAbs < 2 ^ k
theorem Fit.le {k l : Nat} {z : Int} (h : Fit k z) (hl : k ≤ l) : Fit l z := Nat.lt_of_lt_of_le h (Nat.pow_le_pow_right (by omega) hl)
theorem Fit.neg {k : Nat} {z : Int} (h : Fit k z) : Fit k (-z) := by unfold Fit; rw [Int.natAbs_neg]; exact h
theorem Fit.mul {k l : Nat} {x y : Int} (h : Fit k x) (h' : Fit l y) : Fit (k + l) (x * y) := by
  unfold Fit
  rw [Int.natAbs_mul, Nat.pow_add]
  rcases Nat.eq_zero_or_pos y.natAbs with h0 | h0
  · rw [h0, Nat.mul_zero]; exact Nat.mul_pos (Nat.pow_pos (by omega)) (Nat.pow_pos (by omega))
  · exact Nat.mul_lt_mul_of_lt_of_le h (Nat.le_of_lt h') (Nat.pow_pos (by omega))
theorem Fit.add {k : Nat} {x y : Int} (h : Fit k x) (h' : Fit k y) : Fit (k + 1) (x + y) := by
  unfold Fit at *
  have := Int.natAbs_add_le x y
  rw [Nat.pow_succ]
  omega
theorem Fit.sub {k : Nat} {x y : Int} (h : Fit k x) (h' : Fit k y) : Fit (k + 1) (x - y) := by
  rw [Int.sub_eq_add_neg]; exact h.add h'.neg
theorem Fit.shl {k : Nat} {x : Int} (h : Fit k x) (n : Nat) : Fit (k + n) (x * 2 ^ n) := by
  unfold Fit at *
  have e : (x * 2 ^ n).natAbs = x.natAbs * 2 ^ n := by rw [Int.natAbs_mul, Int.natAbs_pow]; rfl
  rw [e, Nat.pow_add]
  exact Nat.mul_lt_mul_of_pos_right h (Nat.pow_pos (by omega))
theorem Fit.of_le {k : Nat} {x y : Int} (h : Fit k x) (h' : y.natAbs ≤ x.natAbs) : Fit k y := Nat.lt_of_le_of_lt h' h
theorem small_pow (n k : Nat) (h : n < 2 ^ k) (hk : k ≤ 9000) : Small n := by
  have e : ∀ j : Nat, (18446744073709551616 : Nat) ^ j = 2 ^ (64 * j) := fun j => by
    have : (18446744073709551616 : Nat) = 2 ^ 64 := by decide
    rw [this, ← Nat.pow_mul]
  have e' : ∀ j : Nat, (4294967296 : Nat) ^ j = 2 ^ (32 * j) := fun j => by
    have : (4294967296 : Nat) = 2 ^ 32 := by decide
    rw [this, ← Nat.pow_mul]
  constructor
  · have := Dig.digs_length_le 18446744073709551616 (by omega) n (k / 64 + 1) (by rw [e]; exact Nat.lt_of_lt_of_le h (Nat.pow_le_pow_right (by omega) (by omega)))
    omega
  · have := Dig.digs_length_le 4294967296 (by omega) n (k / 32 + 1) (by rw [e']; exact Nat.lt_of_lt_of_le h (Nat.pow_le_pow_right (by omega) (by omega)))
    omega
theorem Fit.small {k : Nat} {z : Int} (h : Fit k z) (hk : k ≤ 9000) : SmallI z := small_pow _ k h hk
theorem Fit.small2 {k : Nat} {z : Int} (h : Fit k z) (hk : k ≤ 8999) : Small (2 * z.natAbs) := by
  refine small_pow _ (k + 1) ?_ (by omega)
  unfold Fit at h
  rw [Nat.pow_succ]
  omega
theorem Fit.blen {k : Nat} {z : Int} (h : Fit k z) : Dig.blen z.natAbs ≤ k := Dig.blen_le _ _ h
theorem fit_of (k : Nat) (z : Int) (h1 : -(2 ^ k : Int) < z) (h2 : z < (2 ^ k : Int)) : Fit k z := by
  unfold Fit
  have e : ((2 ^ k : Nat) : Int) = (2 : Int) ^ k := by simp
  omega
end Go.Proofs.Ytbmocnigmpmfkaa
