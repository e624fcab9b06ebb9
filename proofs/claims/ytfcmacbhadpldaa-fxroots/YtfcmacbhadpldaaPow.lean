/- The reference's whole numbers with a sign: Len, Pow. -/
import Derived.Test.YtfcmacbhadpldaaRight
namespace Go.Proofs.Ytfcmacbhadpldaa
open Go.RowKit

theorem fit_pow {k : Nat} {x : Int} (f : Fit k x) : ∀ t : Nat, Fit (k * t + 1) (x ^ t) := by
  intro t
  induction t with
  | zero => rw [Int.pow_zero]; exact fit_one _ (by omega)
  | succ t ih =>
    rw [Int.pow_succ]
    exact (ih.mul f).le (by rw [Nat.mul_succ]; omega)

set_option maxHeartbeats 1000000 in
theorem len_isI (x : Int) (r : Value) (w : World) (h : IsI w r x) (hs : SmallI x) :
    Calls Try.prog 71 #[r] w fun e w' => e = .returned (.int .i64 (Dig.blen x.natAbs : Int)) ∧ Ext w w' := by
  obtain ⟨u, rfl, hu⟩ := h
  have HL : Hid (∀ w', Ext w w' → Calls Try.prog 89 #[u] w' fun e w'' => e = .returned (.int .i64 (Dig.blen x.natAbs : Int)) ∧ w'' = w') := fun w' hx => nlen_any _ u w' (hu.ext hx) hs
  obtain ⟨a, l, c, rfl⟩ := hu.isSlice
  clear hu hs
  generalize decide (x < 0) = b at *
  generalize Dig.blen x.natAbs = B at *
  go_enter Try.func71, Try.ntmps71
  go_wp2_with fail
  refine (HL.out _ ((Ext.refl _).alloc _)).mono ?_
  rintro e w1 ⟨rfl, hw⟩
  have hw' := hw.symm
  clear hw
  subst hw'
  go_wp2_with fail
  go_ret
  exact ⟨rfl, (Ext.refl _).alloc _⟩

structure PowRel (w wr : World) (p g : Nat) (u v : Value) (z : Int) (ug : Value) (vg : Value) : Prop where
  a : Has wr p u v
  b : Has wr (p + 1) (.bool false) (.slice none 0 0)
  g : Has wr g ug vg
  i : IsI wr (.agg #[ug, vg]) z
  x : Ext w wr

set_option maxHeartbeats 4000000 in
theorem pow_isI (x : Int) (n k : Nat) (r : Value) (w : World) (h : IsI w r x) (hn : n ≤ 100) (f : Fit k x) (hk : k * n + 1 ≤ 4000) (hk2 : k ≤ 4000) :
    Calls Try.prog 72 #[r, .int .i64 (n : Int)] w fun e w' => (∃ r', e = .returned r' ∧ IsI w' r' (x ^ n)) ∧ Ext w w' := by
  obtain ⟨u, rfl, hu⟩ := h
  have HO : Hid (∀ w', Calls Try.prog 32 #[.int .i64 1] w' fun e w'' => (∃ r, e = .returned r ∧ IsI w'' r 1) ∧ Ext w' w'') := fun w' => from_any 1 w' (by omega) (by omega)
  have HT : Hid (∀ t q w', t < n → IsI w' q (x ^ t) → IsN w' u x.natAbs → Calls Try.prog 31 #[q, .agg #[.bool (decide (x < 0)), u]] w' fun e w'' => (∃ r', e = .returned r' ∧ IsI w'' r' (x ^ (t + 1))) ∧ Ext w' w'') := fun t q w' ht hq hu' => by
    have hle : k * (t + 1) + 1 ≤ 4000 := Nat.le_trans (Nat.add_le_add_right (Nat.mul_le_mul_left k (show t + 1 ≤ n by omega)) 1) hk
    have hle0 : k * t + 1 ≤ 4000 := Nat.le_trans (Nat.add_le_add_right (Nat.mul_le_mul_left k (show t ≤ n by omega)) 1) hk
    have h := times_isI (x ^ t) x q _ w' hq ⟨u, rfl, hu'⟩ ((fit_pow f t).small (by omega)) (f.small (by omega)) (by rw [← Int.pow_succ]; exact (fit_pow f (t + 1)).small (by omega))
    rw [← Int.pow_succ] at h
    exact h
  have HU : Hid (IsN w u x.natAbs) := hu
  obtain ⟨a1, l1, c1, rfl⟩ := hu.isSlice
  clear hu f hk hk2
  generalize decide (x < 0) = b at *
  generalize x.natAbs = X at *
  have XS : Hid (Ext w ((w.alloc (.cells #[.bool b, .slice a1 l1 c1] 44)).alloc (.cells #[.bool false, .slice none 0 0] 44))) := ((Ext.refl w).alloc _).alloc _
  have LA : Hid (Has ((w.alloc (.cells #[.bool b, .slice a1 l1 c1] 44)).alloc (.cells #[.bool false, .slice none 0 0] 44)) w.heap.size (.bool b) (.slice a1 l1 c1)) := by constructor <;> simp [go_sem]
  have LB : Hid (Has ((w.alloc (.cells #[.bool b, .slice a1 l1 c1] 44)).alloc (.cells #[.bool false, .slice none 0 0] 44)) (w.heap.size + 1) (.bool false) (.slice none 0 0)) := by constructor <;> simp [go_sem]
  go_enter Try.func72, Try.ntmps72
  go_wp2_with fail
  generalize (w.alloc (.cells #[.bool b, .slice a1 l1 c1] 44)).alloc (.cells #[.bool false, .slice none 0 0] 44) = W at *
  refine (HO.out _).mono ?_
  rintro e w1 ⟨⟨r1, rfl, hr1⟩, x1⟩
  obtain ⟨u1, hu1, k1⟩ := hr1
  obtain ⟨ax, lx, cx, ex⟩ := k1.isSlice
  subst ex
  subst hu1
  have hpg : w.heap.size + 1 < w1.heap.size := Nat.lt_of_lt_of_le LB.out.lt x1.size
  have S0 : Hid (PowRel w (w1.alloc (.cells #[.bool false, .slice ax lx cx] 44)) w.heap.size w1.heap.size (.bool b) (.slice a1 l1 c1) (x ^ 0) (.bool false) (.slice ax lx cx)) := by
    refine ⟨(LA.out.ext x1).ext ((Ext.refl _).alloc _), (LB.out.ext x1).ext ((Ext.refl _).alloc _), by constructor <;> simp [go_sem], ?_, (XS.out.trans x1).alloc _⟩
    rw [Int.pow_zero]
    exact ⟨_, rfl, k1.ext ((Ext.refl _).alloc _)⟩
  clear LA LB XS x1 k1 HO
  go_wp2_with fail
  generalize w1.alloc (.cells #[.bool (decide ((1 : Int) < 0)), .slice ax lx cx] 44) = W1 at *
  generalize w1.heap.size = gx at *
  go_loopw [6] (fun i wr => ∃ (t : Nat) (d : Bool) (a : Option Addr) (l c : Nat), t ≤ n ∧ i = .int .i64 (t : Int) ∧ Hid (PowRel w wr w.heap.size gx (.bool b) (.slice a1 l1 c1) (x ^ t) (.bool d) (.slice a l c))) (fun i _ => n - (intOf i).toNat)
  case atStart => exact ⟨0, _, _, _, _, Nat.zero_le _, rfl, S0⟩
  case round =>
    obtain ⟨t, d, a, l, c, ht, rfl, hR⟩ := hrel
    obtain ⟨⟨p0, p1, p2, p3⟩, ⟨p4, p5, p6, p7⟩, ⟨p8, p9, p10, p11⟩, _, _⟩ := hR.out
    by_cases hlt : t < n
    · have hlt' : (t : Int) < (n : Int) := by omega
      go_wp2_with fail
      refine (HT.out t _ _ hlt hR.out.i (HU.out.ext hR.out.x)).mono ?_
      rintro e w2 ⟨⟨r2, rfl, hr2⟩, x2⟩
      obtain ⟨u2, hu2, k2⟩ := hr2
      obtain ⟨a2, l2, c2, e2⟩ := k2.isSlice
      subst e2
      subst hu2
      have R2 : Hid (PowRel w ((w2.setCell ⟨gx, 0, none⟩ (.bool (decide (x ^ (t + 1) < 0)))).setCell ⟨gx, 1, none⟩ (.slice a2 l2 c2)) w.heap.size gx (.bool b) (.slice a1 l1 c1) (x ^ (t + 1)) (.bool (decide (x ^ (t + 1) < 0))) (.slice a2 l2 c2)) := by
        obtain ⟨A, B, C, I, X⟩ := hR.out
        have C2 := C.ext x2
        exact ⟨(A.ext x2).far (by omega), (B.ext x2).far (by omega), C2.here, IsI.set2 ⟨_, rfl, k2⟩ C2.c0 C2.c1, ((X.trans x2).setCell (by omega) _).setCell (by omega) _⟩
      obtain ⟨q8, q9, q10, q11⟩ := hR.out.g.ext x2
      clear k2 x2 p0 p1 p2 p3 p4 p5 p6 p7 p8 p9 p10 p11 hR
      generalize decide (x ^ (t + 1) < 0) = d2 at *
      go_wp2_with fail
      go_roundw
      case rel => exact ⟨t + 1, _, _, _, _, by omega, by go_num, R2⟩
      case measure => simp [intOf]; omega
    · have hlt' : ¬ (t : Int) < (n : Int) := by omega
      obtain rfl : t = n := by omega
      have HI : Hid (IsI wr (.agg #[.bool d, .slice a l c]) (x ^ t)) := hR.out.i
      have X9 : Hid (Ext w wr) := hR.out.x
      go_wp2_with fail
      exact bodyPost_ret (v := .agg #[.bool d, .slice a l c]) (by simp [results, Try.results72, go_sem, p4, p5]) rfl ⟨⟨_, rfl, HI.out.set2 p4 p5⟩, (X9.out.setCell (show w.heap.size ≤ w.heap.size + 1 by omega) _).setCell (show w.heap.size ≤ w.heap.size + 1 by omega) _⟩
end Go.Proofs.Ytfcmacbhadpldaa
