/- The reference's rational numbers: Times. The reference's whole numbers with a sign: Len, Pow. -/
import Derived.Test.YtojcndgoihkfnaaMg43
import Derived.Test.YtojcndgoihkfnaaRightm
namespace Go.Proofs.Ytojcndgoihkfnaa
open Go.RowKit

structure LaidT3 (p : Nat) (W : World) (u1 v1 x1 u2 v2 x2 : Value) : Prop where
  a : Has3 W p u1 v1 x1
  b : Has3 W (p + 1) u2 v2 x2
  c : Has3 W (p + 1 + 1) (.bool false) (.slice none 0 0) (.slice none 0 0)
theorem LaidT3.ext {p : Nat} {W W' : World} {u1 v1 x1 u2 v2 x2 : Value} (h : LaidT3 p W u1 v1 x1 u2 v2 x2) (hx : Ext W W') : LaidT3 p W' u1 v1 x1 u2 v2 x2 := ⟨h.a.ext hx, h.b.ext hx, h.c.ext hx⟩

set_option maxHeartbeats 4000000 in
theorem qtimes_any (m n : Int) (d e k : Nat) (v1 v2 : Value) (w : World) (h1 : IsQ w v1 m d) (h2 : IsQ w v2 n e) (hk : k ≤ 2000) (hd : d ≠ 0) (he : e ≠ 0) (f1 : Fit k m) (f2 : Fit k n) (f3 : Fit k (d : Int)) (f4 : Fit k (e : Int)) :
    Calls Try.prog 65 #[v1, v2] w fun e' w' => (∃ q, e' = .returned q ∧ IsQ w' q (m * n / (Nat.gcd (m * n).natAbs (d * e) : Int)) (d * e / Nat.gcd (m * n).natAbs (d * e))) ∧ Ext w w' := by
  have sd : Small d := by have := f3.small (by omega); unfold SmallI at this; rwa [Int.natAbs_natCast] at this
  have se : Small e := by have := f4.small (by omega); unfold SmallI at this; rwa [Int.natAbs_natCast] at this
  obtain ⟨u1, u2, rfl, k1, k2⟩ := h1
  obtain ⟨u3, u4, rfl, k3, k4⟩ := h2
  have HT : Hid (∀ w', Ext w w' → Calls Try.prog 46 #[.agg #[.bool (decide (m < 0)), u1], .agg #[.bool (decide (n < 0)), u3]] w' fun e' w'' => (∃ r', e' = .returned r' ∧ IsI w'' r' (m * n)) ∧ Ext w' w'') := fun w' hx => times_isI m n _ _ w' ⟨u1, rfl, k1.ext hx⟩ ⟨u3, rfl, k3.ext hx⟩ (f1.small (by omega)) (f2.small (by omega)) ((f1.mul f2).small (by omega))
  have HN : Hid (∀ w', Ext w w' → Calls Try.prog 71 #[u2, u4] w' fun e' w'' => (∃ r', e' = .returned r' ∧ IsN w'' r' (d * e)) ∧ Ext w' w'') := fun w' hx => ntimes_any d e u2 u4 w' (k2.ext hx) (k4.ext hx) sd se
  have HM : Hid (∀ r u w', IsI w' r (m * n) → IsN w' u (d * e) → Calls Try.prog 45 #[r, u] w' fun e' w'' => (∃ q, e' = .returned q ∧ IsQ w'' q (m * n / (Nat.gcd (m * n).natAbs (d * e) : Int)) (d * e / Nat.gcd (m * n).natAbs (d * e))) ∧ Ext w' w'') := fun r u w' hr hu => make_isQ (m * n) (d * e) (k + k) r u w' hr hu (Nat.mul_ne_zero hd he) (by omega) (f1.mul f2) (by rw [Int.natCast_mul]; exact f3.mul f4)
  obtain ⟨a1, l1, c1, rfl⟩ := k1.isSlice
  obtain ⟨a2, l2, c2, rfl⟩ := k2.isSlice
  obtain ⟨a3, l3, c3, rfl⟩ := k3.isSlice
  obtain ⟨a4, l4, c4, rfl⟩ := k4.isSlice
  clear k1 k2 k3 k4 f1 f2 f3 f4 sd se
  generalize decide (m < 0) = b1 at *
  generalize decide (n < 0) = b2 at *
  generalize m * n / (Nat.gcd (m * n).natAbs (d * e) : Int) = N1 at *
  generalize d * e / Nat.gcd (m * n).natAbs (d * e) = D1 at *
  generalize m * n = P1 at *
  generalize d * e = P2 at *
  have XS : Hid (Ext w (((w.alloc (.cells #[.bool b1, .slice a1 l1 c1, .slice a2 l2 c2] 87)).alloc (.cells #[.bool b2, .slice a3 l3 c3, .slice a4 l4 c4] 87)).alloc (.cells #[.bool false, .slice none 0 0, .slice none 0 0] 87))) := (((Ext.refl w).alloc _).alloc _).alloc _
  have LS : Hid (LaidT3 w.heap.size (((w.alloc (.cells #[.bool b1, .slice a1 l1 c1, .slice a2 l2 c2] 87)).alloc (.cells #[.bool b2, .slice a3 l3 c3, .slice a4 l4 c4] 87)).alloc (.cells #[.bool false, .slice none 0 0, .slice none 0 0] 87)) (.bool b1) (.slice a1 l1 c1) (.slice a2 l2 c2) (.bool b2) (.slice a3 l3 c3) (.slice a4 l4 c4)) := by constructor <;> constructor <;> simp [go_sem]
  go_enter Try.func65, Try.ntmps65
  go_wp2_with fail
  generalize ((w.alloc (.cells #[.bool b1, .slice a1 l1 c1, .slice a2 l2 c2] 87)).alloc (.cells #[.bool b2, .slice a3 l3 c3, .slice a4 l4 c4] 87)).alloc (.cells #[.bool false, .slice none 0 0, .slice none 0 0] 87) = W at *
  obtain ⟨⟨p0, p1, p2, p3, p4, p5⟩, ⟨q0, q1, q2, q3, q4, q5⟩, _⟩ := LS.out
  have n1 : w.heap.size ≠ w.heap.size + 1 + 1 := by omega
  have n2 : w.heap.size + 1 ≠ w.heap.size + 1 + 1 := by omega
  go_region_held (fun w' => w'.cell? ⟨w.heap.size, 0, none⟩ = some (.bool b1) ∧ w'.cell? ⟨w.heap.size, 1, none⟩ = some (.slice a1 l1 c1) ∧ w'.cell? ⟨w.heap.size, 2, none⟩ = some (.slice a2 l2 c2) ∧ w'.cell? ⟨w.heap.size + 1, 0, none⟩ = some (.bool b2) ∧ w'.cell? ⟨w.heap.size + 1, 1, none⟩ = some (.slice a3 l3 c3) ∧ w'.cell? ⟨w.heap.size + 1, 2, none⟩ = some (.slice a4 l4 c4)) (first | (go_keep; done) | (simp only [far3 _ _ _ _ _ _ n1, far3 _ _ _ _ _ _ n2]; exact ⟨by assumption, by assumption, by assumption, by assumption, by assumption, by assumption⟩)) (first | (go_at_call 46; refine (HT.out _ (XS.out.drew)).mono ?_; rintro e w1 ⟨⟨r1, rfl, hr1⟩, x1⟩; obtain ⟨⟨s0, s1, s2, s3, s4, s5⟩, ⟨s6, s7, s8, s9, s10, s11⟩, _⟩ := LS.out.ext (cell_drew x1)) | (go_at_call 71; refine (HN.out _ (XS.out.trans (cell_drew x1))).mono ?_; rintro e w2 ⟨⟨r2, rfl, hr2⟩, x2⟩; obtain ⟨⟨t0, t1, t2, t3, t4, t5⟩, ⟨t6, t7, t8, t9, t10, t11⟩, _⟩ := LS.out.ext ((cell_drew x1).trans x2)) | (go_at_call 45; refine (HM.out _ _ _ (hr1.ext x2) hr2).mono ?_; rintro e w3 ⟨⟨r3, rfl, hr3⟩, x3⟩; obtain ⟨⟨v0, v1, v2, v3, v4, v5⟩, ⟨v6, v7, v8, v9, v10, v11⟩, ⟨z0, z1, z2, z3, z4, z5⟩⟩ := LS.out.ext (((cell_drew x1).trans x2).trans x3); obtain ⟨y1, y2, hy, hy1, hy2⟩ := hr3; obtain ⟨an, ln, cn, en⟩ := hy1.isSlice; obtain ⟨ad, ld, cd, ed⟩ := hy2.isSlice; subst en ed; subst hy))
  have X9 : Hid (Ext w w3) := XS.out.trans (((cell_drew x1).trans x2).trans x3)
  have HQ : Hid (IsQ w3 (.agg #[.bool (decide (N1 < 0)), .slice an ln cn, .slice ad ld cd]) N1 D1) := ⟨_, _, rfl, hy1, hy2⟩
  go_wp2_with fail
  exact bodyPost_ret (v := .agg #[.bool (decide (N1 < 0)), .slice an ln cn, .slice ad ld cd]) (by simp [results, Try.results65, go_sem, z0, z1, z2]) rfl
    ⟨⟨_, rfl, HQ.out.set3 z0 z1 z2⟩, ((X9.out.setCell (show w.heap.size ≤ w.heap.size + 1 + 1 by omega) _).setCell (show w.heap.size ≤ w.heap.size + 1 + 1 by omega) _).setCell (show w.heap.size ≤ w.heap.size + 1 + 1 by omega) _⟩
end Go.Proofs.Ytojcndgoihkfnaa

namespace Go.Proofs.Ytojcndgoihkfnaa
open Go.RowKit

theorem fit_pow {k : Nat} {x : Int} (f : Fit k x) : ∀ t : Nat, Fit (k * t + 1) (x ^ t) := by
  intro t
  induction t with
  | zero => rw [Int.pow_zero]; exact fit_one _ (by omega)
  | succ t ih =>
    rw [Int.pow_succ]
    exact (ih.mul f).le (by rw [Nat.mul_succ]; omega)

set_option maxHeartbeats 1000000 in
theorem len_isI (x : Int) (r : Value) (w : World) (h : IsI w r x) (hs : SmallI x) :
    Calls Try.prog 86 #[r] w fun e w' => e = .returned (.int .i64 (Dig.blen x.natAbs : Int)) ∧ Ext w w' := by
  obtain ⟨u, rfl, hu⟩ := h
  have HL : Hid (∀ w', Ext w w' → Calls Try.prog 98 #[u] w' fun e w'' => e = .returned (.int .i64 (Dig.blen x.natAbs : Int)) ∧ w'' = w') := fun w' hx => nlen_any _ u w' (hu.ext hx) hs
  obtain ⟨a, l, c, rfl⟩ := hu.isSlice
  clear hu hs
  generalize decide (x < 0) = b at *
  generalize Dig.blen x.natAbs = B at *
  go_enter Try.func86, Try.ntmps86
  go_wp2_with fail
  refine (HL.out _ ((Ext.refl _).alloc _)).mono ?_
  rintro e w1 ⟨rfl, hw⟩
  have hw' := hw.symm
  clear hw
  subst hw'
  go_wp2_with fail
  go_ret
  exact ⟨rfl, (Ext.refl _).alloc _⟩

structure PowRel (w wr : World) (p g : Nat) (u v : Value) (z : Int) (ug : Value) (vg : Value) : Prop where
  a : Has wr p u v
  b : Has wr (p + 1) (.bool false) (.slice none 0 0)
  g : Has wr g ug vg
  i : IsI wr (.agg #[ug, vg]) z
  x : Ext w wr

set_option maxHeartbeats 4000000 in
theorem pow_isI (x : Int) (n k : Nat) (r : Value) (w : World) (h : IsI w r x) (hn : n ≤ 100) (f : Fit k x) (hk : k * n + 1 ≤ 4000) (hk2 : k ≤ 4000) :
    Calls Try.prog 87 #[r, .int .i64 (n : Int)] w fun e w' => (∃ r', e = .returned r' ∧ IsI w' r' (x ^ n)) ∧ Ext w w' := by
  obtain ⟨u, rfl, hu⟩ := h
  have HO : Hid (∀ w', Calls Try.prog 51 #[.int .i64 1] w' fun e w'' => (∃ r, e = .returned r ∧ IsI w'' r 1) ∧ Ext w' w'') := fun w' => from_any 1 w' (by omega) (by omega)
  have HT : Hid (∀ t q w', t < n → IsI w' q (x ^ t) → IsN w' u x.natAbs → Calls Try.prog 46 #[q, .agg #[.bool (decide (x < 0)), u]] w' fun e w'' => (∃ r', e = .returned r' ∧ IsI w'' r' (x ^ (t + 1))) ∧ Ext w' w'') := fun t q w' ht hq hu' => by
    have hle : k * (t + 1) + 1 ≤ 4000 := Nat.le_trans (Nat.add_le_add_right (Nat.mul_le_mul_left k (show t + 1 ≤ n by omega)) 1) hk
    have hle0 : k * t + 1 ≤ 4000 := Nat.le_trans (Nat.add_le_add_right (Nat.mul_le_mul_left k (show t ≤ n by omega)) 1) hk
    have h := times_isI (x ^ t) x q _ w' hq ⟨u, rfl, hu'⟩ ((fit_pow f t).small (by omega)) (f.small (by omega)) (by rw [← Int.pow_succ]; exact (fit_pow f (t + 1)).small (by omega))
    rw [← Int.pow_succ] at h
    exact h
  have HU : Hid (IsN w u x.natAbs) := hu
  obtain ⟨a1, l1, c1, rfl⟩ := hu.isSlice
  clear hu f hk hk2
  generalize decide (x < 0) = b at *
  generalize x.natAbs = X at *
  have XS : Hid (Ext w ((w.alloc (.cells #[.bool b, .slice a1 l1 c1] 72)).alloc (.cells #[.bool false, .slice none 0 0] 72))) := ((Ext.refl w).alloc _).alloc _
  have LA : Hid (Has ((w.alloc (.cells #[.bool b, .slice a1 l1 c1] 72)).alloc (.cells #[.bool false, .slice none 0 0] 72)) w.heap.size (.bool b) (.slice a1 l1 c1)) := by constructor <;> simp [go_sem]
  have LB : Hid (Has ((w.alloc (.cells #[.bool b, .slice a1 l1 c1] 72)).alloc (.cells #[.bool false, .slice none 0 0] 72)) (w.heap.size + 1) (.bool false) (.slice none 0 0)) := by constructor <;> simp [go_sem]
  go_enter Try.func87, Try.ntmps87
  go_wp2_with fail
  generalize (w.alloc (.cells #[.bool b, .slice a1 l1 c1] 72)).alloc (.cells #[.bool false, .slice none 0 0] 72) = W at *
  refine (HO.out _).mono ?_
  rintro e w1 ⟨⟨r1, rfl, hr1⟩, x1⟩
  obtain ⟨u1, hu1, k1⟩ := hr1
  obtain ⟨ax, lx, cx, ex⟩ := k1.isSlice
  subst ex
  subst hu1
  have hpg : w.heap.size + 1 < w1.heap.size := Nat.lt_of_lt_of_le LB.out.lt x1.size
  have S0 : Hid (PowRel w (w1.alloc (.cells #[.bool false, .slice ax lx cx] 72)) w.heap.size w1.heap.size (.bool b) (.slice a1 l1 c1) (x ^ 0) (.bool false) (.slice ax lx cx)) := by
    refine ⟨(LA.out.ext x1).ext ((Ext.refl _).alloc _), (LB.out.ext x1).ext ((Ext.refl _).alloc _), by constructor <;> simp [go_sem], ?_, (XS.out.trans x1).alloc _⟩
    rw [Int.pow_zero]
    exact ⟨_, rfl, k1.ext ((Ext.refl _).alloc _)⟩
  clear LA LB XS x1 k1 HO
  go_wp2_with fail
  generalize w1.alloc (.cells #[.bool (decide ((1 : Int) < 0)), .slice ax lx cx] 72) = W1 at *
  generalize w1.heap.size = gx at *
  go_loopw [6] (fun i wr => ∃ (t : Nat) (d : Bool) (a : Option Addr) (l c : Nat), t ≤ n ∧ i = .int .i64 (t : Int) ∧ Hid (PowRel w wr w.heap.size gx (.bool b) (.slice a1 l1 c1) (x ^ t) (.bool d) (.slice a l c))) (fun i _ => n - (intOf i).toNat)
  case atStart => exact ⟨0, _, _, _, _, Nat.zero_le _, rfl, S0⟩
  case round =>
    obtain ⟨t, d, a, l, c, ht, rfl, hR⟩ := hrel
    obtain ⟨⟨p0, p1, p2, p3⟩, ⟨p4, p5, p6, p7⟩, ⟨p8, p9, p10, p11⟩, _, _⟩ := hR.out
    by_cases hlt : t < n
    · have hlt' : (t : Int) < (n : Int) := by omega
      go_wp2_with fail
      refine (HT.out t _ _ hlt hR.out.i (HU.out.ext hR.out.x)).mono ?_
      rintro e w2 ⟨⟨r2, rfl, hr2⟩, x2⟩
      obtain ⟨u2, hu2, k2⟩ := hr2
      obtain ⟨a2, l2, c2, e2⟩ := k2.isSlice
      subst e2
      subst hu2
      have R2 : Hid (PowRel w ((w2.setCell ⟨gx, 0, none⟩ (.bool (decide (x ^ (t + 1) < 0)))).setCell ⟨gx, 1, none⟩ (.slice a2 l2 c2)) w.heap.size gx (.bool b) (.slice a1 l1 c1) (x ^ (t + 1)) (.bool (decide (x ^ (t + 1) < 0))) (.slice a2 l2 c2)) := by
        obtain ⟨A, B, C, I, X⟩ := hR.out
        have C2 := C.ext x2
        exact ⟨(A.ext x2).far (by omega), (B.ext x2).far (by omega), C2.here, IsI.set2 ⟨_, rfl, k2⟩ C2.c0 C2.c1, ((X.trans x2).setCell (by omega) _).setCell (by omega) _⟩
      obtain ⟨q8, q9, q10, q11⟩ := hR.out.g.ext x2
      clear k2 x2 p0 p1 p2 p3 p4 p5 p6 p7 p8 p9 p10 p11 hR
      generalize decide (x ^ (t + 1) < 0) = d2 at *
      go_wp2_with fail
      go_roundw
      case rel => exact ⟨t + 1, _, _, _, _, by omega, by go_num, R2⟩
      case measure => simp [intOf]; omega
    · have hlt' : ¬ (t : Int) < (n : Int) := by omega
      obtain rfl : t = n := by omega
      have HI : Hid (IsI wr (.agg #[.bool d, .slice a l c]) (x ^ t)) := hR.out.i
      have X9 : Hid (Ext w wr) := hR.out.x
      go_wp2_with fail
      exact bodyPost_ret (v := .agg #[.bool d, .slice a l c]) (by simp [results, Try.results87, go_sem, p4, p5]) rfl ⟨⟨_, rfl, HI.out.set2 p4 p5⟩, (X9.out.setCell (show w.heap.size ≤ w.heap.size + 1 by omega) _).setCell (show w.heap.size ≤ w.heap.size + 1 by omega) _⟩
end Go.Proofs.Ytojcndgoihkfnaa
