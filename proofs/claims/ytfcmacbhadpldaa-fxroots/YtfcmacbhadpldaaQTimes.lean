/- The reference's rational numbers: Times. -/
import Derived.Test.YtfcmacbhadpldaaDen
namespace Go.Proofs.Ytfcmacbhadpldaa
open Go.RowKit

structure LaidT3 (p : Nat) (W : World) (u1 v1 x1 u2 v2 x2 : Value) : Prop where
  a : Has3 W p u1 v1 x1
  b : Has3 W (p + 1) u2 v2 x2
  c : Has3 W (p + 1 + 1) (.bool false) (.slice none 0 0) (.slice none 0 0)
theorem LaidT3.ext {p : Nat} {W W' : World} {u1 v1 x1 u2 v2 x2 : Value} (h : LaidT3 p W u1 v1 x1 u2 v2 x2) (hx : Ext W W') : LaidT3 p W' u1 v1 x1 u2 v2 x2 := ⟨h.a.ext hx, h.b.ext hx, h.c.ext hx⟩

set_option maxHeartbeats 4000000 in
theorem qtimes_any (m n : Int) (d e k : Nat) (v1 v2 : Value) (w : World) (h1 : IsQ w v1 m d) (h2 : IsQ w v2 n e) (hk : k ≤ 2000) (hd : d ≠ 0) (he : e ≠ 0) (f1 : Fit k m) (f2 : Fit k n) (f3 : Fit k (d : Int)) (f4 : Fit k (e : Int)) :
    Calls Try.prog 75 #[v1, v2] w fun e' w' => (∃ q, e' = .returned q ∧ IsQ w' q (m * n / (Nat.gcd (m * n).natAbs (d * e) : Int)) (d * e / Nat.gcd (m * n).natAbs (d * e))) ∧ Ext w w' := by
  have sd : Small d := by have := f3.small (by omega); unfold SmallI at this; rwa [Int.natAbs_natCast] at this
  have se : Small e := by have := f4.small (by omega); unfold SmallI at this; rwa [Int.natAbs_natCast] at this
  obtain ⟨u1, u2, rfl, k1, k2⟩ := h1
  obtain ⟨u3, u4, rfl, k3, k4⟩ := h2
  have HT : Hid (∀ w', Ext w w' → Calls Try.prog 31 #[.agg #[.bool (decide (m < 0)), u1], .agg #[.bool (decide (n < 0)), u3]] w' fun e' w'' => (∃ r', e' = .returned r' ∧ IsI w'' r' (m * n)) ∧ Ext w' w'') := fun w' hx => times_isI m n _ _ w' ⟨u1, rfl, k1.ext hx⟩ ⟨u3, rfl, k3.ext hx⟩ (f1.small (by omega)) (f2.small (by omega)) ((f1.mul f2).small (by omega))
  have HN : Hid (∀ w', Ext w w' → Calls Try.prog 57 #[u2, u4] w' fun e' w'' => (∃ r', e' = .returned r' ∧ IsN w'' r' (d * e)) ∧ Ext w' w'') := fun w' hx => ntimes_any d e u2 u4 w' (k2.ext hx) (k4.ext hx) sd se
  have HM : Hid (∀ r u w', IsI w' r (m * n) → IsN w' u (d * e) → Calls Try.prog 65 #[r, u] w' fun e' w'' => (∃ q, e' = .returned q ∧ IsQ w'' q (m * n / (Nat.gcd (m * n).natAbs (d * e) : Int)) (d * e / Nat.gcd (m * n).natAbs (d * e))) ∧ Ext w' w'') := fun r u w' hr hu => make_isQ (m * n) (d * e) (k + k) r u w' hr hu (Nat.mul_ne_zero hd he) (by omega) (f1.mul f2) (by rw [Int.natCast_mul]; exact f3.mul f4)
  obtain ⟨a1, l1, c1, rfl⟩ := k1.isSlice
  obtain ⟨a2, l2, c2, rfl⟩ := k2.isSlice
  obtain ⟨a3, l3, c3, rfl⟩ := k3.isSlice
  obtain ⟨a4, l4, c4, rfl⟩ := k4.isSlice
  clear k1 k2 k3 k4 f1 f2 f3 f4 sd se
  generalize decide (m < 0) = b1 at *
  generalize decide (n < 0) = b2 at *
  generalize m * n / (Nat.gcd (m * n).natAbs (d * e) : Int) = N1 at *
  generalize d * e / Nat.gcd (m * n).natAbs (d * e) = D1 at *
  generalize m * n = P1 at *
  generalize d * e = P2 at *
  have XS : Hid (Ext w (((w.alloc (.cells #[.bool b1, .slice a1 l1 c1, .slice a2 l2 c2] 56)).alloc (.cells #[.bool b2, .slice a3 l3 c3, .slice a4 l4 c4] 56)).alloc (.cells #[.bool false, .slice none 0 0, .slice none 0 0] 56))) := (((Ext.refl w).alloc _).alloc _).alloc _
  have LS : Hid (LaidT3 w.heap.size (((w.alloc (.cells #[.bool b1, .slice a1 l1 c1, .slice a2 l2 c2] 56)).alloc (.cells #[.bool b2, .slice a3 l3 c3, .slice a4 l4 c4] 56)).alloc (.cells #[.bool false, .slice none 0 0, .slice none 0 0] 56)) (.bool b1) (.slice a1 l1 c1) (.slice a2 l2 c2) (.bool b2) (.slice a3 l3 c3) (.slice a4 l4 c4)) := by constructor <;> constructor <;> simp [go_sem]
  go_enter Try.func75, Try.ntmps75
  go_wp2_with fail
  generalize ((w.alloc (.cells #[.bool b1, .slice a1 l1 c1, .slice a2 l2 c2] 56)).alloc (.cells #[.bool b2, .slice a3 l3 c3, .slice a4 l4 c4] 56)).alloc (.cells #[.bool false, .slice none 0 0, .slice none 0 0] 56) = W at *
  obtain ⟨⟨p0, p1, p2, p3, p4, p5⟩, ⟨q0, q1, q2, q3, q4, q5⟩, _⟩ := LS.out
  have n1 : w.heap.size ≠ w.heap.size + 1 + 1 := by omega
  have n2 : w.heap.size + 1 ≠ w.heap.size + 1 + 1 := by omega
  go_region_held (fun w' => w'.cell? ⟨w.heap.size, 0, none⟩ = some (.bool b1) ∧ w'.cell? ⟨w.heap.size, 1, none⟩ = some (.slice a1 l1 c1) ∧ w'.cell? ⟨w.heap.size, 2, none⟩ = some (.slice a2 l2 c2) ∧ w'.cell? ⟨w.heap.size + 1, 0, none⟩ = some (.bool b2) ∧ w'.cell? ⟨w.heap.size + 1, 1, none⟩ = some (.slice a3 l3 c3) ∧ w'.cell? ⟨w.heap.size + 1, 2, none⟩ = some (.slice a4 l4 c4)) (first | (go_keep; done) | (simp only [far3 _ _ _ _ _ _ n1, far3 _ _ _ _ _ _ n2]; exact ⟨by assumption, by assumption, by assumption, by assumption, by assumption, by assumption⟩)) (first | (go_at_call 31; refine (HT.out _ (XS.out.drew)).mono ?_; rintro e w1 ⟨⟨r1, rfl, hr1⟩, x1⟩; obtain ⟨⟨s0, s1, s2, s3, s4, s5⟩, ⟨s6, s7, s8, s9, s10, s11⟩, _⟩ := LS.out.ext (cell_drew x1)) | (go_at_call 57; refine (HN.out _ (XS.out.trans (cell_drew x1))).mono ?_; rintro e w2 ⟨⟨r2, rfl, hr2⟩, x2⟩; obtain ⟨⟨t0, t1, t2, t3, t4, t5⟩, ⟨t6, t7, t8, t9, t10, t11⟩, _⟩ := LS.out.ext ((cell_drew x1).trans x2)) | (go_at_call 65; refine (HM.out _ _ _ (hr1.ext x2) hr2).mono ?_; rintro e w3 ⟨⟨r3, rfl, hr3⟩, x3⟩; obtain ⟨⟨v0, v1, v2, v3, v4, v5⟩, ⟨v6, v7, v8, v9, v10, v11⟩, ⟨z0, z1, z2, z3, z4, z5⟩⟩ := LS.out.ext (((cell_drew x1).trans x2).trans x3); obtain ⟨y1, y2, hy, hy1, hy2⟩ := hr3; obtain ⟨an, ln, cn, en⟩ := hy1.isSlice; obtain ⟨ad, ld, cd, ed⟩ := hy2.isSlice; subst en ed; subst hy))
  have X9 : Hid (Ext w w3) := XS.out.trans (((cell_drew x1).trans x2).trans x3)
  have HQ : Hid (IsQ w3 (.agg #[.bool (decide (N1 < 0)), .slice an ln cn, .slice ad ld cd]) N1 D1) := ⟨_, _, rfl, hy1, hy2⟩
  go_wp2_with fail
  exact bodyPost_ret (v := .agg #[.bool (decide (N1 < 0)), .slice an ln cn, .slice ad ld cd]) (by simp [results, Try.results75, go_sem, z0, z1, z2]) rfl
    ⟨⟨_, rfl, HQ.out.set3 z0 z1 z2⟩, ((X9.out.setCell (show w.heap.size ≤ w.heap.size + 1 + 1 by omega) _).setCell (show w.heap.size ≤ w.heap.size + 1 + 1 by omega) _).setCell (show w.heap.size ≤ w.heap.size + 1 + 1 by omega) _⟩
end Go.Proofs.Ytfcmacbhadpldaa
