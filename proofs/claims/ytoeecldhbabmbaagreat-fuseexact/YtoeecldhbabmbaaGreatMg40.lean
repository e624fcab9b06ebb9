/- The reference's rational numbers: Floor. The reference's rational numbers: Times. The reference's whole numbers with a sign: Len, Pow. The reference's whole numbers with a sign: Root, of squares. The reference of layer 1: RootNear of a rational. -/
import Derived.Test.YtoeecldhbabmbaaGreatMg39
import Derived.Test.YtoeecldhbabmbaaGreatMg37
import Derived.Test.YtoeecldhbabmbaaGreatMg18
open Go.Value renaming int → J, agg → zG
open Go.IntKind renaming i64 → zq, u64 → zu
open Go.Ending renaming returned → zR
open Go.Proofs.Tryz renaming prog → zP
namespace Go.Proofs.YtoeecldhbabmbaaGreat
open Go.RowKit
set_option maxHeartbeats 8000000 in
theorem floorq_any (x : Int) (d k : Nat) (v : Value) (w : World) (h1 : IsQ w v x d) (hd : d ≠ 0) (hk : k ≤ 3000) (f1 : Fit k x) (f2 : Fit k (d : Int)) :
    Calls zP 130 #[v] w fun e w' => (∃ r, e = zR r ∧ IsI w' r (x / (d : Int))) ∧ Ext w w' := by
  have HQ : Hid (∀ w', Ext w w' → IsQ w' v x d) := fun w' hx => h1.ext hx
  have HE : Hid (∀ w', Ext w w' → Calls zP 166 #[v] w' fun e w'' => (∃ r, e = zR r ∧ IsI w'' r (d : Int)) ∧ Ext w' w'') := fun w' hx => den_any x d v w' (h1.ext hx) (by have := f2.small (by omega); unfold SmallI at this; rwa [Int.natAbs_natCast] at this)
  obtain ⟨u1, u2, rfl, k1, k2⟩ := h1
  have HI : Hid (∀ w', Ext w w' → IsI w' (zG #[.bool (decide (x < 0)), u1]) x) := fun w' hx => ⟨u1, rfl, k1.ext hx⟩
  have HD : Hid (∀ r1 r2 w', IsI w' r1 x → IsI w' r2 (d : Int) → Calls zP 125 #[r1, r2] w' fun e w'' => (∃ q r, e = zR (.tuple #[q, r]) ∧ IsI w'' q (x / (d : Int)) ∧ IsI w'' r (x % (d : Int))) ∧ Ext w' w'') := fun r1 r2 w' hr1 hr2 => divide_isI x (d : Int) k r1 r2 w' hr1 hr2 (by omega) f1 f2 (by omega)
  obtain ⟨Qf, hQf⟩ : ∃ Q, x / (d : Int) = Q := ⟨_, rfl⟩
  obtain ⟨Rf, hRf⟩ : ∃ R, x % (d : Int) = R := ⟨_, rfl⟩
  rw [hQf, hRf] at HD
  rw [hQf]
  clear hQf hRf f2
  obtain ⟨a1, l1, c1, rfl⟩ := k1.isSlice
  obtain ⟨a2, l2, c2, rfl⟩ := k2.isSlice
  clear k1 k2 f1
  have XS : Hid (Ext w ((w.alloc (.cells #[.bool (decide (x < 0)), .slice a1 l1 c1, .slice a2 l2 c2] 96)).alloc (.cells #[.bool false, .slice none 0 0] 50))) := ((Ext.refl w).alloc _).alloc _
  have LS : Hid (LaidQ w.heap.size ((w.alloc (.cells #[.bool (decide (x < 0)), .slice a1 l1 c1, .slice a2 l2 c2] 96)).alloc (.cells #[.bool false, .slice none 0 0] 50)) (.bool (decide (x < 0))) (.slice a1 l1 c1) (.slice a2 l2 c2)) := laidQ_start w _ _ _
  generalize decide (x < 0) = b at *
  go_enter Tryz.func130, Tryz.ntmps130
  go_upto_region 1 with fail
  generalize ((w.alloc (.cells #[.bool b, .slice a1 l1 c1, .slice a2 l2 c2] 96)).alloc (.cells #[.bool false, .slice none 0 0] 50)) = W at *
  obtain ⟨⟨p0, p1, p2, p3, p4, p5⟩, _⟩ := LS.out
  obtain ⟨nes0a, nes0b, nes0c, nes0d⟩ := nes LS.out (Ext.refl W)
  go_cut [3, 4] (fun s3 s4 wx => ∃ gq gr aq lq cq ar lr cr, s3 = .pointer (some ⟨gq, 0, none⟩) ∧ s4 = .pointer (some ⟨gr, 0, none⟩) ∧ Hid (Both W wx gq gr (.bool (decide (Qf < 0))) (.slice aq lq cq) (.bool (decide (Rf < 0))) (.slice ar lr cr) Qf.natAbs Rf.natAbs))
  case first =>
    go_region_held (fun w' => w'.cell? ⟨w.heap.size, 0, none⟩ = some (.bool b) ∧ w'.cell? ⟨w.heap.size, 1, none⟩ = some (.slice a1 l1 c1) ∧ w'.cell? ⟨w.heap.size, 2, none⟩ = some (.slice a2 l2 c2)) (first | (go_keep; done) | skip) (first | (go_at_call 166; refine (HE.out _ (by first | exact XS.out | exact (XS.out).drew | exact (XS.out).alloc _ | exact (XS.out).drew.alloc _ | exact ((XS.out).alloc _).alloc _ | exact ((XS.out).drew.alloc _).alloc _)).mono ?_; rintro e w1 ⟨⟨r1, rfl, hr1⟩, x1⟩; have X1 : Hid (Ext W w1) := (by first | exact x1 | exact cell_drew x1 | exact ((Ext.refl W).alloc _).trans x1 | exact ((Ext.refl W).drew.alloc _).trans x1 | exact (((Ext.refl W).alloc _).alloc _).trans x1 | exact (((Ext.refl W).drew.alloc _).alloc _).trans x1); obtain ⟨⟨s0, s1, s2, s3, s4, s5⟩, _⟩ := LS.out.ext X1.out; obtain ⟨nes1a, nes1b, nes1c, nes1d⟩ := nes LS.out X1.out; (try (first | have N1 : Hid _ := ext_new1 x1 | have N1 : Hid _ := ext_new1 (cell_drew x1)); (try simp only [World.size_alloc] at N1); obtain ⟨N1a, N1b, N1c, N1d, N1e, N1f, N1g, N1h, N1i, N1j⟩ := N1.out.kn); (try (first | have M1 : Hid _ := ext_new2 x1 | have M1 : Hid _ := ext_new2 (cell_drew x1)); (try simp only [World.size_alloc] at M1); obtain ⟨M1a, M1b, M1c, M1d, M1e, M1f, M1g, M1h, M1i, M1j⟩ := M1.out.kn)) | (go_at_call 125; refine (HD.out _ _ _ (HI.out _ (by first | exact (XS.out.trans X1.out) | exact ((XS.out.trans X1.out)).drew | exact ((XS.out.trans X1.out)).alloc _ | exact ((XS.out.trans X1.out)).drew.alloc _ | exact (((XS.out.trans X1.out)).alloc _).alloc _ | exact (((XS.out.trans X1.out)).drew.alloc _).alloc _)) (hr1.ext (by first | exact (Ext.refl w1) | exact ((Ext.refl w1)).drew | exact ((Ext.refl w1)).alloc _ | exact ((Ext.refl w1)).drew.alloc _ | exact (((Ext.refl w1)).alloc _).alloc _ | exact (((Ext.refl w1)).drew.alloc _).alloc _))).mono ?_; rintro e w2 ⟨⟨q, r, rfl, hq, hr⟩, x2⟩; have X12 : Hid (Ext w1 w2) := (by first | exact x2 | exact cell_drew x2 | exact ((Ext.refl w1).alloc _).trans x2 | exact ((Ext.refl w1).drew.alloc _).trans x2 | exact (((Ext.refl w1).alloc _).alloc _).trans x2 | exact (((Ext.refl w1).drew.alloc _).alloc _).trans x2); have X2 : Hid (Ext W w2) := X1.out.trans X12.out; obtain ⟨⟨v0, v1, v2, v3, v4, v5⟩, ⟨y0, y1, y2, y3⟩⟩ := LS.out.ext X2.out; obtain ⟨nes3a, nes3b, nes3c, nes3d⟩ := nes LS.out X2.out; (try (first | have N2 : Hid _ := ext_new1 x2 | have N2 : Hid _ := ext_new1 (cell_drew x2)); (try simp only [World.size_alloc] at N2); obtain ⟨N2a, N2b, N2c, N2d, N2e, N2f, N2g, N2h, N2i, N2j⟩ := N2.out.kn); (try (first | have M2 : Hid _ := ext_new2 x2 | have M2 : Hid _ := ext_new2 (cell_drew x2)); (try simp only [World.size_alloc] at M2); obtain ⟨M2a, M2b, M2c, M2d, M2e, M2f, M2g, M2h, M2i, M2j⟩ := M2.out.kn); (try (have N1_2 : Hid _ := Has.ext N1.out X12.out; obtain ⟨N1_2a, N1_2b, N1_2c, N1_2d, N1_2e, N1_2f, N1_2g, N1_2h, N1_2i, N1_2j⟩ := N1_2.out.kn)); (try (have M1_2 : Hid _ := Has.ext M1.out X12.out; obtain ⟨M1_2a, M1_2b, M1_2c, M1_2d, M1_2e, M1_2f, M1_2g, M1_2h, M1_2i, M1_2j⟩ := M1_2.out.kn)); obtain ⟨uq, hq1, hq2⟩ := hq; obtain ⟨aq, lq, cq, eq⟩ := hq2.isSlice; subst eq; subst hq1; obtain ⟨ur, hr1', hr2⟩ := hr; obtain ⟨ar, lr, cr, er⟩ := hr2.isSlice; subst er; subst hr1'))
    all_goals
      go_wp2_with fail
      go_meet
      first
        | with_reducible exact ⟨_, _, _, _, _, _, _, _, rfl, rfl, both_a X2.out hq2 hr2⟩
        | with_reducible exact ⟨_, _, _, _, _, _, _, _, rfl, rfl, both_swap (both_a X2.out hr2 hq2)⟩
        | ((with_reducible refine ⟨_, _, _, _, _, _, _, _, rfl, rfl, both_d X2.out hq2 hr2 ?_ ?_⟩) <;> (first | with_reducible exact N1_2.out | with_reducible exact M1_2.out | with_reducible exact N2.out | with_reducible exact M2.out | with_reducible exact N1_2.out.ext ((Ext.refl _).alloc _) | with_reducible exact M1_2.out.ext ((Ext.refl _).alloc _) | with_reducible exact N2.out.ext ((Ext.refl _).alloc _) | with_reducible exact M2.out.ext ((Ext.refl _).alloc _) | with_reducible exact ext_new1 (Ext.refl _) | assumption | (have s1 := X1.out.size; have s2 := X12.out.size; omega)))
        | ((with_reducible refine ⟨_, _, _, _, _, _, _, _, rfl, rfl, both_b X2.out hq2 hr2 ?_ ?_ ?_ ?_ ?_⟩) <;> (first | with_reducible exact N1_2.out | with_reducible exact M1_2.out | with_reducible exact N2.out | with_reducible exact M2.out | with_reducible exact N1_2.out.ext ((Ext.refl _).alloc _) | with_reducible exact M1_2.out.ext ((Ext.refl _).alloc _) | with_reducible exact N2.out.ext ((Ext.refl _).alloc _) | with_reducible exact M2.out.ext ((Ext.refl _).alloc _) | with_reducible exact ext_new1 (Ext.refl _) | assumption | (have s1 := X1.out.size; have s2 := X12.out.size; omega)))
        | ((with_reducible refine ⟨_, _, _, _, _, _, _, _, rfl, rfl, both_b (X2.out.alloc _) (hq2.ext ((Ext.refl _).alloc _)) (hr2.ext ((Ext.refl _).alloc _)) ?_ ?_ ?_ ?_ ?_⟩) <;> (first | with_reducible exact N1_2.out | with_reducible exact M1_2.out | with_reducible exact N2.out | with_reducible exact M2.out | with_reducible exact N1_2.out.ext ((Ext.refl _).alloc _) | with_reducible exact M1_2.out.ext ((Ext.refl _).alloc _) | with_reducible exact N2.out.ext ((Ext.refl _).alloc _) | with_reducible exact M2.out.ext ((Ext.refl _).alloc _) | with_reducible exact ext_new1 (Ext.refl _) | assumption | (have s1 := X1.out.size; have s2 := X12.out.size; omega)))
  case rest =>
    obtain ⟨gq, gr, aq, lq, cq, ar, lr, cr, rfl, rfl, hB⟩ := hcut
    obtain ⟨q0, q1, q2, q3⟩ := hB.out.q
    obtain ⟨_, ⟨t0, t1, t2, t3⟩⟩ := LS.out.ext hB.out.x
    have HI9 : Hid (IsI wc (zG #[.bool (decide (Qf < 0)), .slice aq lq cq]) Qf) := ⟨_, rfl, hB.out.iq⟩
    have X9 : Hid (Ext w wc) := XS.out.trans hB.out.x
    clear p0 p1 p2 p3 p4 p5 nes0a nes0b nes0c nes0d
    generalize decide (Qf < 0) = bx at *
    go_wp2_with fail
    exact bodyPost_ret (v := zG #[.bool bx, .slice aq lq cq]) (by simp [results, Tryz.results130, go_sem, t0, t1]) rfl ⟨⟨_, rfl, HI9.out.set2 t0 t1⟩, (X9.out.setCell (show w.heap.size ≤ w.heap.size + 1 by omega) _).setCell (show w.heap.size ≤ w.heap.size + 1 by omega) _⟩
structure LaidT3 (p : Nat) (W : World) (u1 v1 x1 u2 v2 x2 : Value) : Prop where
  a : Has3 W p u1 v1 x1
  b : Has3 W (p + 1) u2 v2 x2
  c : Has3 W (p + 1 + 1) (.bool false) (.slice none 0 0) (.slice none 0 0)
theorem LaidT3.ext {p : Nat} {W W' : World} {u1 v1 x1 u2 v2 x2 : Value} (h : LaidT3 p W u1 v1 x1 u2 v2 x2) (hx : Ext W W') : LaidT3 p W' u1 v1 x1 u2 v2 x2 := ⟨h.a.ext hx, h.b.ext hx, h.c.ext hx⟩
set_option maxHeartbeats 4000000 in
theorem qtimes_any (m n : Int) (d e k : Nat) (v1 v2 : Value) (w : World) (h1 : IsQ w v1 m d) (h2 : IsQ w v2 n e) (hk : k ≤ 2000) (hd : d ≠ 0) (he : e ≠ 0) (f1 : Fit k m) (f2 : Fit k n) (f3 : Fit k (d : Int)) (f4 : Fit k (e : Int)) :
    Calls zP 132 #[v1, v2] w fun e' w' => (∃ q, e' = zR q ∧ IsQ w' q (m * n / (Nat.gcd (m * n).natAbs (d * e) : Int)) (d * e / Nat.gcd (m * n).natAbs (d * e))) ∧ Ext w w' := by
  have sd : Small d := by have := f3.small (by omega); unfold SmallI at this; rwa [Int.natAbs_natCast] at this
  have se : Small e := by have := f4.small (by omega); unfold SmallI at this; rwa [Int.natAbs_natCast] at this
  obtain ⟨u1, u2, rfl, k1, k2⟩ := h1
  obtain ⟨u3, u4, rfl, k3, k4⟩ := h2
  have HT : Hid (∀ w', Ext w w' → Calls zP 55 #[zG #[.bool (decide (m < 0)), u1], zG #[.bool (decide (n < 0)), u3]] w' fun e' w'' => (∃ r', e' = zR r' ∧ IsI w'' r' (m * n)) ∧ Ext w' w'') := fun w' hx => times_isI m n _ _ w' ⟨u1, rfl, k1.ext hx⟩ ⟨u3, rfl, k3.ext hx⟩ (f1.small (by omega)) (f2.small (by omega)) ((f1.mul f2).small (by omega))
  have HN : Hid (∀ w', Ext w w' → Calls zP 95 #[u2, u4] w' fun e' w'' => (∃ r', e' = zR r' ∧ IsN w'' r' (d * e)) ∧ Ext w' w'') := fun w' hx => ntimes_any d e u2 u4 w' (k2.ext hx) (k4.ext hx) sd se
  have HM : Hid (∀ r u w', IsI w' r (m * n) → IsN w' u (d * e) → Calls zP 99 #[r, u] w' fun e' w'' => (∃ q, e' = zR q ∧ IsQ w'' q (m * n / (Nat.gcd (m * n).natAbs (d * e) : Int)) (d * e / Nat.gcd (m * n).natAbs (d * e))) ∧ Ext w' w'') := fun r u w' hr hu => make_isQ (m * n) (d * e) (k + k) r u w' hr hu (Nat.mul_ne_zero hd he) (by omega) (f1.mul f2) (by rw [Int.natCast_mul]; exact f3.mul f4)
  obtain ⟨a1, l1, c1, rfl⟩ := k1.isSlice
  obtain ⟨a2, l2, c2, rfl⟩ := k2.isSlice
  obtain ⟨a3, l3, c3, rfl⟩ := k3.isSlice
  obtain ⟨a4, l4, c4, rfl⟩ := k4.isSlice
  clear k1 k2 k3 k4 f1 f2 f3 f4 sd se
  generalize decide (m < 0) = b1 at *
  generalize decide (n < 0) = b2 at *
  generalize m * n / (Nat.gcd (m * n).natAbs (d * e) : Int) = N1 at *
  generalize d * e / Nat.gcd (m * n).natAbs (d * e) = D1 at *
  generalize m * n = P1 at *
  generalize d * e = P2 at *
  have XS : Hid (Ext w (((w.alloc (.cells #[.bool b1, .slice a1 l1 c1, .slice a2 l2 c2] 96)).alloc (.cells #[.bool b2, .slice a3 l3 c3, .slice a4 l4 c4] 96)).alloc (.cells #[.bool false, .slice none 0 0, .slice none 0 0] 96))) := (((Ext.refl w).alloc _).alloc _).alloc _
  have LS : Hid (LaidT3 w.heap.size (((w.alloc (.cells #[.bool b1, .slice a1 l1 c1, .slice a2 l2 c2] 96)).alloc (.cells #[.bool b2, .slice a3 l3 c3, .slice a4 l4 c4] 96)).alloc (.cells #[.bool false, .slice none 0 0, .slice none 0 0] 96)) (.bool b1) (.slice a1 l1 c1) (.slice a2 l2 c2) (.bool b2) (.slice a3 l3 c3) (.slice a4 l4 c4)) := by constructor <;> constructor <;> simp [go_sem]
  go_enter Tryz.func132, Tryz.ntmps132
  go_wp2_with fail
  generalize ((w.alloc (.cells #[.bool b1, .slice a1 l1 c1, .slice a2 l2 c2] 96)).alloc (.cells #[.bool b2, .slice a3 l3 c3, .slice a4 l4 c4] 96)).alloc (.cells #[.bool false, .slice none 0 0, .slice none 0 0] 96) = W at *
  obtain ⟨⟨p0, p1, p2, p3, p4, p5⟩, ⟨q0, q1, q2, q3, q4, q5⟩, _⟩ := LS.out
  have n1 : w.heap.size ≠ w.heap.size + 1 + 1 := by omega
  have n2 : w.heap.size + 1 ≠ w.heap.size + 1 + 1 := by omega
  go_region_held (fun w' => w'.cell? ⟨w.heap.size, 0, none⟩ = some (.bool b1) ∧ w'.cell? ⟨w.heap.size, 1, none⟩ = some (.slice a1 l1 c1) ∧ w'.cell? ⟨w.heap.size, 2, none⟩ = some (.slice a2 l2 c2) ∧ w'.cell? ⟨w.heap.size + 1, 0, none⟩ = some (.bool b2) ∧ w'.cell? ⟨w.heap.size + 1, 1, none⟩ = some (.slice a3 l3 c3) ∧ w'.cell? ⟨w.heap.size + 1, 2, none⟩ = some (.slice a4 l4 c4)) (first | (go_keep; done) | (simp only [far3 _ _ _ _ _ _ n1, far3 _ _ _ _ _ _ n2]; exact ⟨by assumption, by assumption, by assumption, by assumption, by assumption, by assumption⟩)) (first | (go_at_call 55; refine (HT.out _ (XS.out.drew)).mono ?_; rintro e w1 ⟨⟨r1, rfl, hr1⟩, x1⟩; obtain ⟨⟨s0, s1, s2, s3, s4, s5⟩, ⟨s6, s7, s8, s9, s10, s11⟩, _⟩ := LS.out.ext (cell_drew x1)) | (go_at_call 95; refine (HN.out _ (XS.out.trans (cell_drew x1))).mono ?_; rintro e w2 ⟨⟨r2, rfl, hr2⟩, x2⟩; obtain ⟨⟨t0, t1, t2, t3, t4, t5⟩, ⟨t6, t7, t8, t9, t10, t11⟩, _⟩ := LS.out.ext ((cell_drew x1).trans x2)) | (go_at_call 99; refine (HM.out _ _ _ (hr1.ext x2) hr2).mono ?_; rintro e w3 ⟨⟨r3, rfl, hr3⟩, x3⟩; obtain ⟨⟨v0, v1, v2, v3, v4, v5⟩, ⟨v6, v7, v8, v9, v10, v11⟩, ⟨z0, z1, z2, z3, z4, z5⟩⟩ := LS.out.ext (((cell_drew x1).trans x2).trans x3); obtain ⟨y1, y2, hy, hy1, hy2⟩ := hr3; obtain ⟨an, ln, cn, en⟩ := hy1.isSlice; obtain ⟨ad, ld, cd, ed⟩ := hy2.isSlice; subst en ed; subst hy))
  have X9 : Hid (Ext w w3) := XS.out.trans (((cell_drew x1).trans x2).trans x3)
  have HQ : Hid (IsQ w3 (zG #[.bool (decide (N1 < 0)), .slice an ln cn, .slice ad ld cd]) N1 D1) := ⟨_, _, rfl, hy1, hy2⟩
  go_wp2_with fail
  exact bodyPost_ret (v := zG #[.bool (decide (N1 < 0)), .slice an ln cn, .slice ad ld cd]) (by simp [results, Tryz.results132, go_sem, z0, z1, z2]) rfl
    ⟨⟨_, rfl, HQ.out.set3 z0 z1 z2⟩, ((X9.out.setCell (show w.heap.size ≤ w.heap.size + 1 + 1 by omega) _).setCell (show w.heap.size ≤ w.heap.size + 1 + 1 by omega) _).setCell (show w.heap.size ≤ w.heap.size + 1 + 1 by omega) _⟩
theorem fit_pow {k : Nat} {x : Int} (f : Fit k x) : ∀ t : Nat, Fit (k * t + 1) (x ^ t) := by
  intro t
  induction t with
  | zero => rw [Int.pow_zero]; exact fit_one _ (by omega)
  | succ t ih =>
    rw [Int.pow_succ]
    exact (ih.mul f).le (by rw [Nat.mul_succ]; omega)
set_option maxHeartbeats 1000000 in
theorem len_isI (x : Int) (r : Value) (w : World) (h : IsI w r x) (hs : SmallI x) :
    Calls zP 164 #[r] w fun e w' => e = zR (J zq (Dig.blen x.natAbs : Int)) ∧ Ext w w' := by
  obtain ⟨u, rfl, hu⟩ := h
  have HL : Hid (∀ w', Ext w w' → Calls zP 163 #[u] w' fun e w'' => e = zR (J zq (Dig.blen x.natAbs : Int)) ∧ w'' = w') := fun w' hx => nlen_any _ u w' (hu.ext hx) hs
  obtain ⟨a, l, c, rfl⟩ := hu.isSlice
  clear hu hs
  generalize decide (x < 0) = b at *
  generalize Dig.blen x.natAbs = B at *
  go_enter Tryz.func164, Tryz.ntmps164
  go_wp2_with fail
  refine (HL.out _ ((Ext.refl _).alloc _)).mono ?_
  rintro e w1 ⟨rfl, hw⟩
  have hw' := hw.symm
  clear hw
  subst hw'
  go_wp2_with fail
  go_ret
  exact ⟨rfl, (Ext.refl _).alloc _⟩
structure PowRel (w wr : World) (p g : Nat) (u v : Value) (z : Int) (ug : Value) (vg : Value) : Prop where
  a : Has wr p u v
  b : Has wr (p + 1) (.bool false) (.slice none 0 0)
  g : Has wr g ug vg
  i : IsI wr (zG #[ug, vg]) z
  x : Ext w wr
set_option maxHeartbeats 4000000 in
theorem pow_isI (x : Int) (n k : Nat) (r : Value) (w : World) (h : IsI w r x) (hn : n ≤ 100) (f : Fit k x) (hk : k * n + 1 ≤ 4000) (hk2 : k ≤ 4000) :
    Calls zP 165 #[r, J zq (n : Int)] w fun e w' => (∃ r', e = zR r' ∧ IsI w' r' (x ^ n)) ∧ Ext w w' := by
  obtain ⟨u, rfl, hu⟩ := h
  have HO : Hid (∀ w', Calls zP 24 #[J zq 1] w' fun e w'' => (∃ r, e = zR r ∧ IsI w'' r 1) ∧ Ext w' w'') := fun w' => from_any 1 w' (by omega) (by omega)
  have HT : Hid (∀ t q w', t < n → IsI w' q (x ^ t) → IsN w' u x.natAbs → Calls zP 55 #[q, zG #[.bool (decide (x < 0)), u]] w' fun e w'' => (∃ r', e = zR r' ∧ IsI w'' r' (x ^ (t + 1))) ∧ Ext w' w'') := fun t q w' ht hq hu' => by
    have hle : k * (t + 1) + 1 ≤ 4000 := Nat.le_trans (Nat.add_le_add_right (Nat.mul_le_mul_left k (show t + 1 ≤ n by omega)) 1) hk
    have hle0 : k * t + 1 ≤ 4000 := Nat.le_trans (Nat.add_le_add_right (Nat.mul_le_mul_left k (show t ≤ n by omega)) 1) hk
    have h := times_isI (x ^ t) x q _ w' hq ⟨u, rfl, hu'⟩ ((fit_pow f t).small (by omega)) (f.small (by omega)) (by rw [← Int.pow_succ]; exact (fit_pow f (t + 1)).small (by omega))
    rw [← Int.pow_succ] at h
    exact h
  have HU : Hid (IsN w u x.natAbs) := hu
  obtain ⟨a1, l1, c1, rfl⟩ := hu.isSlice
  clear hu f hk hk2
  generalize decide (x < 0) = b at *
  generalize x.natAbs = X at *
  have XS : Hid (Ext w ((w.alloc (.cells #[.bool b, .slice a1 l1 c1] 50)).alloc (.cells #[.bool false, .slice none 0 0] 50))) := ((Ext.refl w).alloc _).alloc _
  have LA : Hid (Has ((w.alloc (.cells #[.bool b, .slice a1 l1 c1] 50)).alloc (.cells #[.bool false, .slice none 0 0] 50)) w.heap.size (.bool b) (.slice a1 l1 c1)) := by constructor <;> simp [go_sem]
  have LB : Hid (Has ((w.alloc (.cells #[.bool b, .slice a1 l1 c1] 50)).alloc (.cells #[.bool false, .slice none 0 0] 50)) (w.heap.size + 1) (.bool false) (.slice none 0 0)) := by constructor <;> simp [go_sem]
  go_enter Tryz.func165, Tryz.ntmps165
  go_wp2_with fail
  generalize (w.alloc (.cells #[.bool b, .slice a1 l1 c1] 50)).alloc (.cells #[.bool false, .slice none 0 0] 50) = W at *
  refine (HO.out _).mono ?_
  rintro e w1 ⟨⟨r1, rfl, hr1⟩, x1⟩
  obtain ⟨u1, hu1, k1⟩ := hr1
  obtain ⟨ax, lx, cx, ex⟩ := k1.isSlice
  subst ex
  subst hu1
  have hpg : w.heap.size + 1 < w1.heap.size := Nat.lt_of_lt_of_le LB.out.lt x1.size
  have S0 : Hid (PowRel w (w1.alloc (.cells #[.bool false, .slice ax lx cx] 50)) w.heap.size w1.heap.size (.bool b) (.slice a1 l1 c1) (x ^ 0) (.bool false) (.slice ax lx cx)) := by
    refine ⟨(LA.out.ext x1).ext ((Ext.refl _).alloc _), (LB.out.ext x1).ext ((Ext.refl _).alloc _), by constructor <;> simp [go_sem], ?_, (XS.out.trans x1).alloc _⟩
    rw [Int.pow_zero]
    exact ⟨_, rfl, k1.ext ((Ext.refl _).alloc _)⟩
  clear LA LB XS x1 k1 HO
  go_wp2_with fail
  generalize w1.alloc (.cells #[.bool (decide ((1 : Int) < 0)), .slice ax lx cx] 50) = W1 at *
  generalize w1.heap.size = gx at *
  go_loopw [6] (fun i wr => ∃ (t : Nat) (d : Bool) (a : Option Addr) (l c : Nat), t ≤ n ∧ i = J zq (t : Int) ∧ Hid (PowRel w wr w.heap.size gx (.bool b) (.slice a1 l1 c1) (x ^ t) (.bool d) (.slice a l c))) (fun i _ => n - (intOf i).toNat)
  case atStart => exact ⟨0, _, _, _, _, Nat.zero_le _, rfl, S0⟩
  case round =>
    obtain ⟨t, d, a, l, c, ht, rfl, hR⟩ := hrel
    obtain ⟨⟨p0, p1, p2, p3⟩, ⟨p4, p5, p6, p7⟩, ⟨p8, p9, p10, p11⟩, _, _⟩ := hR.out
    by_cases hlt : t < n
    · have hlt' : (t : Int) < (n : Int) := by omega
      go_wp2_with fail
      refine (HT.out t _ _ hlt hR.out.i (HU.out.ext hR.out.x)).mono ?_
      rintro e w2 ⟨⟨r2, rfl, hr2⟩, x2⟩
      obtain ⟨u2, hu2, k2⟩ := hr2
      obtain ⟨a2, l2, c2, e2⟩ := k2.isSlice
      subst e2
      subst hu2
      have R2 : Hid (PowRel w ((w2.setCell ⟨gx, 0, none⟩ (.bool (decide (x ^ (t + 1) < 0)))).setCell ⟨gx, 1, none⟩ (.slice a2 l2 c2)) w.heap.size gx (.bool b) (.slice a1 l1 c1) (x ^ (t + 1)) (.bool (decide (x ^ (t + 1) < 0))) (.slice a2 l2 c2)) := by
        obtain ⟨A, B, C, I, X⟩ := hR.out
        have C2 := C.ext x2
        exact ⟨(A.ext x2).far (by omega), (B.ext x2).far (by omega), C2.here, IsI.set2 ⟨_, rfl, k2⟩ C2.c0 C2.c1, ((X.trans x2).setCell (by omega) _).setCell (by omega) _⟩
      obtain ⟨q8, q9, q10, q11⟩ := hR.out.g.ext x2
      clear k2 x2 p0 p1 p2 p3 p4 p5 p6 p7 p8 p9 p10 p11 hR
      generalize decide (x ^ (t + 1) < 0) = d2 at *
      go_wp2_with fail
      go_roundw
      case rel => exact ⟨t + 1, _, _, _, _, by omega, by go_num, R2⟩
      case measure => simp [intOf]; omega
    · have hlt' : ¬ (t : Int) < (n : Int) := by omega
      obtain rfl : t = n := by omega
      have HI : Hid (IsI wr (zG #[.bool d, .slice a l c]) (x ^ t)) := hR.out.i
      have X9 : Hid (Ext w wr) := hR.out.x
      go_wp2_with fail
      exact bodyPost_ret (v := zG #[.bool d, .slice a l c]) (by simp [results, Tryz.results165, go_sem, p4, p5]) rfl ⟨⟨_, rfl, HI.out.set2 p4 p5⟩, (X9.out.setCell (show w.heap.size ≤ w.heap.size + 1 by omega) _).setCell (show w.heap.size ≤ w.heap.size + 1 by omega) _⟩
theorem nat_nonneg (n : Nat) : decide ((n : Int) < 0) = false := decide_eq_false (Int.not_lt.2 (Int.natCast_nonneg n))
theorem hid_ff : Hid (false = false) := rfl
structure RtRel (a t r : Nat) : Prop where
  lo : r * r ≤ a
  hi : a < (r + 2 ^ t) * (r + 2 ^ t)
theorem RtRel.start (a : Nat) : RtRel a (Dig.blen a / 2 + 2) 0 := by
  refine ⟨by omega, ?_⟩
  rw [Nat.zero_add, ← Nat.pow_add]
  exact Nat.lt_of_lt_of_le (Dig.lt_blen a) (Nat.pow_le_pow_right (by omega) (by omega))
theorem RtRel.yes {a i r : Nat} (h : RtRel a (i + 1) r) (hy : (r + 2 ^ i) * (r + 2 ^ i) ≤ a) : RtRel a i (r + 2 ^ i) := by
  refine ⟨hy, ?_⟩
  have := h.hi
  have e : r + 2 ^ i + 2 ^ i = r + 2 ^ (i + 1) := by rw [Nat.pow_succ]; omega
  rw [e]
  exact this
theorem RtRel.no {a i r : Nat} (h : RtRel a (i + 1) r) (hy : ¬ (r + 2 ^ i) * (r + 2 ^ i) ≤ a) : RtRel a i r := ⟨h.lo, by omega⟩
theorem RtRel.le {a t r : Nat} (h : RtRel a t r) : r ≤ a := by
  have := h.lo
  rcases Nat.eq_zero_or_pos r with h0 | h0
  · omega
  · exact Nat.le_trans (Nat.le_mul_of_pos_left r h0) this
set_option maxHeartbeats 8000000 in
theorem root2_isI (x k : Nat) (r1 : Value) (w : World) (h : IsI w r1 (x : Int)) (hk : k ≤ 800) (f : Fit k (x : Int)) :
    Calls zP 129 #[r1, J zq 2] w fun e w' => (∃ (r' : Value) (s : Nat), e = zR r' ∧ IsI w' r' (s : Int) ∧ s * s ≤ x ∧ x < (s + 1) * (s + 1)) ∧ Ext w w' := by
  obtain ⟨u, rfl, hu⟩ := h
  rw [Int.natAbs_natCast] at hu
  rw [decide_eq_false (show ¬ (x : Int) < 0 by omega)]
  have fx : x < 2 ^ k := by have := f; unfold Fit at this; rwa [Int.natAbs_natCast] at this
  have hbl : Dig.blen x ≤ k := Dig.blen_le x k fx
  obtain ⟨K, hK⟩ : ∃ K, Hid (Dig.blen x / 2 + 2 = K + 1) := ⟨Dig.blen x / 2 + 1, rfl⟩
  have hK2 : K ≤ 1000 := by have := hK.out; omega
  obtain ⟨E, hE⟩ : ∃ E : Nat, E = 1799 := ⟨_, rfl⟩
  have fr : ∀ r i : Nat, r ≤ x → i ≤ K → Fit (E + 1) ((r + 2 ^ i : Nat) : Int) := fun r i hr hi => by
    have g1 : Fit E ((r : Nat) : Int) := (f.of_le (by rw [Int.natAbs_natCast, Int.natAbs_natCast]; exact hr)).le (by omega)
    have g2 : Fit E ((2 ^ i : Nat) : Int) := by
      unfold Fit
      rw [Int.natAbs_natCast]
      exact Nat.pow_lt_pow_right (by omega) (by omega)
    rw [Int.natCast_add]
    exact g1.add g2
  have HO0 : Hid (∀ w', Calls zP 24 #[J zq 0] w' fun e w'' => (∃ r, e = zR r ∧ IsI w'' r 0) ∧ Ext w' w'') := fun w' => from_any 0 w' (by omega) (by omega)
  have HO : Hid (∀ w', Calls zP 24 #[J zq 1] w' fun e w'' => (∃ r, e = zR r ∧ IsI w'' r 1) ∧ Ext w' w'') := fun w' => from_any 1 w' (by omega) (by omega)
  have HN : Hid (∀ w', Ext w w' → Calls zP 164 #[zG #[.bool false, u]] w' fun e w'' => e = zR (J zq (Dig.blen x : Int)) ∧ Ext w' w'') := fun w' hx => len_isI (x : Int) _ w' ⟨u, by rw [decide_eq_false (by omega)], by rw [Int.natAbs_natCast]; exact hu.ext hx⟩ (f.small (by omega))
  have HL : Hid (∀ (i : Nat) q w', i ≤ K → IsI w' q 1 → Calls zP 59 #[q, J zq (i : Int)] w' fun e w'' => (∃ r', e = zR r' ∧ IsI w'' r' ((2 ^ i : Nat) : Int)) ∧ Ext w' w'') := fun i q w' hi hq => by
    have h := left_isI 1 i q w' hq ((fit_one 1 (by omega) : Fit 1 1).small (by omega)) (by omega) (((fit_one 1 (by omega) : Fit 1 1).shl i).small (by omega))
    have e : (1 : Int) * 2 ^ i = ((2 ^ i : Nat) : Int) := by rw [Int.one_mul]; simp
    rw [e] at h
    exact h
  have HP : Hid (∀ (i r : Nat) q q' w', i ≤ K → r ≤ x → IsI w' q (r : Int) → IsI w' q' ((2 ^ i : Nat) : Int) → Calls zP 51 #[q, q'] w' fun e w'' => (∃ r', e = zR r' ∧ IsI w'' r' ((r + 2 ^ i : Nat) : Int)) ∧ Ext w' w'') := fun i r q q' w' hi hr hq hq' => by
    have h := plus_isI (r : Int) ((2 ^ i : Nat) : Int) q q' w' hq hq' (((fr r i hr hi).of_le (by rw [Int.natAbs_natCast, Int.natAbs_natCast]; exact Nat.le_add_right _ _)).small (by omega)) (((fr r i hr hi).of_le (by rw [Int.natAbs_natCast, Int.natAbs_natCast]; exact Nat.le_add_left _ _)).small (by omega)) (by rw [← Int.natCast_add]; exact (fr r i hr hi).small (by omega))
    rw [← Int.natCast_add] at h
    exact h
  have HW : Hid (∀ (i r : Nat) q w', i ≤ K → r ≤ x → IsI w' q ((r + 2 ^ i : Nat) : Int) → Calls zP 165 #[q, J zq 2] w' fun e w'' => (∃ r', e = zR r' ∧ IsI w'' r' (((r + 2 ^ i) * (r + 2 ^ i) : Nat) : Int)) ∧ Ext w' w'') := fun i r q w' hi hr hq => by
    have h := pow_isI ((r + 2 ^ i : Nat) : Int) 2 (E + 1) q w' hq (by omega) (fr r i hr hi) (by omega) (by omega)
    have e : ((r + 2 ^ i : Nat) : Int) ^ 2 = (((r + 2 ^ i) * (r + 2 ^ i) : Nat) : Int) := by rw [Int.natCast_mul, Int.pow_succ, Int.pow_succ, Int.pow_zero, Int.one_mul]
    rw [e] at h
    exact h
  have HC : Hid (∀ (i r : Nat) q w', i ≤ K → r ≤ x → IsI w' q (((r + 2 ^ i) * (r + 2 ^ i) : Nat) : Int) → Ext w w' → Calls zP 20 #[q, zG #[.bool false, u]] w' fun e w'' => e = zR (J zq (sgn ((((r + 2 ^ i) * (r + 2 ^ i) : Nat) : Int) - (x : Int)))) ∧ Ext w' w'') := fun i r q w' hi hr hq hx => by
    have f2 : Fit (E + 1 + (E + 1)) (((r + 2 ^ i) * (r + 2 ^ i) : Nat) : Int) := by rw [Int.natCast_mul]; exact (fr r i hr hi).mul (fr r i hr hi)
    exact cmp_isI _ (x : Int) q _ w' hq ⟨u, by rw [decide_eq_false (by omega)], by rw [Int.natAbs_natCast]; exact hu.ext hx⟩ (f2.small (by omega)) (f.small (by omega)) ((f2.sub (f.le (by omega))).small (by omega))
  have HST : Hid (RtRel x (K + 1) 0) := by have := RtRel.start x; rw [hK.out] at this; exact this
  have eK : (Dig.blen x : Int) / 2 + 1 = (K : Int) := by have := hK.out; omega
  have hb64 : Dig.blen x ≤ 800 := by omega
  obtain ⟨a1, l1, c1, rfl⟩ := hu.isSlice
  clear hu f fx fr hbl hk hE
  generalize Dig.blen x = BL at *
  have XS : Hid (Ext w ((w.alloc (.cells #[.bool false, .slice a1 l1 c1] 50)).alloc (.cells #[.bool false, .slice none 0 0] 50))) := ((Ext.refl w).alloc _).alloc _
  have LA : Hid (Has ((w.alloc (.cells #[.bool false, .slice a1 l1 c1] 50)).alloc (.cells #[.bool false, .slice none 0 0] 50)) w.heap.size (.bool false) (.slice a1 l1 c1)) := by constructor <;> simp [go_sem]
  have LB : Hid (Has ((w.alloc (.cells #[.bool false, .slice a1 l1 c1] 50)).alloc (.cells #[.bool false, .slice none 0 0] 50)) (w.heap.size + 1) (.bool false) (.slice none 0 0)) := by constructor <;> simp [go_sem]
  go_enter Tryz.func129, Tryz.ntmps129
  go_wp2_with fail
  generalize ((w.alloc (.cells #[.bool false, .slice a1 l1 c1] 50)).alloc (.cells #[.bool false, .slice none 0 0] 50)) = W at *
  refine (HO0.out _).mono ?_
  rintro e w1 ⟨⟨r1, rfl, hr1⟩, x1⟩
  obtain ⟨u1, hu1, k1⟩ := hr1
  obtain ⟨ax, lx, cx, ex⟩ := k1.isSlice
  subst ex
  subst hu1
  have hpg : w.heap.size + 1 < w1.heap.size := Nat.lt_of_lt_of_le LB.out.lt x1.size
  have S0 : Hid (PowRel w (w1.alloc (.cells #[.bool false, .slice ax lx cx] 50)) w.heap.size w1.heap.size (.bool false) (.slice a1 l1 c1) ((0 : Nat) : Int) (.bool false) (.slice ax lx cx)) :=
    ⟨(LA.out.ext x1).ext ((Ext.refl _).alloc _), (LB.out.ext x1).ext ((Ext.refl _).alloc _), by constructor <;> simp [go_sem], ⟨_, rfl, k1.ext ((Ext.refl _).alloc _)⟩, (XS.out.trans x1).alloc _⟩
  obtain ⟨b0, b1, b2, b3⟩ := S0.out.a
  clear LA LB XS x1 k1 HO0
  go_wp2_with fail
  refine (HN.out _ S0.out.x).mono ?_
  rintro e w2 ⟨rfl, x2⟩
  have S2 : Hid (PowRel w w2 w.heap.size w1.heap.size (.bool false) (.slice a1 l1 c1) ((0 : Nat) : Int) (.bool false) (.slice ax lx cx)) := ⟨S0.out.a.ext x2, S0.out.b.ext x2, S0.out.g.ext x2, S0.out.i.ext x2, S0.out.x.trans x2⟩
  clear S0 b0 b1 b2 b3 x2 HN
  go_wp2_with fail
  clear eK
  generalize w1.heap.size = gr at *
  go_loopw [6] (fun iv wr => ∃ (t r : Nat) (d : Bool) (a : Option Addr) (l c : Nat), t ≤ K + 1 ∧ iv = J zq ((t : Int) - 1) ∧ Hid (RtRel x t r) ∧ Hid (PowRel w wr w.heap.size gr (.bool false) (.slice a1 l1 c1) (r : Int) (.bool d) (.slice a l c))) (fun iv _ => ((intOf iv) + 1).toNat)
  case atStart => exact ⟨K + 1, 0, _, _, _, _, Nat.le_refl _, by go_num, HST, S2⟩
  case round =>
    obtain ⟨t, r, d, a, l, c, ht, rfl, hT, hR⟩ := hrel
    obtain ⟨⟨p0, p1, p2, p3⟩, ⟨p4, p5, p6, p7⟩, ⟨p8, p9, p10, p11⟩, _, _⟩ := hR.out
    cases t with
    | zero =>
      have HI : Hid (IsI wr (zG #[.bool d, .slice a l c]) (r : Int)) := hR.out.i
      have X9 : Hid (Ext w wr) := hR.out.x
      have hlo := hT.out.lo
      have hhi := hT.out.hi
      rw [Nat.pow_zero] at hhi
      have HB : Hid (r * r ≤ x ∧ x < (r + 1) * (r + 1)) := ⟨hlo, hhi⟩
      clear hlo hhi
      go_wp2_with fail
      exact bodyPost_ret (v := zG #[.bool d, .slice a l c]) (by simp [results, Tryz.results129, go_sem, p4, p5]) rfl ⟨⟨_, r, rfl, HI.out.set2 p4 p5, HB.out⟩, (X9.out.setCell (show w.heap.size ≤ w.heap.size + 1 by omega) _).setCell (show w.heap.size ≤ w.heap.size + 1 by omega) _⟩
    | succ i =>
      have et : ((i + 1 : Nat) : Int) - 1 = (i : Int) := by omega
      rw [et]
      clear et
      have hi : i ≤ K := by omega
      have hr : r ≤ x := hT.out.le
      have np : gr ≠ wr.heap.size := Nat.ne_of_lt hR.out.g.lt
      have np' := np.symm
      go_upto_region 5 with fail
      go_cut [7] (fun s7 wx => ∃ (gx : Nat) (dx : Bool) (ax : Option Addr) (lx cx : Nat), s7 = .pointer (some ⟨gx, 0, none⟩) ∧ Hid (OneV wr wx gx (.bool dx) (.slice ax lx cx) (r + 2 ^ i)) ∧ Hid (dx = false))
      case first =>
        go_region_held (fun w' => w'.cell? ⟨gr, 0, none⟩ = some (.bool d) ∧ w'.cell? ⟨gr, 1, none⟩ = some (.slice a l c)) (first | (go_keep; done) | skip) (first | (go_at_call 24; refine (HO.out _).mono ?_; rintro e w3 ⟨⟨o3, rfl, ho3⟩, x3⟩; have X3 : Hid (Ext wr w3) := (by first | exact x3 | exact cell_drew x3 | exact ((Ext.refl wr).alloc _).trans x3 | exact ((Ext.refl wr).drew.alloc _).trans x3); obtain ⟨s0, s1, s2, s3⟩ := hR.out.g.ext X3.out; have ns3 : gr ≠ w3.heap.size := Nat.ne_of_lt (hR.out.g.ext X3.out).lt; have ns3' := ns3.symm; (try ((first | have N3 : Hid _ := ext_new1 x3 | have N3 : Hid _ := ext_new1 (cell_drew x3)); (try simp only [size_drewN] at N3); obtain ⟨N3a, N3b, N3c, N3d, N3e, N3f, N3g, N3h, N3i, N3j⟩ := N3.out.kn))) | (go_at_call 59; refine (HL.out i _ _ hi (ho3.ext (by first | exact Ext.refl _ | exact (Ext.refl _).drew | exact (Ext.refl _).alloc _ | exact (Ext.refl _).drew.alloc _))).mono ?_; rintro e w4 ⟨⟨o4, rfl, ho4⟩, x4⟩; have X34 : Hid (Ext w3 w4) := (by first | exact x4 | exact cell_drew x4 | exact ((Ext.refl w3).alloc _).trans x4 | exact ((Ext.refl w3).drew.alloc _).trans x4); obtain ⟨t0, t1, t2, t3⟩ := hR.out.g.ext (X3.out.trans X34.out); have nt4 : gr ≠ w4.heap.size := Nat.ne_of_lt (hR.out.g.ext (X3.out.trans X34.out)).lt; have nt4' := nt4.symm; (try (have N34 : Hid _ := Has.ext N3.out X34.out; obtain ⟨N34a, N34b, N34c, N34d, N34e, N34f, N34g, N34h, N34i, N34j⟩ := N34.out.kn)); (try ((first | have N4 : Hid _ := ext_new1 x4 | have N4 : Hid _ := ext_new1 (cell_drew x4)); (try simp only [size_drewN] at N4); obtain ⟨N4a, N4b, N4c, N4d, N4e, N4f, N4g, N4h, N4i, N4j⟩ := N4.out.kn))) | (go_at_call 51; refine (HP.out i r _ _ _ hi hr ((hR.out.i.ext (X3.out.trans X34.out)).ext (by first | exact Ext.refl _ | exact (Ext.refl _).drew | exact (Ext.refl _).alloc _ | exact (Ext.refl _).drew.alloc _)) (ho4.ext (by first | exact Ext.refl _ | exact (Ext.refl _).drew | exact (Ext.refl _).alloc _ | exact (Ext.refl _).drew.alloc _))).mono ?_; rintro e w5 ⟨⟨o5, rfl, ho5⟩, x5⟩; have X45 : Hid (Ext w4 w5) := (by first | exact x5 | exact cell_drew x5 | exact ((Ext.refl w4).alloc _).trans x5 | exact ((Ext.refl w4).drew.alloc _).trans x5); obtain ⟨v0, v1, v2, v3⟩ := hR.out.g.ext ((X3.out.trans X34.out).trans X45.out); have nv5 : gr ≠ w5.heap.size := Nat.ne_of_lt (hR.out.g.ext ((X3.out.trans X34.out).trans X45.out)).lt; have nv5' := nv5.symm; (try (have N345 : Hid _ := Has.ext N34.out X45.out; obtain ⟨N345a, N345b, N345c, N345d, N345e, N345f, N345g, N345h, N345i, N345j⟩ := N345.out.kn)); (try (have N45 : Hid _ := Has.ext N4.out X45.out; obtain ⟨N45a, N45b, N45c, N45d, N45e, N45f, N45g, N45h, N45i, N45j⟩ := N45.out.kn)); (try ((first | have N5 : Hid _ := ext_new1 x5 | have N5 : Hid _ := ext_new1 (cell_drew x5)); (try simp only [size_drewN] at N5); obtain ⟨N5a, N5b, N5c, N5d, N5e, N5f, N5g, N5h, N5i, N5j⟩ := N5.out.kn)); obtain ⟨u5, hu5, k5⟩ := ho5; obtain ⟨ax, lx, cx, hax⟩ := k5.isSlice; subst hax; rw [nat_nonneg] at hu5; subst hu5))
        all_goals
          have k5' : IsN w5 (.slice ax lx cx) (r + 2 ^ i) := by rw [Int.natAbs_natCast] at k5; exact k5
          go_wp2_with fail
          go_meet
          first
            | with_reducible exact ⟨_, _, _, _, _, rfl, one_a ((X3.out.trans X34.out).trans X45.out) k5', hid_ff⟩
            | ((with_reducible refine ⟨_, _, _, _, _, rfl, one_b ((X3.out.trans X34.out).trans X45.out) k5' ?_ ?_, hid_ff⟩) <;> (first | with_reducible exact N345.out | with_reducible exact N45.out | with_reducible exact N5.out | (have q1 := X3.out.size; have q2 := X34.out.size; have q3 := X45.out.size; omega)))
      case rest =>
        obtain ⟨gx, dx, ax', lx', cx', rfl, hO, hdx⟩ := hcut
        have XA : Hid (Ext w wc) := hR.out.x.trans hO.out.x
        have BX : Hid (Has wc gx (.bool dx) (.slice ax' lx' cx')) := hO.out.h
        have BA : Hid (Has wc w.heap.size (.bool false) (.slice a1 l1 c1)) := hR.out.a.ext hO.out.x
        have HX : Hid (IsI wc (zG #[.bool dx, .slice ax' lx' cx']) ((r + 2 ^ i : Nat) : Int)) := ⟨_, by rw [hdx.out, nat_nonneg], by rw [Int.natAbs_natCast]; exact hO.out.i⟩
        have R1 : Hid (PowRel w wc w.heap.size gr (.bool false) (.slice a1 l1 c1) (r : Int) (.bool d) (.slice a l c)) := ⟨hR.out.a.ext hO.out.x, hR.out.b.ext hO.out.x, hR.out.g.ext hO.out.x, hR.out.i.ext hO.out.x, XA.out⟩
        obtain ⟨f0, f1, f2, f3⟩ := BX.out
        obtain ⟨f4, f5, f6, f7⟩ := BA.out
        clear p0 p1 p2 p3 p4 p5 p6 p7 p8 p9 p10 p11 np np' hR hO hdx HO HL HP
        by_cases hy : (r + 2 ^ i) * (r + 2 ^ i) ≤ x
        · have HY : Hid (RtRel x i (r + 2 ^ i)) := hT.out.yes hy
          obtain ⟨cc, gcc, gc1⟩ : ∃ cc : Int, sgn ((((r + 2 ^ i) * (r + 2 ^ i) : Nat) : Int) - (x : Int)) = cc ∧ cc ≤ 0 := ⟨_, rfl, by unfold sgn; split; omega; split <;> omega⟩
          have HC' : Hid (∀ q w', IsI w' q (((r + 2 ^ i) * (r + 2 ^ i) : Nat) : Int) → Ext w w' → Calls zP 20 #[q, zG #[.bool false, .slice a1 l1 c1]] w' fun e w'' => e = zR (J zq cc) ∧ Ext w' w'') := fun q w' hq hx => by
            have h := HC.out i r q w' hi hr hq hx
            rw [gcc] at h
            exact h
          clear hy gcc
          go_wp2_with fail
          go_region_held (fun w' => w'.cell? ⟨gx, 0, none⟩ = some (.bool dx) ∧ w'.cell? ⟨gx, 1, none⟩ = some (.slice ax' lx' cx') ∧ w'.cell? ⟨w.heap.size, 0, none⟩ = some (.bool false) ∧ w'.cell? ⟨w.heap.size, 1, none⟩ = some (.slice a1 l1 c1)) (go_keep) (first | (go_at_call 165; refine (HW.out i r _ _ hi hr (HX.out.ext ((Ext.refl _).drew))).mono ?_; rintro e w6 ⟨⟨o6, rfl, ho6⟩, x6⟩; obtain ⟨e0, e1, e2, e3⟩ := BX.out.ext (cell_drew x6); obtain ⟨e4, e5, e6, e7⟩ := BA.out.ext (cell_drew x6)) | (go_at_call 20; refine (HC'.out _ _ ho6 (XA.out.trans (cell_drew x6))).mono ?_; rintro e w7 ⟨rfl, x7⟩; obtain ⟨g0, g1, g2, g3⟩ := BX.out.ext ((cell_drew x6).trans x7); obtain ⟨g4, g5, g6, g7⟩ := BA.out.ext ((cell_drew x6).trans x7)))
          obtain ⟨j0, j1, j2, j3⟩ := R1.out.g.ext ((cell_drew x6).trans x7)
          have x67 : Hid (Ext wc w7) := (cell_drew x6).trans x7
          have R7 : Hid (PowRel w ((w7.setCell ⟨gr, 0, none⟩ (.bool dx)).setCell ⟨gr, 1, none⟩ (.slice ax' lx' cx')) w.heap.size gr (.bool false) (.slice a1 l1 c1) ((r + 2 ^ i : Nat) : Int) (.bool dx) (.slice ax' lx' cx')) := by
            obtain ⟨A, B, C, _, X⟩ := R1.out
            have C2 := C.ext x67.out
            exact ⟨(A.ext x67.out).far (by omega), (B.ext x67.out).far (by omega), C2.here, (HX.out.ext x67.out).set2 C2.c0 C2.c1, ((X.trans x67.out).setCell (by omega) _).setCell (by omega) _⟩
          go_wp2_with fail
          go_roundw
          case rel => exact ⟨i, r + 2 ^ i, _, _, _, _, by omega, by go_num, HY, R7⟩
          case measure => simp [intOf]
        · have HY : Hid (RtRel x i r) := hT.out.no hy
          obtain ⟨cc, gcc, gc1⟩ : ∃ cc : Int, sgn ((((r + 2 ^ i) * (r + 2 ^ i) : Nat) : Int) - (x : Int)) = cc ∧ ¬ cc ≤ 0 := ⟨_, rfl, by unfold sgn; rw [if_neg (by omega), if_neg (by omega)]; omega⟩
          have HC' : Hid (∀ q w', IsI w' q (((r + 2 ^ i) * (r + 2 ^ i) : Nat) : Int) → Ext w w' → Calls zP 20 #[q, zG #[.bool false, .slice a1 l1 c1]] w' fun e w'' => e = zR (J zq cc) ∧ Ext w' w'') := fun q w' hq hx => by
            have h := HC.out i r q w' hi hr hq hx
            rw [gcc] at h
            exact h
          clear hy gcc
          go_wp2_with fail
          go_region_held (fun w' => w'.cell? ⟨gx, 0, none⟩ = some (.bool dx) ∧ w'.cell? ⟨gx, 1, none⟩ = some (.slice ax' lx' cx') ∧ w'.cell? ⟨w.heap.size, 0, none⟩ = some (.bool false) ∧ w'.cell? ⟨w.heap.size, 1, none⟩ = some (.slice a1 l1 c1)) (go_keep) (first | (go_at_call 165; refine (HW.out i r _ _ hi hr (HX.out.ext ((Ext.refl _).drew))).mono ?_; rintro e w6 ⟨⟨o6, rfl, ho6⟩, x6⟩; obtain ⟨e0, e1, e2, e3⟩ := BX.out.ext (cell_drew x6); obtain ⟨e4, e5, e6, e7⟩ := BA.out.ext (cell_drew x6)) | (go_at_call 20; refine (HC'.out _ _ ho6 (XA.out.trans (cell_drew x6))).mono ?_; rintro e w7 ⟨rfl, x7⟩; obtain ⟨g0, g1, g2, g3⟩ := BX.out.ext ((cell_drew x6).trans x7); obtain ⟨g4, g5, g6, g7⟩ := BA.out.ext ((cell_drew x6).trans x7)))
          have x67 : Hid (Ext wc w7) := (cell_drew x6).trans x7
          have R7 : Hid (PowRel w w7 w.heap.size gr (.bool false) (.slice a1 l1 c1) (r : Int) (.bool d) (.slice a l c)) := ⟨R1.out.a.ext x67.out, R1.out.b.ext x67.out, R1.out.g.ext x67.out, R1.out.i.ext x67.out, R1.out.x.trans x67.out⟩
          go_wp2_with fail
          go_roundw
          case rel => exact ⟨i, r, _, _, _, _, by omega, by go_num, HY, R7⟩
          case measure => simp [intOf]
theorem sq_odd (s : Nat) : (2 * s + 1) * (2 * s + 1) = 4 * (s * (s + 1)) + 1 := by
  simp only [Nat.mul_add, Nat.add_mul, Nat.mul_one, Nat.one_mul]
  have : 2 * s * (2 * s) = 4 * (s * s) := by rw [Nat.mul_mul_mul_comm]
  omega
theorem odd_gcd (m n : Nat) (hm : m % 2 = 1) (hn : n = 2 ∨ n = 4) : Nat.gcd m n = 1 := by
  have h : ∀ g, g ∣ m → g ∣ n → g = 1 := by
    intro g h1 h2
    have hle : g ≤ 4 := Nat.le_trans (Nat.le_of_dvd (by omega) h2) (by omega)
    obtain ⟨c, hc⟩ := h1
    obtain ⟨e, he⟩ := h2
    match g, hle with
    | 0, _ => omega
    | 1, _ => rfl
    | 2, _ => omega
    | 3, _ => omega
    | 4, _ => omega
  exact h _ (Nat.gcd_dvd_left _ _) (Nat.gcd_dvd_right _ _)
set_option maxHeartbeats 8000000 in
theorem rootnearq_any (N d k : Nat) (v : Value) (w : World) (h1 : IsQ w v (N : Int) d) (hd : d ≠ 0) (hk : k ≤ 300) (hk1 : 3 ≤ k) (f1 : Fit k (N : Int)) (f2 : Fit k (d : Int)) :
    Calls zP 102 #[v] w fun e w' => (∃ (r : Value) (s : Nat), e = zR r ∧ IsI w' r (s : Int) ∧ RootQ N d s) ∧ Ext w w' := by
  have HF : Hid (∀ w', Ext w w' → Calls zP 130 #[v] w' fun e w'' => (∃ r, e = zR r ∧ IsI w'' r ((N / d : Nat) : Int)) ∧ Ext w' w'') := fun w' hx => by
    have h := floorq_any (N : Int) d k v w' (h1.ext hx) hd (by omega) f1 f2
    rw [← Int.natCast_ediv] at h
    exact h
  have fN : Fit k ((N / d : Nat) : Int) := f1.of_le (by rw [Int.natAbs_natCast, Int.natAbs_natCast]; exact Nat.div_le_self _ _)
  have HR : Hid (∀ r w', IsI w' r ((N / d : Nat) : Int) → Calls zP 129 #[r, J zq 2] w' fun e w'' => (∃ (r' : Value) (s : Nat), e = zR r' ∧ IsI w'' r' (s : Int) ∧ s * s ≤ N / d ∧ N / d < (s + 1) * (s + 1)) ∧ Ext w' w'') := fun r w' hr => root2_isI (N / d) k r w' hr (by omega) fN
  have HQ0 : Hid (∀ w', Ext w w' → IsQ w' v (N : Int) d) := fun w' hx => h1.ext hx
  have HS : Hid (∀ s : Nat, s * s ≤ N / d → Fit (k + 3) (s : Int) ∧ Fit (k + 3) ((2 * s + 1 : Nat) : Int)) := by
    intro s hs
    have hle : s ≤ N := by
      have hdv := Nat.div_le_self N d
      rcases Nat.eq_zero_or_pos s with h0 | h0
      · omega
      · exact Nat.le_trans (Nat.le_mul_of_pos_left s h0) (Nat.le_trans hs hdv)
    have fs : Fit k (s : Int) := f1.of_le (by rw [Int.natAbs_natCast, Int.natAbs_natCast]; exact hle)
    refine ⟨fs.le (by omega), ?_⟩
    have g : Fit (k + 1) ((s : Int) * 2 ^ 1) := fs.shl 1
    have g2 : Fit (k + 2) ((s : Int) * 2 ^ 1 + 1) := g.add (fit_one _ (by omega))
    have e : ((2 * s + 1 : Nat) : Int) = (s : Int) * 2 ^ 1 + 1 := by rw [Int.pow_succ, Int.pow_zero, Int.one_mul]; omega
    rw [e]
    exact g2.le (by omega)
  have HO : Hid (∀ w', Calls zP 24 #[J zq 1] w' fun e w'' => (∃ r, e = zR r ∧ IsI w'' r 1) ∧ Ext w' w'') := fun w' => from_any 1 w' (by omega) (by omega)
  have HO2 : Hid (∀ w', Calls zP 57 #[J zu 2] w' fun e w'' => (∃ v', e = zR v' ∧ IsN w'' v' 2) ∧ Ext w' w'') := fun w' => nof_any 2 (by omega) w'
  have HL : Hid (∀ (s : Nat) r w', s * s ≤ N / d → IsI w' r (s : Int) → Calls zP 59 #[r, J zq 1] w' fun e w'' => (∃ r', e = zR r' ∧ IsI w'' r' ((2 * s : Nat) : Int)) ∧ Ext w' w'') := fun s r w' hs hr => by
    have f := (HS.out s hs).1
    have h := left_isI (s : Int) 1 r w' hr (f.small (by omega)) (by omega) ((f.shl 1).small (by omega))
    have e : (s : Int) * 2 ^ 1 = ((2 * s : Nat) : Int) := by rw [Int.pow_succ, Int.pow_zero, Int.one_mul]; omega
    rw [e] at h
    exact h
  have HP : Hid (∀ (s : Nat) r o w', s * s ≤ N / d → IsI w' r ((2 * s : Nat) : Int) → IsI w' o 1 → Calls zP 51 #[r, o] w' fun e w'' => (∃ r', e = zR r' ∧ IsI w'' r' ((2 * s + 1 : Nat) : Int)) ∧ Ext w' w'') := fun s r o w' hs hr ho => by
    have f := (HS.out s hs).2
    have h := plus_isI ((2 * s : Nat) : Int) 1 r o w' hr ho ((f.of_le (by rw [Int.natAbs_natCast, Int.natAbs_natCast]; omega)).small (by omega)) ((fit_one 1 (by omega) : Fit 1 1).small (by omega)) (by rw [show ((2 * s : Nat) : Int) + 1 = ((2 * s + 1 : Nat) : Int) by omega]; exact f.small (by omega))
    rw [show ((2 * s : Nat) : Int) + 1 = ((2 * s + 1 : Nat) : Int) by omega] at h
    exact h
  have HM : Hid (∀ (s : Nat) r o w', s * s ≤ N / d → IsI w' r ((2 * s + 1 : Nat) : Int) → IsN w' o 2 → Calls zP 99 #[r, o] w' fun e w'' => (∃ q, e = zR q ∧ IsQ w'' q ((2 * s + 1 : Nat) : Int) 2) ∧ Ext w' w'') := fun s r o w' hs hr ho => by
    have h := make_isQ ((2 * s + 1 : Nat) : Int) 2 (k + 3) r o w' hr ho (by omega) (by omega) (HS.out s hs).2 ((show Fit 2 ((2 : Nat) : Int) by unfold Fit; decide).le (by omega))
    rw [Int.natAbs_natCast, odd_gcd (2 * s + 1) 2 (by omega) (.inl rfl)] at h
    rw [show ((2 * s + 1 : Nat) : Int) / ((1 : Nat) : Int) = ((2 * s + 1 : Nat) : Int) by omega] at h
    exact h
  have HT : Hid (∀ (s : Nat) q w', s * s ≤ N / d → IsQ w' q ((2 * s + 1 : Nat) : Int) 2 → Calls zP 132 #[q, q] w' fun e w'' => (∃ q', e = zR q' ∧ IsQ w'' q' (((2 * s + 1) * (2 * s + 1) : Nat) : Int) 4) ∧ Ext w' w'') := fun s q w' hs hq => by
    have h := qtimes_any ((2 * s + 1 : Nat) : Int) ((2 * s + 1 : Nat) : Int) 2 2 (k + 3) q q w' hq hq (by omega) (by omega) (by omega) (HS.out s hs).2 (HS.out s hs).2 ((show Fit 2 ((2 : Nat) : Int) by unfold Fit; decide).le (by omega)) ((show Fit 2 ((2 : Nat) : Int) by unfold Fit; decide).le (by omega))
    rw [← Int.natCast_mul, Int.natAbs_natCast, odd_gcd ((2 * s + 1) * (2 * s + 1)) (2 * 2) (by rw [sq_odd]; omega) (.inr rfl)] at h
    rw [show (((2 * s + 1) * (2 * s + 1) : Nat) : Int) / ((1 : Nat) : Int) = (((2 * s + 1) * (2 * s + 1) : Nat) : Int) by omega] at h
    exact h
  have HC : Hid (∀ (s : Nat) q w', s * s ≤ N / d → Ext w w' → IsQ w' q (((2 * s + 1) * (2 * s + 1) : Nat) : Int) 4 → Calls zP 131 #[q, v] w' fun e w'' => e = zR (J zq (sgn ((((2 * s + 1) * (2 * s + 1) : Nat) : Int) * (d : Int) - (N : Int) * ((4 : Nat) : Int)))) ∧ Ext w' w'') := fun s q w' hs hx hq =>
    qcmp_any _ _ 4 d (k + 3 + (k + 3)) q v w' hq (h1.ext hx) (by omega) (by rw [Int.natCast_mul]; exact (HS.out s hs).2.mul (HS.out s hs).2) (f1.le (by omega)) ((show Fit 3 ((4 : Nat) : Int) by unfold Fit; decide).le (by omega)) (f2.le (by omega))
  have HP2 : Hid (∀ (s : Nat) r o w', s * s ≤ N / d → IsI w' r (s : Int) → IsI w' o 1 → Calls zP 51 #[r, o] w' fun e w'' => (∃ r', e = zR r' ∧ IsI w'' r' ((s + 1 : Nat) : Int)) ∧ Ext w' w'') := fun s r o w' hs hr ho => by
    have f := (HS.out s hs).1
    have h := plus_isI (s : Int) 1 r o w' hr ho (f.small (by omega)) ((fit_one 1 (by omega) : Fit 1 1).small (by omega)) ((f.add (fit_one _ (by omega))).small (by omega))
    rw [show (s : Int) + 1 = ((s + 1 : Nat) : Int) by omega] at h
    exact h
  have HR2 : Hid (∀ (s : Nat) r w', s * s ≤ N / d → IsI w' r (s : Int) → Calls zP 126 #[r, J zq 1] w' fun e w'' => (∃ r', e = zR r' ∧ IsI w'' r' ((s / 2 : Nat) : Int)) ∧ Ext w' w'') := fun s r w' hs hr => by
    have h := right_isI (s : Int) 1 (k + 3) r w' hr (by omega) (by omega) (HS.out s hs).1
    have e : (s : Int) / 2 ^ 1 = ((s / 2 : Nat) : Int) := by rw [Int.pow_succ, Int.pow_zero, Int.one_mul]; omega
    rw [e] at h
    exact h
  have HL2 : Hid (∀ (s : Nat) r w', s * s ≤ N / d → IsI w' r ((s / 2 : Nat) : Int) → Calls zP 59 #[r, J zq 1] w' fun e w'' => (∃ r', e = zR r' ∧ IsI w'' r' ((s / 2 * 2 : Nat) : Int)) ∧ Ext w' w'') := fun s r w' hs hr => by
    have f := (HS.out s hs).1.of_le (show ((s / 2 : Nat) : Int).natAbs ≤ (s : Int).natAbs by rw [Int.natAbs_natCast, Int.natAbs_natCast]; omega)
    have h := left_isI ((s / 2 : Nat) : Int) 1 r w' hr (f.small (by omega)) (by omega) ((f.shl 1).small (by omega))
    have e : ((s / 2 : Nat) : Int) * 2 ^ 1 = ((s / 2 * 2 : Nat) : Int) := by rw [Int.pow_succ, Int.pow_zero, Int.one_mul]; omega
    rw [e] at h
    exact h
  have HC2 : Hid (∀ (s : Nat) r r' w', s * s ≤ N / d → IsI w' r ((s / 2 * 2 : Nat) : Int) → IsI w' r' (s : Int) → Calls zP 20 #[r, r'] w' fun e w'' => e = zR (J zq (sgn (((s / 2 * 2 : Nat) : Int) - (s : Int)))) ∧ Ext w' w'') := fun s r r' w' hs hr hr' => by
    have f := (HS.out s hs).1
    have f' := f.of_le (show ((s / 2 * 2 : Nat) : Int).natAbs ≤ (s : Int).natAbs by rw [Int.natAbs_natCast, Int.natAbs_natCast]; omega)
    exact cmp_isI _ _ r r' w' hr hr' (f'.small (by omega)) (f.small (by omega)) ((f'.sub f).small (by omega))
  obtain ⟨u1, u2, rfl, k1, k2⟩ := h1
  rw [nat_nonneg] at HF HC HQ0 ⊢
  obtain ⟨a1, l1, c1, rfl⟩ := k1.isSlice
  obtain ⟨a2, l2, c2, rfl⟩ := k2.isSlice
  clear k1 k2 f1 f2 fN
  have XS : Hid (Ext w ((w.alloc (.cells #[.bool false, .slice a1 l1 c1, .slice a2 l2 c2] 96)).alloc (.cells #[.bool false, .slice none 0 0] 50))) := ((Ext.refl w).alloc _).alloc _
  have LS : Hid (LaidQ w.heap.size ((w.alloc (.cells #[.bool false, .slice a1 l1 c1, .slice a2 l2 c2] 96)).alloc (.cells #[.bool false, .slice none 0 0] 50)) (.bool false) (.slice a1 l1 c1) (.slice a2 l2 c2)) := laidQ_start w _ _ _
  go_enter Tryz.func102, Tryz.ntmps102
  go_wp2_with fail
  generalize ((w.alloc (.cells #[.bool false, .slice a1 l1 c1, .slice a2 l2 c2] 96)).alloc (.cells #[.bool false, .slice none 0 0] 50)) = W at *
  refine (HF.out _ XS.out).mono ?_
  rintro e w1 ⟨⟨r1, rfl, hr1⟩, x1⟩
  go_wp2_with fail
  refine (HR.out _ _ hr1).mono ?_
  rintro e w2 ⟨⟨r2, s, rfl, hr2, hs1, hs2⟩, x2⟩
  obtain ⟨u, hu, hk2⟩ := hr2
  obtain ⟨ak, lk, ck, ek⟩ := hk2.isSlice
  subst ek
  rw [nat_nonneg] at hu
  subst hu
  have X3 : Hid (Ext W (w2.alloc (.cells #[.bool false, .slice ak lk ck] 50))) := (x1.trans x2).alloc _
  have BK : Hid (Has (w2.alloc (.cells #[.bool false, .slice ak lk ck] 50)) w2.heap.size (.bool false) (.slice ak lk ck)) := ext_new1 (Ext.refl _)
  have HK : Hid (IsI (w2.alloc (.cells #[.bool false, .slice ak lk ck] 50)) (zG #[.bool false, .slice ak lk ck]) (s : Int)) := ⟨_, by rw [nat_nonneg], hk2.ext ((Ext.refl _).alloc _)⟩
  obtain ⟨b0, b1, b2, b3⟩ := BK.out
  have HS1 : Hid (s * s ≤ N / d) := hs1
  have HS2 : Hid (N / d < (s + 1) * (s + 1)) := hs2
  have hgk : w.heap.size + 1 < w2.heap.size := Nat.lt_of_lt_of_le LS.out.b.lt (x1.trans x2).size
  clear hr1 x1 x2 hk2 hs1 hs2
  go_wp2_with fail
  refine (HL.out s _ _ HS1.out HK.out).mono ?_
  rintro e w3 ⟨⟨r3, rfl, hr3⟩, x3⟩
  go_wp2_with fail
  refine (HO.out _).mono ?_
  rintro e w4 ⟨⟨r4, rfl, hr4⟩, x4⟩
  go_wp2_with fail
  refine (HP.out s _ _ _ HS1.out (hr3.ext x4) hr4).mono ?_
  rintro e w5 ⟨⟨r5, rfl, hr5⟩, x5⟩
  go_wp2_with fail
  refine (HO2.out _).mono ?_
  rintro e w6 ⟨⟨r6, rfl, hr6⟩, x6⟩
  go_wp2_with fail
  refine (HM.out s _ _ _ HS1.out (hr5.ext x6) hr6).mono ?_
  rintro e w7 ⟨⟨r7, rfl, hr7⟩, x7⟩
  obtain ⟨uq, ud, hq, hq1, hq2⟩ := hr7
  obtain ⟨an, ln, cn, en⟩ := hq1.isSlice
  obtain ⟨ad, ld, cd, ed⟩ := hq2.isSlice
  subst en ed
  rw [nat_nonneg] at hq
  subst hq
  have x37 : Hid (Ext (w2.alloc (.cells #[.bool false, .slice ak lk ck] 50)) (w7.alloc (.cells #[.bool false, .slice an ln cn, .slice ad ld cd] 96))) := ((((x3.trans x4).trans x5).trans x6).trans x7).alloc _
  have X7 : Hid (Ext W (w7.alloc (.cells #[.bool false, .slice an ln cn, .slice ad ld cd] 96))) := X3.out.trans x37.out
  have BK7 : Hid (Has (w7.alloc (.cells #[.bool false, .slice an ln cn, .slice ad ld cd] 96)) w2.heap.size (.bool false) (.slice ak lk ck)) := BK.out.ext x37.out
  have HK7 : Hid (IsI (w7.alloc (.cells #[.bool false, .slice an ln cn, .slice ad ld cd] 96)) (zG #[.bool false, .slice ak lk ck]) (s : Int)) := HK.out.ext x37.out
  have BH : Hid (Has3 (w7.alloc (.cells #[.bool false, .slice an ln cn, .slice ad ld cd] 96)) w7.heap.size (.bool false) (.slice an ln cn) (.slice ad ld cd)) := has3_new _ _ _ _ _
  have HH : Hid (IsQ (w7.alloc (.cells #[.bool false, .slice an ln cn, .slice ad ld cd] 96)) (zG #[.bool false, .slice an ln cn, .slice ad ld cd]) ((2 * s + 1 : Nat) : Int) 2) := ⟨_, _, by rw [nat_nonneg], hq1.ext ((Ext.refl _).alloc _), hq2.ext ((Ext.refl _).alloc _)⟩
  clear hr3 hr4 hr5 hr6 hq1 hq2 x3 x4 x5 x6 x7 x37 b0 b1 b2 b3 BK HK X3 HL HP HM HO2
  have hlo : s * s * d ≤ N := Nat.le_trans (Nat.mul_le_mul_right d HS1.out) (Nat.div_mul_le_self N d)
  have hhi : N < (s + 1) * (s + 1) * d := by rw [← Nat.div_lt_iff_lt_mul (by omega)]; exact HS2.out
  have hd0 : 0 < d := by omega
  have ecast : (((2 * s + 1) * (2 * s + 1) : Nat) : Int) * (d : Int) - (N : Int) * ((4 : Nat) : Int) = (((2 * s + 1) * (2 * s + 1) * d : Nat) : Int) - ((4 * N : Nat) : Int) := by rw [Int.natCast_mul ((2 * s + 1) * (2 * s + 1)) d]; omega
  by_cases hc : (2 * s + 1) * (2 * s + 1) * d < 4 * N
  · have HZ : Hid (RootQ N d (s + 1)) := rootQ_up hhi (.inl hc)
    have ec : sgn ((((2 * s + 1) * (2 * s + 1) : Nat) : Int) * (d : Int) - (N : Int) * ((4 : Nat) : Int)) = -1 := by rw [ecast]; unfold sgn; rw [if_pos (by omega)]
    have HC' : Hid (∀ q w', Ext w w' → IsQ w' q (((2 * s + 1) * (2 * s + 1) : Nat) : Int) 4 → Calls zP 131 #[q, zG #[.bool false, .slice a1 l1 c1, .slice a2 l2 c2]] w' fun e w'' => e = zR (J zq (-1)) ∧ Ext w' w'') := fun q w' hx hq => by
      have h := HC.out s q w' HS1.out hx hq
      rw [ec] at h
      exact h
    clear hc ec hlo hhi hd0 ecast HS
    go_wp2_with fail
    generalize w7.alloc (.cells #[.bool false, .slice an ln cn, .slice ad ld cd] 96) = W7 at *
    generalize w7.heap.size = gh at *
    obtain ⟨h0, h1', h2', h3', h4', h5'⟩ := BH.out
    obtain ⟨⟨i0, i1, i2, i3, i4, i5⟩, _⟩ := LS.out.ext X7.out
    go_region_held (fun w' => w'.cell? ⟨gh, 0, none⟩ = some (.bool false) ∧ w'.cell? ⟨gh, 1, none⟩ = some (.slice an ln cn) ∧ w'.cell? ⟨gh, 2, none⟩ = some (.slice ad ld cd) ∧ w'.cell? ⟨w.heap.size, 0, none⟩ = some (.bool false) ∧ w'.cell? ⟨w.heap.size, 1, none⟩ = some (.slice a1 l1 c1) ∧ w'.cell? ⟨w.heap.size, 2, none⟩ = some (.slice a2 l2 c2)) (go_keep) (first | (go_at_call 132; refine (HT.out s _ _ HS1.out (HH.out.ext ((Ext.refl _).drew))).mono ?_; rintro e w8 ⟨⟨q8, rfl, hq8⟩, x8⟩; obtain ⟨d0, d1, d2, d3, d4, d5⟩ := BH.out.ext (cell_drew x8); obtain ⟨⟨d6, d7, d8, d9, d10, d11⟩, _⟩ := LS.out.ext (X7.out.trans (cell_drew x8))) | (go_at_call 131; refine (HC'.out _ _ (XS.out.trans (X7.out.trans (cell_drew x8))) hq8).mono ?_; rintro e w9 ⟨rfl, x9⟩; obtain ⟨e0, e1, e2, e3, e4, e5⟩ := BH.out.ext ((cell_drew x8).trans x9); obtain ⟨⟨e6, e7, e8, e9, e10, e11⟩, ⟨r0, r1', r2', r3⟩⟩ := LS.out.ext (X7.out.trans ((cell_drew x8).trans x9)); obtain ⟨g0, g1, g2, g3⟩ := BK7.out.ext ((cell_drew x8).trans x9)))
    have X9 : Hid (Ext W w9) := X7.out.trans ((cell_drew x8).trans x9)
    have BK9 : Hid (Has w9 w2.heap.size (.bool false) (.slice ak lk ck)) := BK7.out.ext ((cell_drew x8).trans x9)
    have HK9 : Hid (IsI w9 (zG #[.bool false, .slice ak lk ck]) (s : Int)) := HK7.out.ext ((cell_drew x8).trans x9)
    clear x8 x9 hq8 d0 d1 d2 d3 d4 d5 d6 d7 d8 d9 d10 d11 e0 e1 e2 e3 e4 e5 e6 e7 e8 e9 e10 e11 h0 h1' h2' h3' h4' h5' i0 i1 i2 i3 i4 i5 BH HH BK7 HK7 X7 HT HC HC'
    go_wp2_with fail
    go_quiet (fail)
    go_wp2_with fail
    have BN : Hid (Has (w9.drewN nq) w2.heap.size (.bool false) (.slice ak lk ck)) := BK9.out.ext ((Ext.refl _).drewN _)
    have HN9 : Hid (IsI (w9.drewN nq) (zG #[.bool false, .slice ak lk ck]) (s : Int)) := HK9.out.ext ((Ext.refl _).drewN _)
    have XN : Hid (Ext W (w9.drewN nq)) := X9.out.drewN _
    clear g0 g1 g2 g3 r0 r1' r2' r3
    generalize w9.drewN nq = Wn at *
    obtain ⟨g0, g1, g2, g3⟩ := BN.out
    have n1 : w2.heap.size ≠ w.heap.size + 1 := by omega
    go_region_held (fun w' => w'.cell? ⟨w2.heap.size, 0, none⟩ = some (.bool false) ∧ w'.cell? ⟨w2.heap.size, 1, none⟩ = some (.slice ak lk ck)) (first | (go_keep; done) | (simp only [far2 _ _ _ _ _ n1]; exact ⟨by assumption, by assumption⟩)) (first | (go_at_call 24; refine (HO.out _).mono ?_; rintro e wa ⟨⟨oa, rfl, hoa⟩, xa⟩; obtain ⟨ka0, ka1, ka2, ka3⟩ := BN.out.ext (cell_drew xa); obtain ⟨_, ⟨ra0, ra1, ra2, ra3⟩⟩ := LS.out.ext (XN.out.trans (cell_drew xa))) | (go_at_call 51; refine (HP2.out s _ _ _ HS1.out (HN9.out.ext (cell_drew xa)) hoa).mono ?_; rintro e wb ⟨⟨ob, rfl, hob⟩, xb⟩; obtain ⟨kb0, kb1, kb2, kb3⟩ := BN.out.ext ((cell_drew xa).trans xb); obtain ⟨_, ⟨rb0, rb1, rb2, rb3⟩⟩ := LS.out.ext (XN.out.trans ((cell_drew xa).trans xb)); obtain ⟨ub, hub, kb⟩ := hob; obtain ⟨ab, lb, cb, hab⟩ := kb.isSlice; subst hab; rw [nat_nonneg] at hub; subst hub))
    have XF : Hid (Ext w wb) := XS.out.trans (XN.out.trans ((cell_drew xa).trans xb))
    have HIF : Hid (IsI wb (zG #[.bool false, .slice ab lb cb]) ((s + 1 : Nat) : Int)) := ⟨_, by rw [nat_nonneg], kb⟩
    go_wp2_with fail
    exact bodyPost_ret (v := zG #[.bool false, .slice ab lb cb]) (by simp [results, Tryz.results102, go_sem, rb0, rb1]) rfl ⟨⟨_, s + 1, rfl, HIF.out.set2 rb0 rb1, HZ.out⟩, (XF.out.setCell (show w.heap.size ≤ w.heap.size + 1 by omega) _).setCell (show w.heap.size ≤ w.heap.size + 1 by omega) _⟩
  · by_cases hc2 : 4 * N < (2 * s + 1) * (2 * s + 1) * d
    · have HZ : Hid (RootQ N d s) := rootQ_down hd0 hlo (.inl hc2)
      have ec : sgn ((((2 * s + 1) * (2 * s + 1) : Nat) : Int) * (d : Int) - (N : Int) * ((4 : Nat) : Int)) = 1 := by rw [ecast]; unfold sgn; rw [if_neg (by omega), if_neg (by omega)]
      have HC' : Hid (∀ q w', Ext w w' → IsQ w' q (((2 * s + 1) * (2 * s + 1) : Nat) : Int) 4 → Calls zP 131 #[q, zG #[.bool false, .slice a1 l1 c1, .slice a2 l2 c2]] w' fun e w'' => e = zR (J zq 1) ∧ Ext w' w'') := fun q w' hx hq => by
        have h := HC.out s q w' HS1.out hx hq
        rw [ec] at h
        exact h
      clear hc hc2 ec hlo hhi hd0 ecast HS
      go_wp2_with fail
      generalize w7.alloc (.cells #[.bool false, .slice an ln cn, .slice ad ld cd] 96) = W7 at *
      generalize w7.heap.size = gh at *
      obtain ⟨h0, h1', h2', h3', h4', h5'⟩ := BH.out
      obtain ⟨⟨i0, i1, i2, i3, i4, i5⟩, _⟩ := LS.out.ext X7.out
      go_region_held (fun w' => w'.cell? ⟨gh, 0, none⟩ = some (.bool false) ∧ w'.cell? ⟨gh, 1, none⟩ = some (.slice an ln cn) ∧ w'.cell? ⟨gh, 2, none⟩ = some (.slice ad ld cd) ∧ w'.cell? ⟨w.heap.size, 0, none⟩ = some (.bool false) ∧ w'.cell? ⟨w.heap.size, 1, none⟩ = some (.slice a1 l1 c1) ∧ w'.cell? ⟨w.heap.size, 2, none⟩ = some (.slice a2 l2 c2)) (go_keep) (first | (go_at_call 132; refine (HT.out s _ _ HS1.out (HH.out.ext ((Ext.refl _).drew))).mono ?_; rintro e w8 ⟨⟨q8, rfl, hq8⟩, x8⟩; obtain ⟨d0, d1, d2, d3, d4, d5⟩ := BH.out.ext (cell_drew x8); obtain ⟨⟨d6, d7, d8, d9, d10, d11⟩, _⟩ := LS.out.ext (X7.out.trans (cell_drew x8))) | (go_at_call 131; refine (HC'.out _ _ (XS.out.trans (X7.out.trans (cell_drew x8))) hq8).mono ?_; rintro e w9 ⟨rfl, x9⟩; obtain ⟨e0, e1, e2, e3, e4, e5⟩ := BH.out.ext ((cell_drew x8).trans x9); obtain ⟨⟨e6, e7, e8, e9, e10, e11⟩, ⟨r0, r1', r2', r3⟩⟩ := LS.out.ext (X7.out.trans ((cell_drew x8).trans x9)); obtain ⟨g0, g1, g2, g3⟩ := BK7.out.ext ((cell_drew x8).trans x9)))
      have X9 : Hid (Ext W w9) := X7.out.trans ((cell_drew x8).trans x9)
      have BK9 : Hid (Has w9 w2.heap.size (.bool false) (.slice ak lk ck)) := BK7.out.ext ((cell_drew x8).trans x9)
      have HK9 : Hid (IsI w9 (zG #[.bool false, .slice ak lk ck]) (s : Int)) := HK7.out.ext ((cell_drew x8).trans x9)
      clear x8 x9 hq8 d0 d1 d2 d3 d4 d5 d6 d7 d8 d9 d10 d11 e0 e1 e2 e3 e4 e5 e6 e7 e8 e9 e10 e11 h0 h1' h2' h3' h4' h5' i0 i1 i2 i3 i4 i5 BH HH BK7 HK7 X7 HT HC HC'
      go_wp2_with fail
      go_quiet (fail)
      have XF : Hid (Ext w (w9.drewN nq)) := XS.out.trans (X9.out.drewN _)
      have HIF : Hid (IsI (w9.drewN nq) (zG #[.bool false, .slice ak lk ck]) (s : Int)) := HK9.out.ext ((Ext.refl _).drewN _)
      obtain ⟨_, ⟨rb0, rb1, rb2, rb3⟩⟩ := LS.out.ext (X9.out.drewN nq)
      obtain ⟨kk0, kk1, kk2, kk3⟩ := BK9.out.ext ((Ext.refl _).drewN nq)
      clear g0 g1 g2 g3 r0 r1' r2' r3
      go_wp2_with fail
      exact bodyPost_ret (v := zG #[.bool false, .slice ak lk ck]) (by simp [results, Tryz.results102, go_sem, rb0, rb1]) rfl ⟨⟨_, s, rfl, HIF.out.set2 rb0 rb1, HZ.out⟩, (XF.out.setCell (show w.heap.size ≤ w.heap.size + 1 by omega) _).setCell (show w.heap.size ≤ w.heap.size + 1 by omega) _⟩
    · by_cases hpar : s % 2 = 1
      · have HZ : Hid (RootQ N d (s + 1)) := rootQ_up hhi (.inr ⟨by omega, hpar⟩)
        have ec : sgn ((((2 * s + 1) * (2 * s + 1) : Nat) : Int) * (d : Int) - (N : Int) * ((4 : Nat) : Int)) = 0 := by rw [ecast]; unfold sgn; rw [if_neg (by omega), if_pos (by omega)]
        have HC' : Hid (∀ q w', Ext w w' → IsQ w' q (((2 * s + 1) * (2 * s + 1) : Nat) : Int) 4 → Calls zP 131 #[q, zG #[.bool false, .slice a1 l1 c1, .slice a2 l2 c2]] w' fun e w'' => e = zR (J zq 0) ∧ Ext w' w'') := fun q w' hx hq => by
          have h := HC.out s q w' HS1.out hx hq
          rw [ec] at h
          exact h
        have HC2' : Hid (∀ r r' w', IsI w' r ((s / 2 * 2 : Nat) : Int) → IsI w' r' (s : Int) → Calls zP 20 #[r, r'] w' fun e w'' => e = zR (J zq (-1)) ∧ Ext w' w'') := fun r r' w' hr hr' => by
          have h := HC2.out s r r' w' HS1.out hr hr'
          rw [show sgn (((s / 2 * 2 : Nat) : Int) - (s : Int)) = (-1) by unfold sgn; rw [if_pos (by omega)]] at h
          exact h
        clear hc hc2 hpar ec hlo hhi hd0 ecast HS
        go_wp2_with fail
        generalize w7.alloc (.cells #[.bool false, .slice an ln cn, .slice ad ld cd] 96) = W7 at *
        generalize w7.heap.size = gh at *
        obtain ⟨h0, h1', h2', h3', h4', h5'⟩ := BH.out
        obtain ⟨⟨i0, i1, i2, i3, i4, i5⟩, _⟩ := LS.out.ext X7.out
        go_region_held (fun w' => w'.cell? ⟨gh, 0, none⟩ = some (.bool false) ∧ w'.cell? ⟨gh, 1, none⟩ = some (.slice an ln cn) ∧ w'.cell? ⟨gh, 2, none⟩ = some (.slice ad ld cd) ∧ w'.cell? ⟨w.heap.size, 0, none⟩ = some (.bool false) ∧ w'.cell? ⟨w.heap.size, 1, none⟩ = some (.slice a1 l1 c1) ∧ w'.cell? ⟨w.heap.size, 2, none⟩ = some (.slice a2 l2 c2)) (go_keep) (first | (go_at_call 132; refine (HT.out s _ _ HS1.out (HH.out.ext ((Ext.refl _).drew))).mono ?_; rintro e w8 ⟨⟨q8, rfl, hq8⟩, x8⟩; obtain ⟨d0, d1, d2, d3, d4, d5⟩ := BH.out.ext (cell_drew x8); obtain ⟨⟨d6, d7, d8, d9, d10, d11⟩, _⟩ := LS.out.ext (X7.out.trans (cell_drew x8))) | (go_at_call 131; refine (HC'.out _ _ (XS.out.trans (X7.out.trans (cell_drew x8))) hq8).mono ?_; rintro e w9 ⟨rfl, x9⟩; obtain ⟨e0, e1, e2, e3, e4, e5⟩ := BH.out.ext ((cell_drew x8).trans x9); obtain ⟨⟨e6, e7, e8, e9, e10, e11⟩, ⟨r0, r1', r2', r3⟩⟩ := LS.out.ext (X7.out.trans ((cell_drew x8).trans x9)); obtain ⟨g0, g1, g2, g3⟩ := BK7.out.ext ((cell_drew x8).trans x9)))
        have X9 : Hid (Ext W w9) := X7.out.trans ((cell_drew x8).trans x9)
        have BK9 : Hid (Has w9 w2.heap.size (.bool false) (.slice ak lk ck)) := BK7.out.ext ((cell_drew x8).trans x9)
        have HK9 : Hid (IsI w9 (zG #[.bool false, .slice ak lk ck]) (s : Int)) := HK7.out.ext ((cell_drew x8).trans x9)
        clear x8 x9 hq8 d0 d1 d2 d3 d4 d5 d6 d7 d8 d9 d10 d11 e0 e1 e2 e3 e4 e5 e6 e7 e8 e9 e10 e11 h0 h1' h2' h3' h4' h5' i0 i1 i2 i3 i4 i5 BH HH BK7 HK7 X7 HT HC HC'
        go_wp2_with fail
        obtain ⟨g0', g1', g2', g3'⟩ := BK9.out
        go_region_held (fun w' => w'.cell? ⟨w2.heap.size, 0, none⟩ = some (.bool false) ∧ w'.cell? ⟨w2.heap.size, 1, none⟩ = some (.slice ak lk ck)) (go_keep) (first | (go_at_call 126; refine (HR2.out s _ _ HS1.out (HK9.out.ext ((Ext.refl _).drew))).mono ?_; rintro e wp ⟨⟨op, rfl, hop⟩, xp⟩; obtain ⟨kp0, kp1, kp2, kp3⟩ := BK9.out.ext (cell_drew xp)) | (go_at_call 59; refine (HL2.out s _ _ HS1.out hop).mono ?_; rintro e wq ⟨⟨oq, rfl, hoq⟩, xq⟩; obtain ⟨kq0, kq1, kq2, kq3⟩ := BK9.out.ext ((cell_drew xp).trans xq)) | (go_at_call 20; refine (HC2'.out _ _ _ hoq (HK9.out.ext ((cell_drew xp).trans xq))).mono ?_; rintro e wt ⟨rfl, xt⟩; obtain ⟨kt0, kt1, kt2, kt3⟩ := BK9.out.ext (((cell_drew xp).trans xq).trans xt)))
        have xpt : Hid (Ext w9 wt) := ((cell_drew xp).trans xq).trans xt
        have BN : Hid (Has wt w2.heap.size (.bool false) (.slice ak lk ck)) := BK9.out.ext xpt.out
        have HN9 : Hid (IsI wt (zG #[.bool false, .slice ak lk ck]) (s : Int)) := HK9.out.ext xpt.out
        have XN : Hid (Ext W wt) := X9.out.trans xpt.out
        clear g0 g1 g2 g3 r0 r1' r2' r3 g0' g1' g2' g3' xp xq xt hop hoq kp0 kp1 kp2 kp3 kq0 kq1 kq2 kq3 kt0 kt1 kt2 kt3
        go_wp2_with fail
        generalize wt = Wn at *
        obtain ⟨g0, g1, g2, g3⟩ := BN.out
        have n1 : w2.heap.size ≠ w.heap.size + 1 := by omega
        go_region_held (fun w' => w'.cell? ⟨w2.heap.size, 0, none⟩ = some (.bool false) ∧ w'.cell? ⟨w2.heap.size, 1, none⟩ = some (.slice ak lk ck)) (first | (go_keep; done) | (simp only [far2 _ _ _ _ _ n1]; exact ⟨by assumption, by assumption⟩)) (first | (go_at_call 24; refine (HO.out _).mono ?_; rintro e wa ⟨⟨oa, rfl, hoa⟩, xa⟩; obtain ⟨ka0, ka1, ka2, ka3⟩ := BN.out.ext (cell_drew xa); obtain ⟨_, ⟨ra0, ra1, ra2, ra3⟩⟩ := LS.out.ext (XN.out.trans (cell_drew xa))) | (go_at_call 51; refine (HP2.out s _ _ _ HS1.out (HN9.out.ext (cell_drew xa)) hoa).mono ?_; rintro e wb ⟨⟨ob, rfl, hob⟩, xb⟩; obtain ⟨kb0, kb1, kb2, kb3⟩ := BN.out.ext ((cell_drew xa).trans xb); obtain ⟨_, ⟨rb0, rb1, rb2, rb3⟩⟩ := LS.out.ext (XN.out.trans ((cell_drew xa).trans xb)); obtain ⟨ub, hub, kb⟩ := hob; obtain ⟨ab, lb, cb, hab⟩ := kb.isSlice; subst hab; rw [nat_nonneg] at hub; subst hub))
        have XF : Hid (Ext w wb) := XS.out.trans (XN.out.trans ((cell_drew xa).trans xb))
        have HIF : Hid (IsI wb (zG #[.bool false, .slice ab lb cb]) ((s + 1 : Nat) : Int)) := ⟨_, by rw [nat_nonneg], kb⟩
        go_wp2_with fail
        exact bodyPost_ret (v := zG #[.bool false, .slice ab lb cb]) (by simp [results, Tryz.results102, go_sem, rb0, rb1]) rfl ⟨⟨_, s + 1, rfl, HIF.out.set2 rb0 rb1, HZ.out⟩, (XF.out.setCell (show w.heap.size ≤ w.heap.size + 1 by omega) _).setCell (show w.heap.size ≤ w.heap.size + 1 by omega) _⟩
      · have HZ : Hid (RootQ N d s) := rootQ_down hd0 hlo (.inr ⟨by omega, by omega⟩)
        have ec : sgn ((((2 * s + 1) * (2 * s + 1) : Nat) : Int) * (d : Int) - (N : Int) * ((4 : Nat) : Int)) = 0 := by rw [ecast]; unfold sgn; rw [if_neg (by omega), if_pos (by omega)]
        have HC' : Hid (∀ q w', Ext w w' → IsQ w' q (((2 * s + 1) * (2 * s + 1) : Nat) : Int) 4 → Calls zP 131 #[q, zG #[.bool false, .slice a1 l1 c1, .slice a2 l2 c2]] w' fun e w'' => e = zR (J zq 0) ∧ Ext w' w'') := fun q w' hx hq => by
          have h := HC.out s q w' HS1.out hx hq
          rw [ec] at h
          exact h
        have HC2' : Hid (∀ r r' w', IsI w' r ((s / 2 * 2 : Nat) : Int) → IsI w' r' (s : Int) → Calls zP 20 #[r, r'] w' fun e w'' => e = zR (J zq 0) ∧ Ext w' w'') := fun r r' w' hr hr' => by
          have h := HC2.out s r r' w' HS1.out hr hr'
          rw [show sgn (((s / 2 * 2 : Nat) : Int) - (s : Int)) = 0 by unfold sgn; rw [if_neg (by omega), if_pos (by omega)]] at h
          exact h
        clear hc hc2 hpar ec hlo hhi hd0 ecast HS
        go_wp2_with fail
        generalize w7.alloc (.cells #[.bool false, .slice an ln cn, .slice ad ld cd] 96) = W7 at *
        generalize w7.heap.size = gh at *
        obtain ⟨h0, h1', h2', h3', h4', h5'⟩ := BH.out
        obtain ⟨⟨i0, i1, i2, i3, i4, i5⟩, _⟩ := LS.out.ext X7.out
        go_region_held (fun w' => w'.cell? ⟨gh, 0, none⟩ = some (.bool false) ∧ w'.cell? ⟨gh, 1, none⟩ = some (.slice an ln cn) ∧ w'.cell? ⟨gh, 2, none⟩ = some (.slice ad ld cd) ∧ w'.cell? ⟨w.heap.size, 0, none⟩ = some (.bool false) ∧ w'.cell? ⟨w.heap.size, 1, none⟩ = some (.slice a1 l1 c1) ∧ w'.cell? ⟨w.heap.size, 2, none⟩ = some (.slice a2 l2 c2)) (go_keep) (first | (go_at_call 132; refine (HT.out s _ _ HS1.out (HH.out.ext ((Ext.refl _).drew))).mono ?_; rintro e w8 ⟨⟨q8, rfl, hq8⟩, x8⟩; obtain ⟨d0, d1, d2, d3, d4, d5⟩ := BH.out.ext (cell_drew x8); obtain ⟨⟨d6, d7, d8, d9, d10, d11⟩, _⟩ := LS.out.ext (X7.out.trans (cell_drew x8))) | (go_at_call 131; refine (HC'.out _ _ (XS.out.trans (X7.out.trans (cell_drew x8))) hq8).mono ?_; rintro e w9 ⟨rfl, x9⟩; obtain ⟨e0, e1, e2, e3, e4, e5⟩ := BH.out.ext ((cell_drew x8).trans x9); obtain ⟨⟨e6, e7, e8, e9, e10, e11⟩, ⟨r0, r1', r2', r3⟩⟩ := LS.out.ext (X7.out.trans ((cell_drew x8).trans x9)); obtain ⟨g0, g1, g2, g3⟩ := BK7.out.ext ((cell_drew x8).trans x9)))
        have X9 : Hid (Ext W w9) := X7.out.trans ((cell_drew x8).trans x9)
        have BK9 : Hid (Has w9 w2.heap.size (.bool false) (.slice ak lk ck)) := BK7.out.ext ((cell_drew x8).trans x9)
        have HK9 : Hid (IsI w9 (zG #[.bool false, .slice ak lk ck]) (s : Int)) := HK7.out.ext ((cell_drew x8).trans x9)
        clear x8 x9 hq8 d0 d1 d2 d3 d4 d5 d6 d7 d8 d9 d10 d11 e0 e1 e2 e3 e4 e5 e6 e7 e8 e9 e10 e11 h0 h1' h2' h3' h4' h5' i0 i1 i2 i3 i4 i5 BH HH BK7 HK7 X7 HT HC HC'
        go_wp2_with fail
        obtain ⟨g0', g1', g2', g3'⟩ := BK9.out
        go_region_held (fun w' => w'.cell? ⟨w2.heap.size, 0, none⟩ = some (.bool false) ∧ w'.cell? ⟨w2.heap.size, 1, none⟩ = some (.slice ak lk ck)) (go_keep) (first | (go_at_call 126; refine (HR2.out s _ _ HS1.out (HK9.out.ext ((Ext.refl _).drew))).mono ?_; rintro e wp ⟨⟨op, rfl, hop⟩, xp⟩; obtain ⟨kp0, kp1, kp2, kp3⟩ := BK9.out.ext (cell_drew xp)) | (go_at_call 59; refine (HL2.out s _ _ HS1.out hop).mono ?_; rintro e wq ⟨⟨oq, rfl, hoq⟩, xq⟩; obtain ⟨kq0, kq1, kq2, kq3⟩ := BK9.out.ext ((cell_drew xp).trans xq)) | (go_at_call 20; refine (HC2'.out _ _ _ hoq (HK9.out.ext ((cell_drew xp).trans xq))).mono ?_; rintro e wt ⟨rfl, xt⟩; obtain ⟨kt0, kt1, kt2, kt3⟩ := BK9.out.ext (((cell_drew xp).trans xq).trans xt)))
        have xpt : Hid (Ext w9 wt) := ((cell_drew xp).trans xq).trans xt
        have BN : Hid (Has wt w2.heap.size (.bool false) (.slice ak lk ck)) := BK9.out.ext xpt.out
        have HN9 : Hid (IsI wt (zG #[.bool false, .slice ak lk ck]) (s : Int)) := HK9.out.ext xpt.out
        have XN : Hid (Ext W wt) := X9.out.trans xpt.out
        clear g0 g1 g2 g3 r0 r1' r2' r3 g0' g1' g2' g3' xp xq xt hop hoq kp0 kp1 kp2 kp3 kq0 kq1 kq2 kq3 kt0 kt1 kt2 kt3
        have XF : Hid (Ext w wt) := XS.out.trans XN.out
        obtain ⟨_, ⟨rb0, rb1, rb2, rb3⟩⟩ := LS.out.ext XN.out
        obtain ⟨kk0, kk1, kk2, kk3⟩ := BN.out
        go_wp2_with fail
        exact bodyPost_ret (v := zG #[.bool false, .slice ak lk ck]) (by simp [results, Tryz.results102, go_sem, rb0, rb1]) rfl ⟨⟨_, s, rfl, HN9.out.set2 rb0 rb1, HZ.out⟩, (XF.out.setCell (show w.heap.size ≤ w.heap.size + 1 by omega) _).setCell (show w.heap.size ≤ w.heap.size + 1 by omega) _⟩
end Go.Proofs.YtoeecldhbabmbaaGreat
