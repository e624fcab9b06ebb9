/- The reference's rational numbers: Floor of a whole number, Times, Cmp. -/
import Derived.Test.YtojcndgoihkfnaaMg43
namespace Go.Proofs.Ytojcndgoihkfnaa
open Go.RowKit

set_option maxHeartbeats 8000000 in
theorem floor_any (x : Int) (k : Nat) (v : Value) (w : World) (h1 : IsQ w v x 1) (hk : k ≤ 3000) (hk1 : 1 ≤ k) (f1 : Fit k x) :
    Calls Try.prog 61 #[v] w fun e w' => (∃ r, e = .returned r ∧ IsI w' r x) ∧ Ext w w' := by
  have HQ : Hid (∀ w', Ext w w' → IsQ w' v x 1) := fun w' hx => h1.ext hx
  have HE : Hid (∀ w', Ext w w' → Calls Try.prog 89 #[v] w' fun e w'' => (∃ r, e = .returned r ∧ IsI w'' r ((1 : Nat) : Int)) ∧ Ext w' w'') := fun w' hx => den_any x 1 v w' (h1.ext hx) (small_64 1 (by omega))
  obtain ⟨u1, u2, rfl, k1, k2⟩ := h1
  have HI : Hid (∀ w', Ext w w' → IsI w' (.agg #[.bool (decide (x < 0)), u1]) x) := fun w' hx => ⟨u1, rfl, k1.ext hx⟩
  have HD : Hid (∀ r1 r2 w', IsI w' r1 x → IsI w' r2 ((1 : Nat) : Int) → Calls Try.prog 88 #[r1, r2] w' fun e w'' => (∃ q r, e = .returned (.tuple #[q, r]) ∧ IsI w'' q x ∧ IsI w'' r 0) ∧ Ext w' w'') := fun r1 r2 w' hr1 hr2 => by
    have h := divide_isI x ((1 : Nat) : Int) k r1 r2 w' hr1 hr2 (by omega) f1 (fit_one k hk1) (by omega)
    rw [show x / ((1 : Nat) : Int) = x by omega, show x % ((1 : Nat) : Int) = 0 by omega] at h
    exact h
  obtain ⟨a1, l1, c1, rfl⟩ := k1.isSlice
  obtain ⟨a2, l2, c2, rfl⟩ := k2.isSlice
  clear k1 k2 f1
  have XS : Hid (Ext w ((w.alloc (.cells #[.bool (decide (x < 0)), .slice a1 l1 c1, .slice a2 l2 c2] 87)).alloc (.cells #[.bool false, .slice none 0 0] 72))) := ((Ext.refl w).alloc _).alloc _
  have LS : Hid (LaidQ w.heap.size ((w.alloc (.cells #[.bool (decide (x < 0)), .slice a1 l1 c1, .slice a2 l2 c2] 87)).alloc (.cells #[.bool false, .slice none 0 0] 72)) (.bool (decide (x < 0))) (.slice a1 l1 c1) (.slice a2 l2 c2)) := laidQ_start w _ _ _
  generalize decide (x < 0) = b at *
  go_enter Try.func61, Try.ntmps61
  go_upto_region 1 with fail
  generalize ((w.alloc (.cells #[.bool b, .slice a1 l1 c1, .slice a2 l2 c2] 87)).alloc (.cells #[.bool false, .slice none 0 0] 72)) = W at *
  obtain ⟨⟨p0, p1, p2, p3, p4, p5⟩, _⟩ := LS.out
  obtain ⟨nes0a, nes0b, nes0c, nes0d⟩ := nes LS.out (Ext.refl W)
  go_cut [3, 4] (fun s3 s4 wx => ∃ gq gr aq lq cq ar lr cr, s3 = .pointer (some ⟨gq, 0, none⟩) ∧ s4 = .pointer (some ⟨gr, 0, none⟩) ∧ Hid (Both W wx gq gr (.bool (decide (x < 0))) (.slice aq lq cq) (.bool (decide ((0 : Int) < 0))) (.slice ar lr cr) x.natAbs (0 : Int).natAbs))
  case first =>
    go_region_held (fun w' => w'.cell? ⟨w.heap.size, 0, none⟩ = some (.bool b) ∧ w'.cell? ⟨w.heap.size, 1, none⟩ = some (.slice a1 l1 c1) ∧ w'.cell? ⟨w.heap.size, 2, none⟩ = some (.slice a2 l2 c2)) (first | (go_keep; done) | skip) (first | (go_at_call 89; refine (HE.out _ (by first | exact XS.out | exact (XS.out).drew | exact (XS.out).alloc _ | exact (XS.out).drew.alloc _ | exact ((XS.out).alloc _).alloc _ | exact ((XS.out).drew.alloc _).alloc _)).mono ?_; rintro e w1 ⟨⟨r1, rfl, hr1⟩, x1⟩; have X1 : Hid (Ext W w1) := (by first | exact x1 | exact cell_drew x1 | exact ((Ext.refl W).alloc _).trans x1 | exact ((Ext.refl W).drew.alloc _).trans x1 | exact (((Ext.refl W).alloc _).alloc _).trans x1 | exact (((Ext.refl W).drew.alloc _).alloc _).trans x1); obtain ⟨⟨s0, s1, s2, s3, s4, s5⟩, _⟩ := LS.out.ext X1.out; obtain ⟨nes1a, nes1b, nes1c, nes1d⟩ := nes LS.out X1.out; (try (first | have N1 : Hid _ := ext_new1 x1 | have N1 : Hid _ := ext_new1 (cell_drew x1)); (try simp only [World.size_alloc] at N1); obtain ⟨N1a, N1b, N1c, N1d, N1e, N1f, N1g, N1h, N1i, N1j⟩ := N1.out.kn); (try (first | have M1 : Hid _ := ext_new2 x1 | have M1 : Hid _ := ext_new2 (cell_drew x1)); (try simp only [World.size_alloc] at M1); obtain ⟨M1a, M1b, M1c, M1d, M1e, M1f, M1g, M1h, M1i, M1j⟩ := M1.out.kn)) | (go_at_call 88; refine (HD.out _ _ _ (HI.out _ (by first | exact (XS.out.trans X1.out) | exact ((XS.out.trans X1.out)).drew | exact ((XS.out.trans X1.out)).alloc _ | exact ((XS.out.trans X1.out)).drew.alloc _ | exact (((XS.out.trans X1.out)).alloc _).alloc _ | exact (((XS.out.trans X1.out)).drew.alloc _).alloc _)) (hr1.ext (by first | exact (Ext.refl w1) | exact ((Ext.refl w1)).drew | exact ((Ext.refl w1)).alloc _ | exact ((Ext.refl w1)).drew.alloc _ | exact (((Ext.refl w1)).alloc _).alloc _ | exact (((Ext.refl w1)).drew.alloc _).alloc _))).mono ?_; rintro e w2 ⟨⟨q, r, rfl, hq, hr⟩, x2⟩; have X12 : Hid (Ext w1 w2) := (by first | exact x2 | exact cell_drew x2 | exact ((Ext.refl w1).alloc _).trans x2 | exact ((Ext.refl w1).drew.alloc _).trans x2 | exact (((Ext.refl w1).alloc _).alloc _).trans x2 | exact (((Ext.refl w1).drew.alloc _).alloc _).trans x2); have X2 : Hid (Ext W w2) := X1.out.trans X12.out; obtain ⟨⟨v0, v1, v2, v3, v4, v5⟩, ⟨y0, y1, y2, y3⟩⟩ := LS.out.ext X2.out; obtain ⟨nes3a, nes3b, nes3c, nes3d⟩ := nes LS.out X2.out; (try (first | have N2 : Hid _ := ext_new1 x2 | have N2 : Hid _ := ext_new1 (cell_drew x2)); (try simp only [World.size_alloc] at N2); obtain ⟨N2a, N2b, N2c, N2d, N2e, N2f, N2g, N2h, N2i, N2j⟩ := N2.out.kn); (try (first | have M2 : Hid _ := ext_new2 x2 | have M2 : Hid _ := ext_new2 (cell_drew x2)); (try simp only [World.size_alloc] at M2); obtain ⟨M2a, M2b, M2c, M2d, M2e, M2f, M2g, M2h, M2i, M2j⟩ := M2.out.kn); (try (have N1_2 : Hid _ := Has.ext N1.out X12.out; obtain ⟨N1_2a, N1_2b, N1_2c, N1_2d, N1_2e, N1_2f, N1_2g, N1_2h, N1_2i, N1_2j⟩ := N1_2.out.kn)); (try (have M1_2 : Hid _ := Has.ext M1.out X12.out; obtain ⟨M1_2a, M1_2b, M1_2c, M1_2d, M1_2e, M1_2f, M1_2g, M1_2h, M1_2i, M1_2j⟩ := M1_2.out.kn)); obtain ⟨uq, hq1, hq2⟩ := hq; obtain ⟨aq, lq, cq, eq⟩ := hq2.isSlice; subst eq; subst hq1; obtain ⟨ur, hr1', hr2⟩ := hr; obtain ⟨ar, lr, cr, er⟩ := hr2.isSlice; subst er; subst hr1'))
    all_goals
      go_wp2_with fail
      go_meet
      first
        | with_reducible exact ⟨_, _, _, _, _, _, _, _, rfl, rfl, both_a X2.out hq2 hr2⟩
        | with_reducible exact ⟨_, _, _, _, _, _, _, _, rfl, rfl, both_swap (both_a X2.out hr2 hq2)⟩
        | ((with_reducible refine ⟨_, _, _, _, _, _, _, _, rfl, rfl, both_d X2.out hq2 hr2 ?_ ?_⟩) <;> (first | with_reducible exact N1_2.out | with_reducible exact M1_2.out | with_reducible exact N2.out | with_reducible exact M2.out | with_reducible exact N1_2.out.ext ((Ext.refl _).alloc _) | with_reducible exact M1_2.out.ext ((Ext.refl _).alloc _) | with_reducible exact N2.out.ext ((Ext.refl _).alloc _) | with_reducible exact M2.out.ext ((Ext.refl _).alloc _) | with_reducible exact ext_new1 (Ext.refl _) | assumption | (have s1 := X1.out.size; have s2 := X12.out.size; omega)))
        | ((with_reducible refine ⟨_, _, _, _, _, _, _, _, rfl, rfl, both_b X2.out hq2 hr2 ?_ ?_ ?_ ?_ ?_⟩) <;> (first | with_reducible exact N1_2.out | with_reducible exact M1_2.out | with_reducible exact N2.out | with_reducible exact M2.out | with_reducible exact N1_2.out.ext ((Ext.refl _).alloc _) | with_reducible exact M1_2.out.ext ((Ext.refl _).alloc _) | with_reducible exact N2.out.ext ((Ext.refl _).alloc _) | with_reducible exact M2.out.ext ((Ext.refl _).alloc _) | with_reducible exact ext_new1 (Ext.refl _) | assumption | (have s1 := X1.out.size; have s2 := X12.out.size; omega)))
        | ((with_reducible refine ⟨_, _, _, _, _, _, _, _, rfl, rfl, both_b (X2.out.alloc _) (hq2.ext ((Ext.refl _).alloc _)) (hr2.ext ((Ext.refl _).alloc _)) ?_ ?_ ?_ ?_ ?_⟩) <;> (first | with_reducible exact N1_2.out | with_reducible exact M1_2.out | with_reducible exact N2.out | with_reducible exact M2.out | with_reducible exact N1_2.out.ext ((Ext.refl _).alloc _) | with_reducible exact M1_2.out.ext ((Ext.refl _).alloc _) | with_reducible exact N2.out.ext ((Ext.refl _).alloc _) | with_reducible exact M2.out.ext ((Ext.refl _).alloc _) | with_reducible exact ext_new1 (Ext.refl _) | assumption | (have s1 := X1.out.size; have s2 := X12.out.size; omega)))
  case rest =>
    obtain ⟨gq, gr, aq, lq, cq, ar, lr, cr, rfl, rfl, hB⟩ := hcut
    obtain ⟨q0, q1, q2, q3⟩ := hB.out.q
    obtain ⟨_, ⟨t0, t1, t2, t3⟩⟩ := LS.out.ext hB.out.x
    have HI9 : Hid (IsI wc (.agg #[.bool (decide (x < 0)), .slice aq lq cq]) x) := ⟨_, rfl, hB.out.iq⟩
    have X9 : Hid (Ext w wc) := XS.out.trans hB.out.x
    clear p0 p1 p2 p3 p4 p5 nes0a nes0b nes0c nes0d
    generalize decide (x < 0) = bx at *
    go_wp2_with fail
    exact bodyPost_ret (v := .agg #[.bool bx, .slice aq lq cq]) (by simp [results, Try.results61, go_sem, t0, t1]) rfl ⟨⟨_, rfl, HI9.out.set2 t0 t1⟩, (X9.out.setCell (show w.heap.size ≤ w.heap.size + 1 by omega) _).setCell (show w.heap.size ≤ w.heap.size + 1 by omega) _⟩

structure LaidTT (p : Nat) (W : World) (u1 v1 x1 u2 v2 x2 : Value) : Prop where
  a : Has3 W p u1 v1 x1
  b : Has3 W (p + 1) u2 v2 x2
theorem LaidTT.ext {p : Nat} {W W' : World} {u1 v1 x1 u2 v2 x2 : Value} (h : LaidTT p W u1 v1 x1 u2 v2 x2) (hx : Ext W W') : LaidTT p W' u1 v1 x1 u2 v2 x2 := ⟨h.a.ext hx, h.b.ext hx⟩

set_option maxHeartbeats 4000000 in
theorem qcmp_any (m n : Int) (d e k : Nat) (v1 v2 : Value) (w : World) (h1 : IsQ w v1 m d) (h2 : IsQ w v2 n e) (hk : k ≤ 2000) (f1 : Fit k m) (f2 : Fit k n) (f3 : Fit k (d : Int)) (f4 : Fit k (e : Int)) :
    Calls Try.prog 64 #[v1, v2] w fun e' w' => e' = .returned (.int .i64 (sgn (m * (e : Int) - n * (d : Int)))) ∧ Ext w w' := by
  have sd : Small d := by have := f3.small (by omega); unfold SmallI at this; rwa [Int.natAbs_natCast] at this
  have se : Small e := by have := f4.small (by omega); unfold SmallI at this; rwa [Int.natAbs_natCast] at this
  have HE1 : Hid (∀ w', Ext w w' → Calls Try.prog 89 #[v1] w' fun e w'' => (∃ r, e = .returned r ∧ IsI w'' r (d : Int)) ∧ Ext w' w'') := fun w' hx => den_any m d v1 w' (h1.ext hx) sd
  have HE2 : Hid (∀ w', Ext w w' → Calls Try.prog 89 #[v2] w' fun e' w'' => (∃ r, e' = .returned r ∧ IsI w'' r (e : Int)) ∧ Ext w' w'') := fun w' hx => den_any n e v2 w' (h2.ext hx) se
  obtain ⟨u1, u2, rfl, k1, k2⟩ := h1
  obtain ⟨u3, u4, rfl, k3, k4⟩ := h2
  have HT1 : Hid (∀ r w', Ext w w' → IsI w' r (e : Int) → Calls Try.prog 46 #[.agg #[.bool (decide (m < 0)), u1], r] w' fun e' w'' => (∃ r', e' = .returned r' ∧ IsI w'' r' (m * (e : Int))) ∧ Ext w' w'') := fun r w' hx hr => times_isI m e _ r w' ⟨u1, rfl, k1.ext hx⟩ hr (f1.small (by omega)) (f4.small (by omega)) ((f1.mul f4).small (by omega))
  have HT2 : Hid (∀ r w', Ext w w' → IsI w' r (d : Int) → Calls Try.prog 46 #[.agg #[.bool (decide (n < 0)), u3], r] w' fun e' w'' => (∃ r', e' = .returned r' ∧ IsI w'' r' (n * (d : Int))) ∧ Ext w' w'') := fun r w' hx hr => times_isI n d _ r w' ⟨u3, rfl, k3.ext hx⟩ hr (f2.small (by omega)) (f3.small (by omega)) ((f2.mul f3).small (by omega))
  have HC : Hid (∀ r r' w', IsI w' r (m * (e : Int)) → IsI w' r' (n * (d : Int)) → Calls Try.prog 66 #[r, r'] w' fun e' w'' => e' = .returned (.int .i64 (sgn (m * (e : Int) - n * (d : Int)))) ∧ Ext w' w'') := fun r r' w' hr hr' => cmp_isI _ _ r r' w' hr hr' ((f1.mul f4).small (by omega)) ((f2.mul f3).small (by omega)) (((f1.mul f4).sub (f2.mul f3)).small (by omega))
  obtain ⟨a1, l1, c1, rfl⟩ := k1.isSlice
  obtain ⟨a2, l2, c2, rfl⟩ := k2.isSlice
  obtain ⟨a3, l3, c3, rfl⟩ := k3.isSlice
  obtain ⟨a4, l4, c4, rfl⟩ := k4.isSlice
  clear k1 k2 k3 k4 f1 f2 f3 f4 sd se
  generalize decide (m < 0) = b1 at *
  generalize decide (n < 0) = b2 at *
  generalize sgn (m * (e : Int) - n * (d : Int)) = S at *
  generalize m * (e : Int) = P1 at *
  generalize n * (d : Int) = P2 at *
  have XS : Hid (Ext w ((w.alloc (.cells #[.bool b1, .slice a1 l1 c1, .slice a2 l2 c2] 87)).alloc (.cells #[.bool b2, .slice a3 l3 c3, .slice a4 l4 c4] 87))) := ((Ext.refl w).alloc _).alloc _
  have LS : Hid (LaidTT w.heap.size ((w.alloc (.cells #[.bool b1, .slice a1 l1 c1, .slice a2 l2 c2] 87)).alloc (.cells #[.bool b2, .slice a3 l3 c3, .slice a4 l4 c4] 87)) (.bool b1) (.slice a1 l1 c1) (.slice a2 l2 c2) (.bool b2) (.slice a3 l3 c3) (.slice a4 l4 c4)) := by constructor <;> constructor <;> simp [go_sem]
  go_enter Try.func64, Try.ntmps64
  go_wp2_with fail
  generalize (w.alloc (.cells #[.bool b1, .slice a1 l1 c1, .slice a2 l2 c2] 87)).alloc (.cells #[.bool b2, .slice a3 l3 c3, .slice a4 l4 c4] 87) = W at *
  obtain ⟨⟨p0, p1, p2, p3, p4, p5⟩, ⟨q0, q1, q2, q3, q4, q5⟩⟩ := LS.out
  go_region_held (fun w' => w'.cell? ⟨w.heap.size, 0, none⟩ = some (.bool b1) ∧ w'.cell? ⟨w.heap.size, 1, none⟩ = some (.slice a1 l1 c1) ∧ w'.cell? ⟨w.heap.size, 2, none⟩ = some (.slice a2 l2 c2) ∧ w'.cell? ⟨w.heap.size + 1, 0, none⟩ = some (.bool b2) ∧ w'.cell? ⟨w.heap.size + 1, 1, none⟩ = some (.slice a3 l3 c3) ∧ w'.cell? ⟨w.heap.size + 1, 2, none⟩ = some (.slice a4 l4 c4)) (go_keep) (first | (go_at_call_of 89 (Value.agg #[Value.bool b2, Value.slice a3 l3 c3, Value.slice a4 l4 c4]); refine (HE2.out _ (XS.out.drew)).mono ?_; rintro e w1 ⟨⟨r1, rfl, hr1⟩, x1⟩; obtain ⟨⟨s0, s1, s2, s3, s4, s5⟩, ⟨s6, s7, s8, s9, s10, s11⟩⟩ := LS.out.ext (cell_drew x1)) | (go_at_call_of 46 (Value.agg #[Value.bool b1, Value.slice a1 l1 c1]); refine (HT1.out _ _ (XS.out.trans (cell_drew x1)) hr1).mono ?_; rintro e w2 ⟨⟨r2, rfl, hr2⟩, x2⟩; obtain ⟨⟨t0, t1, t2, t3, t4, t5⟩, ⟨t6, t7, t8, t9, t10, t11⟩⟩ := LS.out.ext ((cell_drew x1).trans x2)) | (go_at_call_of 89 (Value.agg #[Value.bool b1, Value.slice a1 l1 c1, Value.slice a2 l2 c2]); refine (HE1.out _ ((XS.out.trans (cell_drew x1)).trans x2)).mono ?_; rintro e w3 ⟨⟨r3, rfl, hr3⟩, x3⟩; obtain ⟨⟨v0, v1, v2, v3, v4, v5⟩, ⟨v6, v7, v8, v9, v10, v11⟩⟩ := LS.out.ext (((cell_drew x1).trans x2).trans x3)) | (go_at_call_of 46 (Value.agg #[Value.bool b2, Value.slice a3 l3 c3]); refine (HT2.out _ _ (((XS.out.trans (cell_drew x1)).trans x2).trans x3) hr3).mono ?_; rintro e w4 ⟨⟨r4, rfl, hr4⟩, x4⟩; obtain ⟨⟨y0, y1, y2, y3, y4, y5⟩, ⟨y6, y7, y8, y9, y10, y11⟩⟩ := LS.out.ext ((((cell_drew x1).trans x2).trans x3).trans x4)) | (go_at_call 66; refine (HC.out _ _ _ (hr2.ext (x3.trans x4)) hr4).mono ?_; rintro e w5 ⟨rfl, x5⟩; obtain ⟨⟨z0, z1, z2, z3, z4, z5⟩, ⟨z6, z7, z8, z9, z10, z11⟩⟩ := LS.out.ext (((((cell_drew x1).trans x2).trans x3).trans x4).trans x5)))
  have X9 : Hid (Ext w w5) := XS.out.trans (((((cell_drew x1).trans x2).trans x3).trans x4).trans x5)
  go_wp2_with fail
  go_ret
  exact ⟨rfl, X9.out⟩
end Go.Proofs.Ytojcndgoihkfnaa
