/- The reference's rational numbers: Floor. -/
import Derived.Test.YtojcndgoihkfnaaMg43
namespace Go.Proofs.Ytojcndgoihkfnaa
open Go.RowKit

set_option maxHeartbeats 8000000 in
theorem floorq_any (x : Int) (d k : Nat) (v : Value) (w : World) (h1 : IsQ w v x d) (hd : d ≠ 0) (hk : k ≤ 3000) (f1 : Fit k x) (f2 : Fit k (d : Int)) :
    Calls Try.prog 61 #[v] w fun e w' => (∃ r, e = .returned r ∧ IsI w' r (x / (d : Int))) ∧ Ext w w' := by
  have HQ : Hid (∀ w', Ext w w' → IsQ w' v x d) := fun w' hx => h1.ext hx
  have HE : Hid (∀ w', Ext w w' → Calls Try.prog 89 #[v] w' fun e w'' => (∃ r, e = .returned r ∧ IsI w'' r (d : Int)) ∧ Ext w' w'') := fun w' hx => den_any x d v w' (h1.ext hx) (by have := f2.small (by omega); unfold SmallI at this; rwa [Int.natAbs_natCast] at this)
  obtain ⟨u1, u2, rfl, k1, k2⟩ := h1
  have HI : Hid (∀ w', Ext w w' → IsI w' (.agg #[.bool (decide (x < 0)), u1]) x) := fun w' hx => ⟨u1, rfl, k1.ext hx⟩
  have HD : Hid (∀ r1 r2 w', IsI w' r1 x → IsI w' r2 (d : Int) → Calls Try.prog 88 #[r1, r2] w' fun e w'' => (∃ q r, e = .returned (.tuple #[q, r]) ∧ IsI w'' q (x / (d : Int)) ∧ IsI w'' r (x % (d : Int))) ∧ Ext w' w'') := fun r1 r2 w' hr1 hr2 => divide_isI x (d : Int) k r1 r2 w' hr1 hr2 (by omega) f1 f2 (by omega)
  obtain ⟨Qf, hQf⟩ : ∃ Q, x / (d : Int) = Q := ⟨_, rfl⟩
  obtain ⟨Rf, hRf⟩ : ∃ R, x % (d : Int) = R := ⟨_, rfl⟩
  rw [hQf, hRf] at HD
  rw [hQf]
  clear hQf hRf f2
  obtain ⟨a1, l1, c1, rfl⟩ := k1.isSlice
  obtain ⟨a2, l2, c2, rfl⟩ := k2.isSlice
  clear k1 k2 f1
  have XS : Hid (Ext w ((w.alloc (.cells #[.bool (decide (x < 0)), .slice a1 l1 c1, .slice a2 l2 c2] 87)).alloc (.cells #[.bool false, .slice none 0 0] 72))) := ((Ext.refl w).alloc _).alloc _
  have LS : Hid (LaidQ w.heap.size ((w.alloc (.cells #[.bool (decide (x < 0)), .slice a1 l1 c1, .slice a2 l2 c2] 87)).alloc (.cells #[.bool false, .slice none 0 0] 72)) (.bool (decide (x < 0))) (.slice a1 l1 c1) (.slice a2 l2 c2)) := laidQ_start w _ _ _
  generalize decide (x < 0) = b at *
  go_enter Try.func61, Try.ntmps61
  go_upto_region 1 with fail
  generalize ((w.alloc (.cells #[.bool b, .slice a1 l1 c1, .slice a2 l2 c2] 87)).alloc (.cells #[.bool false, .slice none 0 0] 72)) = W at *
  obtain ⟨⟨p0, p1, p2, p3, p4, p5⟩, _⟩ := LS.out
  obtain ⟨nes0a, nes0b, nes0c, nes0d⟩ := nes LS.out (Ext.refl W)
  go_cut [3, 4] (fun s3 s4 wx => ∃ gq gr aq lq cq ar lr cr, s3 = .pointer (some ⟨gq, 0, none⟩) ∧ s4 = .pointer (some ⟨gr, 0, none⟩) ∧ Hid (Both W wx gq gr (.bool (decide (Qf < 0))) (.slice aq lq cq) (.bool (decide (Rf < 0))) (.slice ar lr cr) Qf.natAbs Rf.natAbs))
  case first =>
    go_region_held (fun w' => w'.cell? ⟨w.heap.size, 0, none⟩ = some (.bool b) ∧ w'.cell? ⟨w.heap.size, 1, none⟩ = some (.slice a1 l1 c1) ∧ w'.cell? ⟨w.heap.size, 2, none⟩ = some (.slice a2 l2 c2)) (first | (go_keep; done) | skip) (first | (go_at_call 89; refine (HE.out _ (by first | exact XS.out | exact (XS.out).drew | exact (XS.out).alloc _ | exact (XS.out).drew.alloc _ | exact ((XS.out).alloc _).alloc _ | exact ((XS.out).drew.alloc _).alloc _)).mono ?_; rintro e w1 ⟨⟨r1, rfl, hr1⟩, x1⟩; have X1 : Hid (Ext W w1) := (by first | exact x1 | exact cell_drew x1 | exact ((Ext.refl W).alloc _).trans x1 | exact ((Ext.refl W).drew.alloc _).trans x1 | exact (((Ext.refl W).alloc _).alloc _).trans x1 | exact (((Ext.refl W).drew.alloc _).alloc _).trans x1); obtain ⟨⟨s0, s1, s2, s3, s4, s5⟩, _⟩ := LS.out.ext X1.out; obtain ⟨nes1a, nes1b, nes1c, nes1d⟩ := nes LS.out X1.out; (try (first | have N1 : Hid _ := ext_new1 x1 | have N1 : Hid _ := ext_new1 (cell_drew x1)); (try simp only [World.size_alloc] at N1); obtain ⟨N1a, N1b, N1c, N1d, N1e, N1f, N1g, N1h, N1i, N1j⟩ := N1.out.kn); (try (first | have M1 : Hid _ := ext_new2 x1 | have M1 : Hid _ := ext_new2 (cell_drew x1)); (try simp only [World.size_alloc] at M1); obtain ⟨M1a, M1b, M1c, M1d, M1e, M1f, M1g, M1h, M1i, M1j⟩ := M1.out.kn)) | (go_at_call 88; refine (HD.out _ _ _ (HI.out _ (by first | exact (XS.out.trans X1.out) | exact ((XS.out.trans X1.out)).drew | exact ((XS.out.trans X1.out)).alloc _ | exact ((XS.out.trans X1.out)).drew.alloc _ | exact (((XS.out.trans X1.out)).alloc _).alloc _ | exact (((XS.out.trans X1.out)).drew.alloc _).alloc _)) (hr1.ext (by first | exact (Ext.refl w1) | exact ((Ext.refl w1)).drew | exact ((Ext.refl w1)).alloc _ | exact ((Ext.refl w1)).drew.alloc _ | exact (((Ext.refl w1)).alloc _).alloc _ | exact (((Ext.refl w1)).drew.alloc _).alloc _))).mono ?_; rintro e w2 ⟨⟨q, r, rfl, hq, hr⟩, x2⟩; have X12 : Hid (Ext w1 w2) := (by first | exact x2 | exact cell_drew x2 | exact ((Ext.refl w1).alloc _).trans x2 | exact ((Ext.refl w1).drew.alloc _).trans x2 | exact (((Ext.refl w1).alloc _).alloc _).trans x2 | exact (((Ext.refl w1).drew.alloc _).alloc _).trans x2); have X2 : Hid (Ext W w2) := X1.out.trans X12.out; obtain ⟨⟨v0, v1, v2, v3, v4, v5⟩, ⟨y0, y1, y2, y3⟩⟩ := LS.out.ext X2.out; obtain ⟨nes3a, nes3b, nes3c, nes3d⟩ := nes LS.out X2.out; (try (first | have N2 : Hid _ := ext_new1 x2 | have N2 : Hid _ := ext_new1 (cell_drew x2)); (try simp only [World.size_alloc] at N2); obtain ⟨N2a, N2b, N2c, N2d, N2e, N2f, N2g, N2h, N2i, N2j⟩ := N2.out.kn); (try (first | have M2 : Hid _ := ext_new2 x2 | have M2 : Hid _ := ext_new2 (cell_drew x2)); (try simp only [World.size_alloc] at M2); obtain ⟨M2a, M2b, M2c, M2d, M2e, M2f, M2g, M2h, M2i, M2j⟩ := M2.out.kn); (try (have N1_2 : Hid _ := Has.ext N1.out X12.out; obtain ⟨N1_2a, N1_2b, N1_2c, N1_2d, N1_2e, N1_2f, N1_2g, N1_2h, N1_2i, N1_2j⟩ := N1_2.out.kn)); (try (have M1_2 : Hid _ := Has.ext M1.out X12.out; obtain ⟨M1_2a, M1_2b, M1_2c, M1_2d, M1_2e, M1_2f, M1_2g, M1_2h, M1_2i, M1_2j⟩ := M1_2.out.kn)); obtain ⟨uq, hq1, hq2⟩ := hq; obtain ⟨aq, lq, cq, eq⟩ := hq2.isSlice; subst eq; subst hq1; obtain ⟨ur, hr1', hr2⟩ := hr; obtain ⟨ar, lr, cr, er⟩ := hr2.isSlice; subst er; subst hr1'))
    all_goals
      go_wp2_with fail
      go_meet
      first
        | with_reducible exact ⟨_, _, _, _, _, _, _, _, rfl, rfl, both_a X2.out hq2 hr2⟩
        | with_reducible exact ⟨_, _, _, _, _, _, _, _, rfl, rfl, both_swap (both_a X2.out hr2 hq2)⟩
        | ((with_reducible refine ⟨_, _, _, _, _, _, _, _, rfl, rfl, both_d X2.out hq2 hr2 ?_ ?_⟩) <;> (first | with_reducible exact N1_2.out | with_reducible exact M1_2.out | with_reducible exact N2.out | with_reducible exact M2.out | with_reducible exact N1_2.out.ext ((Ext.refl _).alloc _) | with_reducible exact M1_2.out.ext ((Ext.refl _).alloc _) | with_reducible exact N2.out.ext ((Ext.refl _).alloc _) | with_reducible exact M2.out.ext ((Ext.refl _).alloc _) | with_reducible exact ext_new1 (Ext.refl _) | assumption | (have s1 := X1.out.size; have s2 := X12.out.size; omega)))
        | ((with_reducible refine ⟨_, _, _, _, _, _, _, _, rfl, rfl, both_b X2.out hq2 hr2 ?_ ?_ ?_ ?_ ?_⟩) <;> (first | with_reducible exact N1_2.out | with_reducible exact M1_2.out | with_reducible exact N2.out | with_reducible exact M2.out | with_reducible exact N1_2.out.ext ((Ext.refl _).alloc _) | with_reducible exact M1_2.out.ext ((Ext.refl _).alloc _) | with_reducible exact N2.out.ext ((Ext.refl _).alloc _) | with_reducible exact M2.out.ext ((Ext.refl _).alloc _) | with_reducible exact ext_new1 (Ext.refl _) | assumption | (have s1 := X1.out.size; have s2 := X12.out.size; omega)))
        | ((with_reducible refine ⟨_, _, _, _, _, _, _, _, rfl, rfl, both_b (X2.out.alloc _) (hq2.ext ((Ext.refl _).alloc _)) (hr2.ext ((Ext.refl _).alloc _)) ?_ ?_ ?_ ?_ ?_⟩) <;> (first | with_reducible exact N1_2.out | with_reducible exact M1_2.out | with_reducible exact N2.out | with_reducible exact M2.out | with_reducible exact N1_2.out.ext ((Ext.refl _).alloc _) | with_reducible exact M1_2.out.ext ((Ext.refl _).alloc _) | with_reducible exact N2.out.ext ((Ext.refl _).alloc _) | with_reducible exact M2.out.ext ((Ext.refl _).alloc _) | with_reducible exact ext_new1 (Ext.refl _) | assumption | (have s1 := X1.out.size; have s2 := X12.out.size; omega)))
  case rest =>
    obtain ⟨gq, gr, aq, lq, cq, ar, lr, cr, rfl, rfl, hB⟩ := hcut
    obtain ⟨q0, q1, q2, q3⟩ := hB.out.q
    obtain ⟨_, ⟨t0, t1, t2, t3⟩⟩ := LS.out.ext hB.out.x
    have HI9 : Hid (IsI wc (.agg #[.bool (decide (Qf < 0)), .slice aq lq cq]) Qf) := ⟨_, rfl, hB.out.iq⟩
    have X9 : Hid (Ext w wc) := XS.out.trans hB.out.x
    clear p0 p1 p2 p3 p4 p5 nes0a nes0b nes0c nes0d
    generalize decide (Qf < 0) = bx at *
    go_wp2_with fail
    exact bodyPost_ret (v := .agg #[.bool bx, .slice aq lq cq]) (by simp [results, Try.results61, go_sem, t0, t1]) rfl ⟨⟨_, rfl, HI9.out.set2 t0 t1⟩, (X9.out.setCell (show w.heap.size ≤ w.heap.size + 1 by omega) _).setCell (show w.heap.size ≤ w.heap.size + 1 by omega) _⟩

end Go.Proofs.Ytojcndgoihkfnaa
