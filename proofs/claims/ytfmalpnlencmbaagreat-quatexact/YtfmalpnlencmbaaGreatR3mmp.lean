/- gimbalref3: MayQuat, Squares. -/
import Derived.Test.YtfmalpnlencmbaaGreatR3lmp
import Derived.Test.YtfmalpnlencmbaaGreatMg2p
import Derived.Test.YtfmalpnlencmbaaGreatR3cmp
import Derived.Deep.RegionHeld
import Derived.Deep.RegionHeld3
namespace Go.Proofs.YtfmalpnlencmbaaGreat
open Go.RowKit Go.Shelf
set_option maxHeartbeats 4000000 in
theorem mayq_any (a b c d : Int) (w : World) :
    Calls Tryz.prog 26 #[.agg #[.int .i64 a, .int .i64 b, .int .i64 c, .int .i64 d]] w fun e w' => e = .returned (.bool (ok4 a b c d)) ∧ Ext w w' := by
  have HM : Hid (∀ v w', Calls Tryz.prog 7 #[.int .i64 v] w' fun e w'' => e = .returned (.bool (okW v)) ∧ w'' = w') := may_any
  unfold ok4
  cases h0 : okW a
  · go_enter Tryz.func26, Tryz.ntmps26
    go_wp2_with (go_at_call 7; refine (HM.out _ _).mono ?_; rintro e wx ⟨rfl, hwx⟩; have hwy := hwx.symm; clear hwx; subst hwy)
    go_ret
    exact ⟨rfl, (Ext.refl _).alloc _⟩
  · cases h1 : okW b
    · go_enter Tryz.func26, Tryz.ntmps26
      go_wp2_with (go_at_call 7; refine (HM.out _ _).mono ?_; rintro e wx ⟨rfl, hwx⟩; have hwy := hwx.symm; clear hwx; subst hwy)
      go_ret
      exact ⟨rfl, (Ext.refl _).alloc _⟩
    · cases h2 : okW c
      · go_enter Tryz.func26, Tryz.ntmps26
        go_wp2_with (go_at_call 7; refine (HM.out _ _).mono ?_; rintro e wx ⟨rfl, hwx⟩; have hwy := hwx.symm; clear hwx; subst hwy)
        go_ret
        exact ⟨rfl, (Ext.refl _).alloc _⟩
      · go_enter Tryz.func26, Tryz.ntmps26
        go_wp2_with (go_at_call 7; refine (HM.out _ _).mono ?_; rintro e wx ⟨rfl, hwx⟩; have hwy := hwx.symm; clear hwx; subst hwy)
        go_ret
        exact ⟨rfl, (Ext.refl _).alloc _⟩
set_option maxRecDepth 20000 in
set_option maxHeartbeats 8000000 in
theorem rsquares_raw (a b c d p s D : Int) (w : World)
    (P0 : Hid (∀ w', Calls Tryz.prog 99 #[.int .i64 a, .int .i64 a] w' fun e w'' => (∃ r, e = .returned r ∧ IsI w'' r (p)) ∧ Ext w' w''))
    (DD : Hid (∀ w', Calls Tryz.prog 63 #[.agg #[.int .i64 b, .int .i64 c, .int .i64 d], .agg #[.int .i64 b, .int .i64 c, .int .i64 d]] w' fun e w'' => (∃ r, e = .returned r ∧ IsI w'' r (s)) ∧ Ext w' w''))
    (PP : Hid (∀ r1 r2 w', IsI w' r1 p → IsI w' r2 s → Calls Tryz.prog 118 #[r1, r2] w' fun e w'' => (∃ r, e = .returned r ∧ IsI w'' r (D)) ∧ Ext w' w'')) :
    Calls Tryz.prog 79 #[.agg #[.int .i64 a, .int .i64 b, .int .i64 c, .int .i64 d]] w fun e w' => (∃ r, e = .returned r ∧ IsI w' r D) ∧ Ext w w' := by
  have QB : Hid (HV ((w.alloc (.cells #[.int .i64 a, .int .i64 b, .int .i64 c, .int .i64 d] 49)).alloc (.cells #[.bool false, .slice none 0 0] 61)) w.heap.size [.int .i64 a, .int .i64 b, .int .i64 c, .int .i64 d]) := HV.alloc (hv_at rfl) _
  have RB : Hid (HV ((w.alloc (.cells #[.int .i64 a, .int .i64 b, .int .i64 c, .int .i64 d] 49)).alloc (.cells #[.bool false, .slice none 0 0] 61)) (w.heap.size + 1) [.bool false, .slice none 0 0]) := hv_at (by simp)
  have E0 : Ext w ((w.alloc (.cells #[.int .i64 a, .int .i64 b, .int .i64 c, .int .i64 d] 49)).alloc (.cells #[.bool false, .slice none 0 0] 61)) := ((Ext.refl _).alloc _).alloc _
  have ne1 : w.heap.size ≠ w.heap.size + 1 := by omega
  have ne2 : w.heap.size + 1 ≠ w.heap.size := by omega
  go_enter Tryz.func79, Tryz.ntmps79
  go_upto_region 1 with fail
  generalize ((w.alloc (.cells #[.int .i64 a, .int .i64 b, .int .i64 c, .int .i64 d] 49)).alloc (.cells #[.bool false, .slice none 0 0] 61)) = wB at *
  obtain ⟨q0, q1, q2, q3⟩ := QB.out.k4
  have ql := QB.out.1
  go_region_held3 (fun w' => w'.cell? ⟨w.heap.size, 0, none⟩ = some (.int .i64 a) ∧ w'.cell? ⟨w.heap.size, 1, none⟩ = some (.int .i64 b) ∧ w'.cell? ⟨w.heap.size, 2, none⟩ = some (.int .i64 c) ∧ w'.cell? ⟨w.heap.size, 3, none⟩ = some (.int .i64 d)) (first | (go_keep; done) | skip) (first | (go_at_call 99; refine (P0.out _).mono ?_; rintro e wa ⟨⟨ra, rfl, ha⟩, xa⟩; have Ya : Ext wB wa := Ext.trans (by repeat (first | with_reducible assumption | with_reducible exact Ext.refl _ | with_reducible refine Ext.drew ?_ | with_reducible refine Ext.drewN ?_ _ | with_reducible refine Ext.alloc ?_ _ | with_reducible refine Ext.set ?_ (by first | exact Nat.le_refl _ | (dsimp only; omega) | (simp; done)) _)) xa; obtain ⟨ka0, ka1, ka2, ka3⟩ := (QB.out.ext Ya).k4; have ra0 := (RB.out.ext Ya).c 0 rfl; have ra1 := (RB.out.ext Ya).c 1 rfl; have fa0 := (RB.out.ext Ya).f 0 rfl; have fa1 := (RB.out.ext Ya).f 1 rfl; have la := (RB.out.ext Ya).1) | (go_at_call 63; refine (DD.out _).mono ?_; rintro e wd ⟨⟨rd, rfl, hd⟩, xd⟩; have Yd : Ext wB wd := Ext.trans (by repeat (first | with_reducible assumption | with_reducible exact Ext.refl _ | with_reducible refine Ext.drew ?_ | with_reducible refine Ext.drewN ?_ _ | with_reducible refine Ext.alloc ?_ _ | with_reducible refine Ext.set ?_ (by first | exact Nat.le_refl _ | (dsimp only; omega) | (simp; done)) _)) xd; obtain ⟨kd0, kd1, kd2, kd3⟩ := (QB.out.ext Yd).k4; have rd0 := (RB.out.ext Yd).c 0 rfl; have rd1 := (RB.out.ext Yd).c 1 rfl; have fd0 := (RB.out.ext Yd).f 0 rfl; have fd1 := (RB.out.ext Yd).f 1 rfl; have ld := (RB.out.ext Yd).1) | (go_at_call 118; refine (PP.out _ _ _ (by first | exact ha.ext xd | exact ha.ext (Ext.trans (by repeat (first | with_reducible assumption | with_reducible exact Ext.refl _ | with_reducible refine Ext.drew ?_ | with_reducible refine Ext.drewN ?_ _ | with_reducible refine Ext.alloc ?_ _ | with_reducible refine Ext.set ?_ (by first | exact Nat.le_refl _ | (dsimp only; omega) | (simp; done)) _)) xd)) hd).mono ?_; rintro e wp ⟨⟨rp, rfl, hp⟩, xp⟩; have Yp : Ext wB wp := Ext.trans (by repeat (first | with_reducible assumption | with_reducible exact Ext.refl _ | with_reducible refine Ext.drew ?_ | with_reducible refine Ext.drewN ?_ _ | with_reducible refine Ext.alloc ?_ _ | with_reducible refine Ext.set ?_ (by first | exact Nat.le_refl _ | (dsimp only; omega) | (simp; done)) _)) xp; obtain ⟨kp0, kp1, kp2, kp3⟩ := (QB.out.ext Yp).k4; have rp0 := (RB.out.ext Yp).c 0 rfl; have rp1 := (RB.out.ext Yp).c 1 rfl; have fp0 := (RB.out.ext Yp).f 0 rfl; have fp1 := (RB.out.ext Yp).f 1 rfl; have lp := (RB.out.ext Yp).1; obtain ⟨u, hu, hk⟩ := hp; obtain ⟨au, lu, cu, hau⟩ := hk.isSlice; subst hau; subst hu; have HI : Hid (IsI wp (.agg #[.bool (decide (D < 0)), .slice au lu cu]) D) := ⟨_, rfl, hk⟩; clear hk))
  all_goals
    have X3 : Hid (Ext w wp) := E0.trans Yp
    go_wp2_with fail
    exact bodyPost_ret (v := .agg #[.bool (decide (D < 0)), .slice au lu cu]) (by simp [results, Tryz.results79, go_sem, rp0, rp1]) rfl ⟨⟨_, rfl, HI.out.set2 rp0 rp1⟩, (X3.out.set (p := ⟨w.heap.size + 1, 0, none⟩) (by dsimp only; omega) _).set (p := ⟨w.heap.size + 1, 1, none⟩) (by dsimp only; omega) _⟩
theorem fit70 {a : Int} (h : okW a = true) : Fit 46 a := by
  have := okW_bounds h
  have e : (2 : Nat) ^ 46 = 70368744177664 := by decide
  unfold Fit; omega
theorem rsquares_any (a b c d : Int) (w : World) (h : ok4 a b c d = true) :
    Calls Tryz.prog 79 #[.agg #[.int .i64 a, .int .i64 b, .int .i64 c, .int .i64 d]] w fun e w' => (∃ r, e = .returned r ∧ IsI w' r (a * a + b * b + c * c + d * d)) ∧ Ext w w' := by
  have h' := h
  unfold ok4 at h'
  simp only [Bool.and_eq_true] at h'
  obtain ⟨ha, hb, hc, hd⟩ := h'
  have k3 : ok3 b c d = true := by unfold ok3; rw [hb, hc, hd]; rfl
  have fa := (fit70 ha).mul (fit70 ha)
  have fb := (fit70 hb).mul (fit70 hb)
  have fc := (fit70 hc).mul (fit70 hc)
  have fd := (fit70 hd).mul (fit70 hd)
  have f1 : Fit 100 (a * a) := fa.le (by omega)
  have f2 : Fit 100 (dot3 b c d b c d) := by unfold dot3; exact ((fb.add fc).add (fd.le (by omega))).le (by omega)
  have f3 : Fit 101 (a * a + dot3 b c d b c d) := f1.add f2
  have e : a * a + b * b + c * c + d * d = a * a + dot3 b c d b c d := by unfold dot3; omega
  rw [e]
  exact rsquares_raw a b c d (a * a) (dot3 b c d b c d) _ w (fun w' => prod_any a a w' (word64 ha).1 (word64 ha).2 (word64 ha).1 (word64 ha).2) (fun w' => rdot_any b c d b c d w' k3 k3) (fun r1 r2 w' i1 i2 => plus_isI _ _ r1 r2 w' i1 i2 (f1.small (by omega)) (f2.small (by omega)) (f3.small (by omega)))
end Go.Proofs.YtfmalpnlencmbaaGreat
