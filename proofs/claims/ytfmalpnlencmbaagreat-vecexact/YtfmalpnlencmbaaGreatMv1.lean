/- gimbalref3: units of vectors. gimbalref3: Unit, Norm. -/
import Derived.Test.YtfmalpnlencmbaaGreatMg41
import Derived.Test.YtfmalpnlencmbaaGreatR3cm
import Derived.Test.YtfmalpnlencmbaaGreatMv3
import Derived.Test.YtfmalpnlencmbaaGreatMg20
namespace Go.Proofs.YtfmalpnlencmbaaGreat
open Go.RowKit Go.Shelf
set_option maxRecDepth 20000 in
set_option maxHeartbeats 16000000 in
theorem runit_raw (a b c x0 x1 x2 t0 t1 t2 p0 p1 p2 e0 e1 e2 N s0 s1 s2 es : Int) (w : World) (HD : Hid (∀ w', Calls Tryz.prog 63 #[.agg #[.int .i64 a, .int .i64 b, .int .i64 c], .agg #[.int .i64 a, .int .i64 b, .int .i64 c]] w' fun e w'' => (∃ r, e = .returned r ∧ IsI w'' r (N)) ∧ Ext w' w'')) (HZ : Hid (∀ r w', IsI w' r N → Calls Tryz.prog 64 #[r] w' fun e w'' => e = .returned (.bool false) ∧ Ext w' w'')) (F0 : Hid (∀ w', Calls Tryz.prog 68 #[.int .i64 a] w' fun e w'' => (∃ r, e = .returned r ∧ IsI w'' r (a)) ∧ Ext w' w'')) (L0 : Hid (∀ r w', IsI w' r a → Calls Tryz.prog 67 #[r, .int .i64 30] w' fun e w'' => (∃ r, e = .returned r ∧ IsI w'' r (x0)) ∧ Ext w' w'')) (O0 : Hid (∀ r1 r2 w', IsI w' r1 x0 → IsI w' r2 N → Calls Tryz.prog 66 #[r1, r2] w' fun e w'' => (∃ r, e = .returned r ∧ IsI w'' r (t0)) ∧ Ext w' w'')) (W0 : Hid (∀ r w', IsI w' r t0 → Calls Tryz.prog 65 #[r] w' fun e w'' => e = .returned (.tuple #[.int .i64 p0, .int .i64 e0]) ∧ Ext w' w'')) (F1 : Hid (∀ w', Calls Tryz.prog 68 #[.int .i64 b] w' fun e w'' => (∃ r, e = .returned r ∧ IsI w'' r (b)) ∧ Ext w' w'')) (L1 : Hid (∀ r w', IsI w' r b → Calls Tryz.prog 67 #[r, .int .i64 30] w' fun e w'' => (∃ r, e = .returned r ∧ IsI w'' r (x1)) ∧ Ext w' w'')) (O1 : Hid (∀ r1 r2 w', IsI w' r1 x1 → IsI w' r2 N → Calls Tryz.prog 66 #[r1, r2] w' fun e w'' => (∃ r, e = .returned r ∧ IsI w'' r (t1)) ∧ Ext w' w'')) (W1 : Hid (∀ r w', IsI w' r t1 → Calls Tryz.prog 65 #[r] w' fun e w'' => e = .returned (.tuple #[.int .i64 p1, .int .i64 e1]) ∧ Ext w' w'')) (F2 : Hid (∀ w', Calls Tryz.prog 68 #[.int .i64 c] w' fun e w'' => (∃ r, e = .returned r ∧ IsI w'' r (c)) ∧ Ext w' w'')) (L2 : Hid (∀ r w', IsI w' r c → Calls Tryz.prog 67 #[r, .int .i64 30] w' fun e w'' => (∃ r, e = .returned r ∧ IsI w'' r (x2)) ∧ Ext w' w'')) (O2 : Hid (∀ r1 r2 w', IsI w' r1 x2 → IsI w' r2 N → Calls Tryz.prog 66 #[r1, r2] w' fun e w'' => (∃ r, e = .returned r ∧ IsI w'' r (t2)) ∧ Ext w' w'')) (W2 : Hid (∀ r w', IsI w' r t2 → Calls Tryz.prog 65 #[r] w' fun e w'' => e = .returned (.tuple #[.int .i64 p2, .int .i64 e2]) ∧ Ext w' w'')) (HT : Hid (∀ w', Calls Tryz.prog 59 #[.int .i64 p0, .int .i64 e0, .int .i64 p1, .int .i64 e1, .int .i64 p2, .int .i64 e2] w' fun e w'' => e = .returned (.tuple #[.agg #[.int .i64 s0, .int .i64 s1, .int .i64 s2], .int .i64 es]) ∧ Ext w' w'')) :
    Calls Tryz.prog 12 #[.agg #[.int .i64 a, .int .i64 b, .int .i64 c]] w fun e w' => e = .returned (.tuple #[.agg #[.int .i64 s0, .int .i64 s1, .int .i64 s2], .int .i64 es]) ∧ Ext w w' := by
  have QB : Hid (HV ((w.alloc (.cells #[.int .i64 a, .int .i64 b, .int .i64 c] 24)).alloc (.cells #[.int .i64 0, .int .i64 0, .int .i64 0] 24)) w.heap.size [.int .i64 a, .int .i64 b, .int .i64 c]) := HV.alloc (hv_at rfl) _
  have RB : Hid (HV ((w.alloc (.cells #[.int .i64 a, .int .i64 b, .int .i64 c] 24)).alloc (.cells #[.int .i64 0, .int .i64 0, .int .i64 0] 24)) (w.heap.size + 1) [.int .i64 0, .int .i64 0, .int .i64 0]) := hv_at (by simp)
  have E0 : Hid (Ext w ((w.alloc (.cells #[.int .i64 a, .int .i64 b, .int .i64 c] 24)).alloc (.cells #[.int .i64 0, .int .i64 0, .int .i64 0] 24))) := ((Ext.refl _).alloc _).alloc _
  go_enter Tryz.func12, Tryz.ntmps12
  go_upto_region 1 with fail
  generalize ((w.alloc (.cells #[.int .i64 a, .int .i64 b, .int .i64 c] 24)).alloc (.cells #[.int .i64 0, .int .i64 0, .int .i64 0] 24)) = wB at *
  have q0 := QB.out.c 0 rfl
  have q1 := QB.out.c 1 rfl
  have q2 := QB.out.c 2 rfl
  go_wp2_with fail
  refine (HD.out _).mono ?_
  rintro e w1 ⟨⟨r, rfl, hr⟩, x1⟩
  obtain ⟨u, hu, hk⟩ := hr
  obtain ⟨an, ln, cn, hau⟩ := hk.isSlice
  subst hau; subst hu
  have IN : Hid (IsI w1 (.agg #[.bool (decide (N < 0)), .slice an ln cn]) N) := ⟨_, rfl, hk⟩
  have QB : Hid (HV w1 w.heap.size [.int .i64 a, .int .i64 b, .int .i64 c]) := QB.out.ext x1
  have RB : Hid (HV w1 (w.heap.size + 1) [.int .i64 0, .int .i64 0, .int .i64 0]) := RB.out.ext x1
  have E0 : Hid (Ext w w1) := E0.out.trans x1
  clear hk x1 HD q0 q1 q2
  generalize decide (N < 0) = bn at *
  go_upto_region 2 with fail
  have NB : Hid (HV (w1.alloc (.cells #[.bool bn, .slice an ln cn] 61)) w1.heap.size [.bool bn, .slice an ln cn]) := hv_at rfl
  have lr : w.heap.size + 1 < w1.heap.size := RB.out.1
  have lq : w.heap.size < w1.heap.size := QB.out.1
  have IN : Hid (IsI (w1.alloc (.cells #[.bool bn, .slice an ln cn] 61)) (.agg #[.bool bn, .slice an ln cn]) N) := IN.out.ext ((Ext.refl _).alloc _)
  have QB : Hid (HV (w1.alloc (.cells #[.bool bn, .slice an ln cn] 61)) w.heap.size [.int .i64 a, .int .i64 b, .int .i64 c]) := QB.out.alloc _
  have RB : Hid (HV (w1.alloc (.cells #[.bool bn, .slice an ln cn] 61)) (w.heap.size + 1) [.int .i64 0, .int .i64 0, .int .i64 0]) := RB.out.alloc _
  have E0 : Hid (Ext w (w1.alloc (.cells #[.bool bn, .slice an ln cn] 61))) := E0.out.alloc _
  generalize w1.alloc (.cells #[.bool bn, .slice an ln cn] 61) = w2 at *
  generalize w1.heap.size = nn at *
  have n0 := NB.out.c 0 rfl
  have n1 := NB.out.c 1 rfl
  go_upto_region 4 with (go_at_call 64; refine (HZ.out _ _ IN.out).mono ?_; rintro e w3 ⟨rfl, x3⟩)
  have IN : Hid (IsI w3 (.agg #[.bool bn, .slice an ln cn]) N) := IN.out.ext x3
  have NB : Hid (HV w3 nn [.bool bn, .slice an ln cn]) := NB.out.ext x3
  have QB : Hid (HV w3 w.heap.size [.int .i64 a, .int .i64 b, .int .i64 c]) := QB.out.ext x3
  have RB : Hid (HV w3 (w.heap.size + 1) [.int .i64 0, .int .i64 0, .int .i64 0]) := RB.out.ext x3
  have E0 : Hid (Ext w w3) := E0.out.trans x3
  clear x3 n0 n1 HZ
  go_upto_region 4 with fail
  go_cut [5, 6] (fun v5 v6 wx => v5 = .int .i64 p0 ∧ v6 = .int .i64 e0 ∧ Hid (Ext w3 wx))
  case first =>
    have q0 := QB.out.c 0 rfl
    have n0 := NB.out.c 0 rfl
    have n1 := NB.out.c 1 rfl
    have lq1 := QB.out.1
    have ln1 := NB.out.1
    go_region_held3 (fun w' => w'.cell? ⟨w.heap.size, 0, none⟩ = some (.int .i64 a) ∧ w'.cell? ⟨nn, 0, none⟩ = some (.bool bn) ∧ w'.cell? ⟨nn, 1, none⟩ = some (.slice an ln cn)) (first | (go_keep; done) | skip) (first | (go_at_call 68; refine (F0.out _).mono ?_; rintro e wf0 ⟨⟨rf, rfl, hf⟩, xf⟩; have Yf : Ext w3 wf0 := Ext.trans (by repeat (first | with_reducible assumption | with_reducible exact Ext.refl _ | with_reducible refine Ext.drew ?_ | with_reducible refine Ext.drewN ?_ _ | with_reducible refine Ext.alloc ?_ _ | with_reducible refine Ext.set ?_ (by first | exact Nat.le_refl _ | (dsimp only; omega) | (simp; done)) _)) xf; have kf0 := (QB.out.ext Yf).c 0 rfl; have kf1 := (NB.out.ext Yf).c 0 rfl; have kf2 := (NB.out.ext Yf).c 1 rfl; have lf0 := (QB.out.ext Yf).1; have lf1 := (NB.out.ext Yf).1) | (go_at_call 67; refine (L0.out _ _ (hf.ext (by repeat (first | with_reducible assumption | with_reducible exact Ext.refl _ | with_reducible refine Ext.drew ?_ | with_reducible refine Ext.drewN ?_ _ | with_reducible refine Ext.alloc ?_ _ | with_reducible refine Ext.set ?_ (by first | exact Nat.le_refl _ | (dsimp only; omega) | (simp; done)) _)))).mono ?_; rintro e wl0 ⟨⟨rl, rfl, hl⟩, xl⟩; have Yl : Ext w3 wl0 := Ext.trans (by repeat (first | with_reducible assumption | with_reducible exact Ext.refl _ | with_reducible refine Ext.drew ?_ | with_reducible refine Ext.drewN ?_ _ | with_reducible refine Ext.alloc ?_ _ | with_reducible refine Ext.set ?_ (by first | exact Nat.le_refl _ | (dsimp only; omega) | (simp; done)) _)) xl; have kl0 := (QB.out.ext Yl).c 0 rfl; have kl1 := (NB.out.ext Yl).c 0 rfl; have kl2 := (NB.out.ext Yl).c 1 rfl; have ll0 := (QB.out.ext Yl).1; have ll1 := (NB.out.ext Yl).1) | (go_at_call 66; refine (O0.out _ _ _ (hl.ext (by repeat (first | with_reducible assumption | with_reducible exact Ext.refl _ | with_reducible refine Ext.drew ?_ | with_reducible refine Ext.drewN ?_ _ | with_reducible refine Ext.alloc ?_ _ | with_reducible refine Ext.set ?_ (by first | exact Nat.le_refl _ | (dsimp only; omega) | (simp; done)) _))) (IN.out.ext (Ext.trans Yl (by repeat (first | with_reducible assumption | with_reducible exact Ext.refl _ | with_reducible refine Ext.drew ?_ | with_reducible refine Ext.drewN ?_ _ | with_reducible refine Ext.alloc ?_ _ | with_reducible refine Ext.set ?_ (by first | exact Nat.le_refl _ | (dsimp only; omega) | (simp; done)) _))))).mono ?_; rintro e wo0 ⟨⟨ro, rfl, ho⟩, xo⟩; have Yo : Ext w3 wo0 := Ext.trans (by repeat (first | with_reducible assumption | with_reducible exact Ext.refl _ | with_reducible refine Ext.drew ?_ | with_reducible refine Ext.drewN ?_ _ | with_reducible refine Ext.alloc ?_ _ | with_reducible refine Ext.set ?_ (by first | exact Nat.le_refl _ | (dsimp only; omega) | (simp; done)) _)) xo; have ko0 := (QB.out.ext Yo).c 0 rfl; have ko1 := (NB.out.ext Yo).c 0 rfl; have ko2 := (NB.out.ext Yo).c 1 rfl; have lo0 := (QB.out.ext Yo).1; have lo1 := (NB.out.ext Yo).1) | (go_at_call 65; refine (W0.out _ _ (ho.ext (by repeat (first | with_reducible assumption | with_reducible exact Ext.refl _ | with_reducible refine Ext.drew ?_ | with_reducible refine Ext.drewN ?_ _ | with_reducible refine Ext.alloc ?_ _ | with_reducible refine Ext.set ?_ (by first | exact Nat.le_refl _ | (dsimp only; omega) | (simp; done)) _)))).mono ?_; rintro e wd0 ⟨rfl, xd⟩; have Yd : Ext w3 wd0 := Ext.trans (by repeat (first | with_reducible assumption | with_reducible exact Ext.refl _ | with_reducible refine Ext.drew ?_ | with_reducible refine Ext.drewN ?_ _ | with_reducible refine Ext.alloc ?_ _ | with_reducible refine Ext.set ?_ (by first | exact Nat.le_refl _ | (dsimp only; omega) | (simp; done)) _)) xd; have kd0 := (QB.out.ext Yd).c 0 rfl; have kd1 := (NB.out.ext Yd).c 0 rfl; have kd2 := (NB.out.ext Yd).c 1 rfl; have ld0 := (QB.out.ext Yd).1; have ld1 := (NB.out.ext Yd).1))
    all_goals
      go_wp2_with fail
      go_meet
      first | exact ⟨rfl, rfl, Yd⟩ | exact ⟨rfl, rfl, Yd.drew⟩
  case rest =>
    obtain ⟨rfl, rfl, hx⟩ := hcut
    have IN : Hid (IsI wc (.agg #[.bool bn, .slice an ln cn]) N) := IN.out.ext hx.out
    have NB : Hid (HV wc nn [.bool bn, .slice an ln cn]) := NB.out.ext hx.out
    have QB : Hid (HV wc w.heap.size [.int .i64 a, .int .i64 b, .int .i64 c]) := QB.out.ext hx.out
    have RB : Hid (HV wc (w.heap.size + 1) [.int .i64 0, .int .i64 0, .int .i64 0]) := RB.out.ext hx.out
    have E0 : Hid (Ext w wc) := E0.out.trans hx.out
    clear hx F0 L0 O0 W0
    generalize wc = wk0 at *
    go_upto_region 5 with fail
    go_cut [7, 8] (fun v5 v6 wx => v5 = .int .i64 p1 ∧ v6 = .int .i64 e1 ∧ Hid (Ext wk0 wx))
    case first =>
      have q0 := QB.out.c 1 rfl
      have n0 := NB.out.c 0 rfl
      have n1 := NB.out.c 1 rfl
      have lq1 := QB.out.1
      have ln1 := NB.out.1
      go_region_held3 (fun w' => w'.cell? ⟨w.heap.size, 1, none⟩ = some (.int .i64 b) ∧ w'.cell? ⟨nn, 0, none⟩ = some (.bool bn) ∧ w'.cell? ⟨nn, 1, none⟩ = some (.slice an ln cn)) (first | (go_keep; done) | skip) (first | (go_at_call 68; refine (F1.out _).mono ?_; rintro e wf1 ⟨⟨rf, rfl, hf⟩, xf⟩; have Yf : Ext wk0 wf1 := Ext.trans (by repeat (first | with_reducible assumption | with_reducible exact Ext.refl _ | with_reducible refine Ext.drew ?_ | with_reducible refine Ext.drewN ?_ _ | with_reducible refine Ext.alloc ?_ _ | with_reducible refine Ext.set ?_ (by first | exact Nat.le_refl _ | (dsimp only; omega) | (simp; done)) _)) xf; have kf0 := (QB.out.ext Yf).c 1 rfl; have kf1 := (NB.out.ext Yf).c 0 rfl; have kf2 := (NB.out.ext Yf).c 1 rfl; have lf0 := (QB.out.ext Yf).1; have lf1 := (NB.out.ext Yf).1) | (go_at_call 67; refine (L1.out _ _ (hf.ext (by repeat (first | with_reducible assumption | with_reducible exact Ext.refl _ | with_reducible refine Ext.drew ?_ | with_reducible refine Ext.drewN ?_ _ | with_reducible refine Ext.alloc ?_ _ | with_reducible refine Ext.set ?_ (by first | exact Nat.le_refl _ | (dsimp only; omega) | (simp; done)) _)))).mono ?_; rintro e wl1 ⟨⟨rl, rfl, hl⟩, xl⟩; have Yl : Ext wk0 wl1 := Ext.trans (by repeat (first | with_reducible assumption | with_reducible exact Ext.refl _ | with_reducible refine Ext.drew ?_ | with_reducible refine Ext.drewN ?_ _ | with_reducible refine Ext.alloc ?_ _ | with_reducible refine Ext.set ?_ (by first | exact Nat.le_refl _ | (dsimp only; omega) | (simp; done)) _)) xl; have kl0 := (QB.out.ext Yl).c 1 rfl; have kl1 := (NB.out.ext Yl).c 0 rfl; have kl2 := (NB.out.ext Yl).c 1 rfl; have ll0 := (QB.out.ext Yl).1; have ll1 := (NB.out.ext Yl).1) | (go_at_call 66; refine (O1.out _ _ _ (hl.ext (by repeat (first | with_reducible assumption | with_reducible exact Ext.refl _ | with_reducible refine Ext.drew ?_ | with_reducible refine Ext.drewN ?_ _ | with_reducible refine Ext.alloc ?_ _ | with_reducible refine Ext.set ?_ (by first | exact Nat.le_refl _ | (dsimp only; omega) | (simp; done)) _))) (IN.out.ext (Ext.trans Yl (by repeat (first | with_reducible assumption | with_reducible exact Ext.refl _ | with_reducible refine Ext.drew ?_ | with_reducible refine Ext.drewN ?_ _ | with_reducible refine Ext.alloc ?_ _ | with_reducible refine Ext.set ?_ (by first | exact Nat.le_refl _ | (dsimp only; omega) | (simp; done)) _))))).mono ?_; rintro e wo1 ⟨⟨ro, rfl, ho⟩, xo⟩; have Yo : Ext wk0 wo1 := Ext.trans (by repeat (first | with_reducible assumption | with_reducible exact Ext.refl _ | with_reducible refine Ext.drew ?_ | with_reducible refine Ext.drewN ?_ _ | with_reducible refine Ext.alloc ?_ _ | with_reducible refine Ext.set ?_ (by first | exact Nat.le_refl _ | (dsimp only; omega) | (simp; done)) _)) xo; have ko0 := (QB.out.ext Yo).c 1 rfl; have ko1 := (NB.out.ext Yo).c 0 rfl; have ko2 := (NB.out.ext Yo).c 1 rfl; have lo0 := (QB.out.ext Yo).1; have lo1 := (NB.out.ext Yo).1) | (go_at_call 65; refine (W1.out _ _ (ho.ext (by repeat (first | with_reducible assumption | with_reducible exact Ext.refl _ | with_reducible refine Ext.drew ?_ | with_reducible refine Ext.drewN ?_ _ | with_reducible refine Ext.alloc ?_ _ | with_reducible refine Ext.set ?_ (by first | exact Nat.le_refl _ | (dsimp only; omega) | (simp; done)) _)))).mono ?_; rintro e wd1 ⟨rfl, xd⟩; have Yd : Ext wk0 wd1 := Ext.trans (by repeat (first | with_reducible assumption | with_reducible exact Ext.refl _ | with_reducible refine Ext.drew ?_ | with_reducible refine Ext.drewN ?_ _ | with_reducible refine Ext.alloc ?_ _ | with_reducible refine Ext.set ?_ (by first | exact Nat.le_refl _ | (dsimp only; omega) | (simp; done)) _)) xd; have kd0 := (QB.out.ext Yd).c 1 rfl; have kd1 := (NB.out.ext Yd).c 0 rfl; have kd2 := (NB.out.ext Yd).c 1 rfl; have ld0 := (QB.out.ext Yd).1; have ld1 := (NB.out.ext Yd).1))
      all_goals
        go_wp2_with fail
        go_meet
        first | exact ⟨rfl, rfl, Yd⟩ | exact ⟨rfl, rfl, Yd.drew⟩
    case rest =>
      obtain ⟨rfl, rfl, hx⟩ := hcut
      have IN : Hid (IsI wc (.agg #[.bool bn, .slice an ln cn]) N) := IN.out.ext hx.out
      have NB : Hid (HV wc nn [.bool bn, .slice an ln cn]) := NB.out.ext hx.out
      have QB : Hid (HV wc w.heap.size [.int .i64 a, .int .i64 b, .int .i64 c]) := QB.out.ext hx.out
      have RB : Hid (HV wc (w.heap.size + 1) [.int .i64 0, .int .i64 0, .int .i64 0]) := RB.out.ext hx.out
      have E0 : Hid (Ext w wc) := E0.out.trans hx.out
      clear hx F1 L1 O1 W1
      generalize wc = wk1 at *
      go_upto_region 6 with fail
      go_cut [9, 10] (fun v5 v6 wx => v5 = .int .i64 p2 ∧ v6 = .int .i64 e2 ∧ Hid (Ext wk1 wx))
      case first =>
        have q0 := QB.out.c 2 rfl
        have n0 := NB.out.c 0 rfl
        have n1 := NB.out.c 1 rfl
        have lq1 := QB.out.1
        have ln1 := NB.out.1
        go_region_held3 (fun w' => w'.cell? ⟨w.heap.size, 2, none⟩ = some (.int .i64 c) ∧ w'.cell? ⟨nn, 0, none⟩ = some (.bool bn) ∧ w'.cell? ⟨nn, 1, none⟩ = some (.slice an ln cn)) (first | (go_keep; done) | skip) (first | (go_at_call 68; refine (F2.out _).mono ?_; rintro e wf2 ⟨⟨rf, rfl, hf⟩, xf⟩; have Yf : Ext wk1 wf2 := Ext.trans (by repeat (first | with_reducible assumption | with_reducible exact Ext.refl _ | with_reducible refine Ext.drew ?_ | with_reducible refine Ext.drewN ?_ _ | with_reducible refine Ext.alloc ?_ _ | with_reducible refine Ext.set ?_ (by first | exact Nat.le_refl _ | (dsimp only; omega) | (simp; done)) _)) xf; have kf0 := (QB.out.ext Yf).c 2 rfl; have kf1 := (NB.out.ext Yf).c 0 rfl; have kf2 := (NB.out.ext Yf).c 1 rfl; have lf0 := (QB.out.ext Yf).1; have lf1 := (NB.out.ext Yf).1) | (go_at_call 67; refine (L2.out _ _ (hf.ext (by repeat (first | with_reducible assumption | with_reducible exact Ext.refl _ | with_reducible refine Ext.drew ?_ | with_reducible refine Ext.drewN ?_ _ | with_reducible refine Ext.alloc ?_ _ | with_reducible refine Ext.set ?_ (by first | exact Nat.le_refl _ | (dsimp only; omega) | (simp; done)) _)))).mono ?_; rintro e wl2 ⟨⟨rl, rfl, hl⟩, xl⟩; have Yl : Ext wk1 wl2 := Ext.trans (by repeat (first | with_reducible assumption | with_reducible exact Ext.refl _ | with_reducible refine Ext.drew ?_ | with_reducible refine Ext.drewN ?_ _ | with_reducible refine Ext.alloc ?_ _ | with_reducible refine Ext.set ?_ (by first | exact Nat.le_refl _ | (dsimp only; omega) | (simp; done)) _)) xl; have kl0 := (QB.out.ext Yl).c 2 rfl; have kl1 := (NB.out.ext Yl).c 0 rfl; have kl2 := (NB.out.ext Yl).c 1 rfl; have ll0 := (QB.out.ext Yl).1; have ll1 := (NB.out.ext Yl).1) | (go_at_call 66; refine (O2.out _ _ _ (hl.ext (by repeat (first | with_reducible assumption | with_reducible exact Ext.refl _ | with_reducible refine Ext.drew ?_ | with_reducible refine Ext.drewN ?_ _ | with_reducible refine Ext.alloc ?_ _ | with_reducible refine Ext.set ?_ (by first | exact Nat.le_refl _ | (dsimp only; omega) | (simp; done)) _))) (IN.out.ext (Ext.trans Yl (by repeat (first | with_reducible assumption | with_reducible exact Ext.refl _ | with_reducible refine Ext.drew ?_ | with_reducible refine Ext.drewN ?_ _ | with_reducible refine Ext.alloc ?_ _ | with_reducible refine Ext.set ?_ (by first | exact Nat.le_refl _ | (dsimp only; omega) | (simp; done)) _))))).mono ?_; rintro e wo2 ⟨⟨ro, rfl, ho⟩, xo⟩; have Yo : Ext wk1 wo2 := Ext.trans (by repeat (first | with_reducible assumption | with_reducible exact Ext.refl _ | with_reducible refine Ext.drew ?_ | with_reducible refine Ext.drewN ?_ _ | with_reducible refine Ext.alloc ?_ _ | with_reducible refine Ext.set ?_ (by first | exact Nat.le_refl _ | (dsimp only; omega) | (simp; done)) _)) xo; have ko0 := (QB.out.ext Yo).c 2 rfl; have ko1 := (NB.out.ext Yo).c 0 rfl; have ko2 := (NB.out.ext Yo).c 1 rfl; have lo0 := (QB.out.ext Yo).1; have lo1 := (NB.out.ext Yo).1) | (go_at_call 65; refine (W2.out _ _ (ho.ext (by repeat (first | with_reducible assumption | with_reducible exact Ext.refl _ | with_reducible refine Ext.drew ?_ | with_reducible refine Ext.drewN ?_ _ | with_reducible refine Ext.alloc ?_ _ | with_reducible refine Ext.set ?_ (by first | exact Nat.le_refl _ | (dsimp only; omega) | (simp; done)) _)))).mono ?_; rintro e wd2 ⟨rfl, xd⟩; have Yd : Ext wk1 wd2 := Ext.trans (by repeat (first | with_reducible assumption | with_reducible exact Ext.refl _ | with_reducible refine Ext.drew ?_ | with_reducible refine Ext.drewN ?_ _ | with_reducible refine Ext.alloc ?_ _ | with_reducible refine Ext.set ?_ (by first | exact Nat.le_refl _ | (dsimp only; omega) | (simp; done)) _)) xd; have kd0 := (QB.out.ext Yd).c 2 rfl; have kd1 := (NB.out.ext Yd).c 0 rfl; have kd2 := (NB.out.ext Yd).c 1 rfl; have ld0 := (QB.out.ext Yd).1; have ld1 := (NB.out.ext Yd).1))
        all_goals
          go_wp2_with fail
          go_meet
          first | exact ⟨rfl, rfl, Yd⟩ | exact ⟨rfl, rfl, Yd.drew⟩
      case rest =>
        obtain ⟨rfl, rfl, hx⟩ := hcut
        have IN : Hid (IsI wc (.agg #[.bool bn, .slice an ln cn]) N) := IN.out.ext hx.out
        have NB : Hid (HV wc nn [.bool bn, .slice an ln cn]) := NB.out.ext hx.out
        have QB : Hid (HV wc w.heap.size [.int .i64 a, .int .i64 b, .int .i64 c]) := QB.out.ext hx.out
        have RB : Hid (HV wc (w.heap.size + 1) [.int .i64 0, .int .i64 0, .int .i64 0]) := RB.out.ext hx.out
        have E0 : Hid (Ext w wc) := E0.out.trans hx.out
        clear hx F2 L2 O2 W2
        generalize wc = wk2 at *
        go_wp2_with fail
        refine (HT.out _).mono ?_
        rintro e w8 ⟨rfl, x8⟩
        have RB : Hid (HV w8 (w.heap.size + 1) [.int .i64 0, .int .i64 0, .int .i64 0]) := RB.out.ext x8
        have E0 : Hid (Ext w w8) := E0.out.trans x8
        clear x8
        have z0 := RB.out.c 0 rfl
        have y0 := RB.out.f 0 rfl
        have z1 := RB.out.c 1 rfl
        have y1 := RB.out.f 1 rfl
        have z2 := RB.out.c 2 rfl
        have y2 := RB.out.f 2 rfl
        have rl := RB.out.1
        go_wp2_with fail
        exact bodyPost_ret (v := .tuple #[.agg #[.int .i64 s0, .int .i64 s1, .int .i64 s2], .int .i64 es]) (by simp [results, Tryz.results12, go_sem, z0, z1, z2]) rfl ⟨rfl, (((E0.out.set (p := ⟨w.heap.size + 1, 0, none⟩) (Nat.le_succ _) _).set (p := ⟨w.heap.size + 1, 1, none⟩) (Nat.le_succ _) _).set (p := ⟨w.heap.size + 1, 2, none⟩) (Nat.le_succ _) _)⟩
set_option maxRecDepth 20000 in
set_option maxHeartbeats 16000000 in
theorem runit_nought (a b c N : Int) (w : World) (HD : Hid (∀ w', Calls Tryz.prog 63 #[.agg #[.int .i64 a, .int .i64 b, .int .i64 c], .agg #[.int .i64 a, .int .i64 b, .int .i64 c]] w' fun e w'' => (∃ r, e = .returned r ∧ IsI w'' r (N)) ∧ Ext w' w'')) (HZ : Hid (∀ r w', IsI w' r N → Calls Tryz.prog 64 #[r] w' fun e w'' => e = .returned (.bool true) ∧ Ext w' w'')) :
    Calls Tryz.prog 12 #[.agg #[.int .i64 a, .int .i64 b, .int .i64 c]] w fun e w' => e = .returned (.tuple #[.agg #[.int .i64 0, .int .i64 0, .int .i64 0], .int .i64 3]) ∧ Ext w w' := by
  have QB : Hid (HV ((w.alloc (.cells #[.int .i64 a, .int .i64 b, .int .i64 c] 24)).alloc (.cells #[.int .i64 0, .int .i64 0, .int .i64 0] 24)) w.heap.size [.int .i64 a, .int .i64 b, .int .i64 c]) := HV.alloc (hv_at rfl) _
  have RB : Hid (HV ((w.alloc (.cells #[.int .i64 a, .int .i64 b, .int .i64 c] 24)).alloc (.cells #[.int .i64 0, .int .i64 0, .int .i64 0] 24)) (w.heap.size + 1) [.int .i64 0, .int .i64 0, .int .i64 0]) := hv_at (by simp)
  have E0 : Hid (Ext w ((w.alloc (.cells #[.int .i64 a, .int .i64 b, .int .i64 c] 24)).alloc (.cells #[.int .i64 0, .int .i64 0, .int .i64 0] 24))) := ((Ext.refl _).alloc _).alloc _
  go_enter Tryz.func12, Tryz.ntmps12
  go_upto_region 1 with fail
  generalize ((w.alloc (.cells #[.int .i64 a, .int .i64 b, .int .i64 c] 24)).alloc (.cells #[.int .i64 0, .int .i64 0, .int .i64 0] 24)) = wB at *
  have q0 := QB.out.c 0 rfl
  have q1 := QB.out.c 1 rfl
  have q2 := QB.out.c 2 rfl
  go_wp2_with fail
  refine (HD.out _).mono ?_
  rintro e w1 ⟨⟨r, rfl, hr⟩, x1⟩
  obtain ⟨u, hu, hk⟩ := hr
  obtain ⟨an, ln, cn, hau⟩ := hk.isSlice
  subst hau; subst hu
  have IN : Hid (IsI w1 (.agg #[.bool (decide (N < 0)), .slice an ln cn]) N) := ⟨_, rfl, hk⟩
  have RB : Hid (HV w1 (w.heap.size + 1) [.int .i64 0, .int .i64 0, .int .i64 0]) := RB.out.ext x1
  have E0 : Hid (Ext w w1) := E0.out.trans x1
  clear hk x1 HD QB q0 q1 q2
  generalize decide (N < 0) = bn at *
  go_upto_region 2 with fail
  have NB : Hid (HV (w1.alloc (.cells #[.bool bn, .slice an ln cn] 61)) w1.heap.size [.bool bn, .slice an ln cn]) := hv_at rfl
  have IN : Hid (IsI (w1.alloc (.cells #[.bool bn, .slice an ln cn] 61)) (.agg #[.bool bn, .slice an ln cn]) N) := IN.out.ext ((Ext.refl _).alloc _)
  have RB : Hid (HV (w1.alloc (.cells #[.bool bn, .slice an ln cn] 61)) (w.heap.size + 1) [.int .i64 0, .int .i64 0, .int .i64 0]) := RB.out.alloc _
  have E0 : Hid (Ext w (w1.alloc (.cells #[.bool bn, .slice an ln cn] 61))) := E0.out.alloc _
  generalize w1.alloc (.cells #[.bool bn, .slice an ln cn] 61) = w2 at *
  generalize w1.heap.size = nn at *
  have n0 := NB.out.c 0 rfl
  have n1 := NB.out.c 1 rfl
  go_upto_region 3 with (go_at_call 64; refine (HZ.out _ _ IN.out).mono ?_; rintro e w3 ⟨rfl, x3⟩)
  have RB : Hid (HV w3 (w.heap.size + 1) [.int .i64 0, .int .i64 0, .int .i64 0]) := RB.out.ext x3
  have E0 : Hid (Ext w w3) := E0.out.trans x3
  clear x3 n0 n1 HZ IN NB
  have z0 := RB.out.c 0 rfl
  have y0 := RB.out.f 0 rfl
  have z1 := RB.out.c 1 rfl
  have y1 := RB.out.f 1 rfl
  have z2 := RB.out.c 2 rfl
  have y2 := RB.out.f 2 rfl
  have rl := RB.out.1
  go_wp2_with fail
  exact bodyPost_ret (v := .tuple #[.agg #[.int .i64 0, .int .i64 0, .int .i64 0], .int .i64 3]) (by simp [results, Tryz.results12, go_sem, z0, z1, z2]) rfl ⟨rfl, (((E0.out.set (p := ⟨w.heap.size + 1, 0, none⟩) (Nat.le_succ _) _).set (p := ⟨w.heap.size + 1, 1, none⟩) (Nat.le_succ _) _).set (p := ⟨w.heap.size + 1, 2, none⟩) (Nat.le_succ _) _)⟩
end Go.Proofs.YtfmalpnlencmbaaGreat

namespace Go.Proofs.YtfmalpnlencmbaaGreat
open Go.RowKit Go.Shelf
theorem sgd_le {v : Int} {k : Nat} : (sgd v k).natAbs = k := by unfold sgd; split <;> omega
theorem unit_k_le {v : Int} {n k : Nat} (hn : 0 < n) (hv : v.natAbs * v.natAbs ≤ n) (hk : RootQ (v.natAbs * v.natAbs * 1152921504606846976) n k) : k ≤ 1073741824 := by
  apply Nat.le_of_not_lt
  intro hc
  rcases hk.2.1 with h | h
  · omega
  · have h1 : 2147483649 * 2147483649 ≤ (2 * k - 1) * (2 * k - 1) := Nat.mul_le_mul (by omega) (by omega)
    have h2 : 2147483649 * 2147483649 * n ≤ (2 * k - 1) * (2 * k - 1) * n := Nat.mul_le_mul_right _ h1
    have h3 : v.natAbs * v.natAbs * 1152921504606846976 ≤ n * 1152921504606846976 := Nat.mul_le_mul_right _ hv
    omega
theorem dot3_fit {a b c : Int} (h : ok3 a b c = true) : Fit 100 (dot3 a b c a b c) := by
  have e := sq3_dot a b c
  have l := sq3_lt h
  have p : (2 : Nat) ^ 100 = 1267650600228229401496703205376 := by decide
  unfold Fit
  rw [e, Int.natAbs_natCast]
  omega
theorem zero_no {a b c : Int} (h : ok3 a b c = true) (hz : ¬ (a = 0 ∧ b = 0 ∧ c = 0)) (r : Value) (w : World) (hr : IsI w r (dot3 a b c a b c)) : Calls Tryz.prog 64 #[r] w fun e w' => e = .returned (.bool false) ∧ Ext w w' := by
  have H := zero_isI _ r w hr ((dot3_fit h).small (by omega))
  have n0 := sq3_zero a b c hz
  have e := sq3_dot a b c
  rw [show decide (dot3 a b c a b c = 0) = false by rw [e]; simp; omega] at H
  exact H
theorem sgd_two (a : Int) (k : Nat) : (if a * 2 ^ 30 < 0 then -(k : Int) else (k : Int)) = sgd a k := by
  unfold sgd
  by_cases h : a < 0
  · rw [if_pos h, if_pos (by omega)]
  · rw [if_neg h, if_neg (by omega)]
theorem sq_two30 (a : Int) : (a * 2 ^ 30).natAbs * (a * 2 ^ 30).natAbs = a.natAbs * a.natAbs * 1152921504606846976 := by
  rw [Int.natAbs_mul]
  have e : ((2 : Int) ^ 30).natAbs = 1073741824 := by decide
  rw [e]
  have : ∀ K : Nat, a.natAbs * K * (a.natAbs * K) = a.natAbs * a.natAbs * (K * K) := fun K => by grind
  rw [this]
theorem over_unit {a : Int} {n k : Nat} (ha : okW a = true) (hn : 0 < n) (hn2 : Fit 100 (n : Int)) (hk : RootQ (a.natAbs * a.natAbs * 1152921504606846976) n k) (r1 r2 : Value) (w : World) (h1 : IsI w r1 (a * 2 ^ 30)) (h2 : IsI w r2 (n : Int)) :
    Calls Tryz.prog 66 #[r1, r2] w fun e w' => (∃ r, e = .returned r ∧ IsI w' r (sgd a k)) ∧ Ext w w' := by
  have fa : Fit 46 a := by
    have := okW_bounds ha
    have e : (2 : Nat) ^ 46 = 70368744177664 := by decide
    unfold Fit; omega
  have f1 := fa.shl 30
  refine (overroot_any (a * 2 ^ 30) n 100 r1 r2 w h1 h2 (by omega) (by omega) (by omega) (f1.le (by omega)) hn2).mono ?_
  rintro e w' ⟨⟨r, s, he, hr, hs⟩, hx⟩
  rw [sq_two30] at hs
  obtain rfl : s = k := rootQ_unique hn hs hk
  rw [sgd_two] at hr
  exact ⟨⟨r, he, hr⟩, hx⟩
theorem left30 {a : Int} (ha : okW a = true) (r : Value) (w : World) (h : IsI w r a) : Calls Tryz.prog 67 #[r, .int .i64 30] w fun e w' => (∃ r', e = .returned r' ∧ IsI w' r' (a * 2 ^ 30)) ∧ Ext w w' := by
  have fa : Fit 46 a := by
    have := okW_bounds ha
    have e : (2 : Nat) ^ 46 = 70368744177664 := by decide
    unfold Fit; omega
  exact left_isI a 30 r w h (fa.small (by omega)) (by omega) ((fa.shl 30).small (by omega))
theorem sgd_fit {a : Int} {k : Nat} (h : k ≤ 1073741824) : Fit 46 (sgd a k) := by
  have e : (2 : Nat) ^ 46 = 70368744177664 := by decide
  unfold Fit
  rw [sgd_le, e]; omega
theorem runit_any (a b c : Int) (k0 k1 k2 : Nat) (w : World) (h : ok3 a b c = true) (hz : ¬ (a = 0 ∧ b = 0 ∧ c = 0))
    (q0 : RootQ (a.natAbs * a.natAbs * 1152921504606846976) (sq3 a b c) k0) (q1 : RootQ (b.natAbs * b.natAbs * 1152921504606846976) (sq3 a b c) k1) (q2 : RootQ (c.natAbs * c.natAbs * 1152921504606846976) (sq3 a b c) k2) :
    Calls Tryz.prog 12 #[.agg #[.int .i64 a, .int .i64 b, .int .i64 c]] w fun e w' => e = .returned (vres (sgd a k0) (sgd b k1) (sgd c k2)) ∧ Ext w w' := by
  obtain ⟨ha, hb, hc⟩ := ok3_parts h
  have n0 := sq3_zero a b c hz
  obtain ⟨l0, l1, l2⟩ := sq3_parts a b c
  have m0 := unit_k_le n0 l0 q0; have m1 := unit_k_le n0 l1 q1; have m2 := unit_k_le n0 l2 q2
  have e := sq3_dot a b c
  have fN := dot3_fit h
  have HT : ∀ w', Calls Tryz.prog 59 #[.int .i64 (fitR (sgd a k0)).1, .int .i64 (fitR (sgd a k0)).2, .int .i64 (fitR (sgd b k1)).1, .int .i64 (fitR (sgd b k1)).2, .int .i64 (fitR (sgd c k2)).1, .int .i64 (fitR (sgd c k2)).2] w' fun e w'' => e = .returned (vres (sgd a k0) (sgd b k1) (sgd c k2)) ∧ Ext w' w'' := three_any (sgd a k0) (sgd b k1) (sgd c k2)
  obtain ⟨x, y, z, er, hr⟩ := vres_shape (sgd a k0) (sgd b k1) (sgd c k2)
  rw [hr] at HT ⊢
  rw [e] at fN
  exact runit_raw a b c _ _ _ _ _ _ _ _ _ _ _ _ (dot3 a b c a b c) x y z er w (fun w' => rdot_any a b c a b c w' h h) (fun r w' hr => zero_no h hz r w' hr)
    (fun w' => from_any a w' (word64 ha).1 (word64 ha).2) (fun r w' i => left30 ha r w' i) (fun r1 r2 w' i1 i2 => over_unit ha n0 fN q0 r1 r2 w' i1 (by rw [← e]; exact i2)) (fun r w' i => word_any _ r w' i ((sgd_fit m0).small (by omega)))
    (fun w' => from_any b w' (word64 hb).1 (word64 hb).2) (fun r w' i => left30 hb r w' i) (fun r1 r2 w' i1 i2 => over_unit hb n0 fN q1 r1 r2 w' i1 (by rw [← e]; exact i2)) (fun r w' i => word_any _ r w' i ((sgd_fit m1).small (by omega)))
    (fun w' => from_any c w' (word64 hc).1 (word64 hc).2) (fun r w' i => left30 hc r w' i) (fun r1 r2 w' i1 i2 => over_unit hc n0 fN q2 r1 r2 w' i1 (by rw [← e]; exact i2)) (fun r w' i => word_any _ r w' i ((sgd_fit m2).small (by omega))) HT
theorem runit_zero (w : World) : Calls Tryz.prog 12 #[.agg #[.int .i64 0, .int .i64 0, .int .i64 0]] w fun e w' => e = .returned (.tuple #[.agg #[.int .i64 0, .int .i64 0, .int .i64 0], .int .i64 3]) ∧ Ext w w' := by
  have h : ok3 0 0 0 = true := by decide
  refine runit_nought 0 0 0 (dot3 0 0 0 0 0 0) w (fun w' => rdot_any 0 0 0 0 0 0 w' h h) (fun r w' hr => ?_)
  have H := zero_isI _ r w' hr ((dot3_fit h).small (by omega))
  rw [show decide (dot3 0 0 0 0 0 0 = 0) = true by decide] at H
  exact H
end Go.Proofs.YtfmalpnlencmbaaGreat
