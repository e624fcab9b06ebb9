/- gimbalref3: units of vectors. gimbalref3: Unit, Norm. gimbalref3: units of quaternions. gimbalref3: four whole numbers as a quaternion's: of, sum. gimbalref3: sum. -/
import Derived.Test.YtoeecldhbabmbaaGreatMg41
import Derived.Test.YtoeecldhbabmbaaGreatMg22
import Derived.Test.YtoeecldhbabmbaaGreatMg20
import Derived.Test.YtoeecldhbabmbaaGreatMg23
open Go.Value renaming int → J, agg → zG
open Go.IntKind renaming i64 → zq
open Go.Ending renaming returned → zR
open Go.Proofs.Tryz renaming prog → zP
namespace Go.Proofs.YtoeecldhbabmbaaGreat
open Go.RowKit Go.Shelf
theorem eX {a b : World} (h : Ext a b := by repeat (first | with_reducible assumption | with_reducible exact Ext.refl _ | with_reducible refine Ext.drew ?_ | with_reducible refine Ext.drewN ?_ _ | with_reducible refine Ext.alloc ?_ _ | with_reducible refine Ext.set ?_ (by first | exact Nat.le_refl _ | (dsimp only; omega) | (simp; done)) _)) : Ext a b := h
set_option maxRecDepth 20000 in
set_option maxHeartbeats 16000000 in
theorem runit_raw (a b c x0 x1 x2 t0 t1 t2 p0 p1 p2 e0 e1 e2 N s0 s1 s2 es : Int) (w : World) (HD : Hid (∀ w', Calls zP 52 #[zG #[J zq a, J zq b, J zq c], zG #[J zq a, J zq b, J zq c]] w' fun e w'' => (∃ r, e = zR r ∧ IsI w'' r (N)) ∧ Ext w' w'')) (HZ : Hid (∀ r w', IsI w' r N → Calls zP 68 #[r] w' fun e w'' => e = zR (.bool false) ∧ Ext w' w'')) (F0 : Hid (∀ w', Calls zP 24 #[J zq a] w' fun e w'' => (∃ r, e = zR r ∧ IsI w'' r (a)) ∧ Ext w' w'')) (L0 : Hid (∀ r w', IsI w' r a → Calls zP 59 #[r, J zq 30] w' fun e w'' => (∃ r, e = zR r ∧ IsI w'' r (x0)) ∧ Ext w' w'')) (O0 : Hid (∀ r1 r2 w', IsI w' r1 x0 → IsI w' r2 N → Calls zP 70 #[r1, r2] w' fun e w'' => (∃ r, e = zR r ∧ IsI w'' r (t0)) ∧ Ext w' w'')) (W0 : Hid (∀ r w', IsI w' r t0 → Calls zP 69 #[r] w' fun e w'' => e = zR (.tuple #[J zq p0, J zq e0]) ∧ Ext w' w'')) (F1 : Hid (∀ w', Calls zP 24 #[J zq b] w' fun e w'' => (∃ r, e = zR r ∧ IsI w'' r (b)) ∧ Ext w' w'')) (L1 : Hid (∀ r w', IsI w' r b → Calls zP 59 #[r, J zq 30] w' fun e w'' => (∃ r, e = zR r ∧ IsI w'' r (x1)) ∧ Ext w' w'')) (O1 : Hid (∀ r1 r2 w', IsI w' r1 x1 → IsI w' r2 N → Calls zP 70 #[r1, r2] w' fun e w'' => (∃ r, e = zR r ∧ IsI w'' r (t1)) ∧ Ext w' w'')) (W1 : Hid (∀ r w', IsI w' r t1 → Calls zP 69 #[r] w' fun e w'' => e = zR (.tuple #[J zq p1, J zq e1]) ∧ Ext w' w'')) (F2 : Hid (∀ w', Calls zP 24 #[J zq c] w' fun e w'' => (∃ r, e = zR r ∧ IsI w'' r (c)) ∧ Ext w' w'')) (L2 : Hid (∀ r w', IsI w' r c → Calls zP 59 #[r, J zq 30] w' fun e w'' => (∃ r, e = zR r ∧ IsI w'' r (x2)) ∧ Ext w' w'')) (O2 : Hid (∀ r1 r2 w', IsI w' r1 x2 → IsI w' r2 N → Calls zP 70 #[r1, r2] w' fun e w'' => (∃ r, e = zR r ∧ IsI w'' r (t2)) ∧ Ext w' w'')) (W2 : Hid (∀ r w', IsI w' r t2 → Calls zP 69 #[r] w' fun e w'' => e = zR (.tuple #[J zq p2, J zq e2]) ∧ Ext w' w'')) (HT : Hid (∀ w', Calls zP 62 #[J zq p0, J zq e0, J zq p1, J zq e1, J zq p2, J zq e2] w' fun e w'' => e = zR (.tuple #[zG #[J zq s0, J zq s1, J zq s2], J zq es]) ∧ Ext w' w'')) :
    Calls zP 30 #[zG #[J zq a, J zq b, J zq c]] w fun e w' => e = zR (.tuple #[zG #[J zq s0, J zq s1, J zq s2], J zq es]) ∧ Ext w w' := by
  have QB : Hid (HV ((w.alloc (.cells #[J zq a, J zq b, J zq c] 28)).alloc (.cells #[J zq 0, J zq 0, J zq 0] 28)) w.heap.size [J zq a, J zq b, J zq c]) := HV.alloc (hv_at rfl) _
  have RB : Hid (HV ((w.alloc (.cells #[J zq a, J zq b, J zq c] 28)).alloc (.cells #[J zq 0, J zq 0, J zq 0] 28)) (w.heap.size + 1) [J zq 0, J zq 0, J zq 0]) := hv_at (by simp)
  have E0 : Hid (Ext w ((w.alloc (.cells #[J zq a, J zq b, J zq c] 28)).alloc (.cells #[J zq 0, J zq 0, J zq 0] 28))) := ((Ext.refl _).alloc _).alloc _
  go_enter Tryz.func30, Tryz.ntmps30
  go_upto_region 1 with fail
  generalize ((w.alloc (.cells #[J zq a, J zq b, J zq c] 28)).alloc (.cells #[J zq 0, J zq 0, J zq 0] 28)) = wB at *
  have q0 := QB.out.c 0 rfl
  have q1 := QB.out.c 1 rfl
  have q2 := QB.out.c 2 rfl
  go_wp2_with fail
  refine (HD.out _).mono ?_
  rintro e w1 ⟨⟨r, rfl, hr⟩, x1⟩
  obtain ⟨u, hu, hk⟩ := hr
  obtain ⟨an, ln, cn, hau⟩ := hk.isSlice
  subst hau; subst hu
  have IN : Hid (IsI w1 (zG #[.bool (decide (N < 0)), .slice an ln cn]) N) := ⟨_, rfl, hk⟩
  have QB : Hid (HV w1 w.heap.size [J zq a, J zq b, J zq c]) := QB.out.ext x1
  have RB : Hid (HV w1 (w.heap.size + 1) [J zq 0, J zq 0, J zq 0]) := RB.out.ext x1
  have E0 := exx E0 x1
  clear hk x1 HD q0 q1 q2
  generalize decide (N < 0) = bn at *
  go_upto_region 2 with fail
  have NB : Hid (HV (w1.alloc (.cells #[.bool bn, .slice an ln cn] 50)) w1.heap.size [.bool bn, .slice an ln cn]) := hv_at rfl
  have lr : w.heap.size + 1 < w1.heap.size := RB.out.1
  have lq : w.heap.size < w1.heap.size := QB.out.1
  have IN : Hid (IsI (w1.alloc (.cells #[.bool bn, .slice an ln cn] 50)) (zG #[.bool bn, .slice an ln cn]) N) := IN.out.ext ((Ext.refl _).alloc _)
  have QB : Hid (HV (w1.alloc (.cells #[.bool bn, .slice an ln cn] 50)) w.heap.size [J zq a, J zq b, J zq c]) := QB.out.alloc _
  have RB : Hid (HV (w1.alloc (.cells #[.bool bn, .slice an ln cn] 50)) (w.heap.size + 1) [J zq 0, J zq 0, J zq 0]) := RB.out.alloc _
  have E0 := exl E0 (.cells #[.bool bn, .slice an ln cn] 50)
  generalize w1.alloc (.cells #[.bool bn, .slice an ln cn] 50) = w2 at *
  generalize w1.heap.size = nn at *
  have n0 := NB.out.c 0 rfl
  have n1 := NB.out.c 1 rfl
  go_upto_region 4 with (go_at_call 68; refine (HZ.out _ _ IN.out).mono ?_; rintro e w3 ⟨rfl, x3⟩)
  have IN : Hid (IsI w3 (zG #[.bool bn, .slice an ln cn]) N) := IN.out.ext x3
  have NB : Hid (HV w3 nn [.bool bn, .slice an ln cn]) := NB.out.ext x3
  have QB : Hid (HV w3 w.heap.size [J zq a, J zq b, J zq c]) := QB.out.ext x3
  have RB : Hid (HV w3 (w.heap.size + 1) [J zq 0, J zq 0, J zq 0]) := RB.out.ext x3
  have E0 := exx E0 x3
  clear x3 n0 n1 HZ
  go_upto_region 4 with fail
  go_cut [5, 6] (fun v5 v6 wx => v5 = J zq p0 ∧ v6 = J zq e0 ∧ Hid (Ext w3 wx))
  case first =>
    have q0 := QB.out.c 0 rfl
    have n0 := NB.out.c 0 rfl
    have n1 := NB.out.c 1 rfl
    have lq1 := QB.out.1
    have ln1 := NB.out.1
    go_region_held3 (fun w' => w'.cell? ⟨w.heap.size, 0, none⟩ = some (J zq a) ∧ w'.cell? ⟨nn, 0, none⟩ = some (.bool bn) ∧ w'.cell? ⟨nn, 1, none⟩ = some (.slice an ln cn)) (first | (go_keep; done) | skip) (first | (go_at_call 24; refine (F0.out _).mono ?_; rintro e wf0 ⟨⟨rf, rfl, hf⟩, xf⟩; have Yf : Ext w3 wf0 := Ext.trans eX xf; have kf0 := (QB.out.ext Yf).c 0 rfl; have kf1 := (NB.out.ext Yf).c 0 rfl; have kf2 := (NB.out.ext Yf).c 1 rfl; have lf0 := (QB.out.ext Yf).1; have lf1 := (NB.out.ext Yf).1) | (go_at_call 59; refine (L0.out _ _ (hf.ext eX)).mono ?_; rintro e wl0 ⟨⟨rl, rfl, hl⟩, xl⟩; have Yl : Ext w3 wl0 := Ext.trans eX xl; have kl0 := (QB.out.ext Yl).c 0 rfl; have kl1 := (NB.out.ext Yl).c 0 rfl; have kl2 := (NB.out.ext Yl).c 1 rfl; have ll0 := (QB.out.ext Yl).1; have ll1 := (NB.out.ext Yl).1) | (go_at_call 70; refine (O0.out _ _ _ (hl.ext eX) (IN.out.ext (Ext.trans Yl eX))).mono ?_; rintro e wo0 ⟨⟨ro, rfl, ho⟩, xo⟩; have Yo : Ext w3 wo0 := Ext.trans eX xo; have ko0 := (QB.out.ext Yo).c 0 rfl; have ko1 := (NB.out.ext Yo).c 0 rfl; have ko2 := (NB.out.ext Yo).c 1 rfl; have lo0 := (QB.out.ext Yo).1; have lo1 := (NB.out.ext Yo).1) | (go_at_call 69; refine (W0.out _ _ (ho.ext eX)).mono ?_; rintro e wd0 ⟨rfl, xd⟩; have Yd : Ext w3 wd0 := Ext.trans eX xd; have kd0 := (QB.out.ext Yd).c 0 rfl; have kd1 := (NB.out.ext Yd).c 0 rfl; have kd2 := (NB.out.ext Yd).c 1 rfl; have ld0 := (QB.out.ext Yd).1; have ld1 := (NB.out.ext Yd).1))
    all_goals
      go_wp2_with fail
      go_meet
      first | exact ⟨rfl, rfl, Yd⟩ | exact ⟨rfl, rfl, Yd.drew⟩
  case rest =>
    obtain ⟨rfl, rfl, hx⟩ := hcut
    have IN : Hid (IsI wc (zG #[.bool bn, .slice an ln cn]) N) := IN.out.ext hx.out
    have NB : Hid (HV wc nn [.bool bn, .slice an ln cn]) := NB.out.ext hx.out
    have QB : Hid (HV wc w.heap.size [J zq a, J zq b, J zq c]) := QB.out.ext hx.out
    have RB : Hid (HV wc (w.heap.size + 1) [J zq 0, J zq 0, J zq 0]) := RB.out.ext hx.out
    have E0 := exx E0 hx.out
    clear hx F0 L0 O0 W0
    generalize wc = wk0 at *
    go_upto_region 5 with fail
    go_cut [7, 8] (fun v5 v6 wx => v5 = J zq p1 ∧ v6 = J zq e1 ∧ Hid (Ext wk0 wx))
    case first =>
      have q0 := QB.out.c 1 rfl
      have n0 := NB.out.c 0 rfl
      have n1 := NB.out.c 1 rfl
      have lq1 := QB.out.1
      have ln1 := NB.out.1
      go_region_held3 (fun w' => w'.cell? ⟨w.heap.size, 1, none⟩ = some (J zq b) ∧ w'.cell? ⟨nn, 0, none⟩ = some (.bool bn) ∧ w'.cell? ⟨nn, 1, none⟩ = some (.slice an ln cn)) (first | (go_keep; done) | skip) (first | (go_at_call 24; refine (F1.out _).mono ?_; rintro e wf1 ⟨⟨rf, rfl, hf⟩, xf⟩; have Yf : Ext wk0 wf1 := Ext.trans eX xf; have kf0 := (QB.out.ext Yf).c 1 rfl; have kf1 := (NB.out.ext Yf).c 0 rfl; have kf2 := (NB.out.ext Yf).c 1 rfl; have lf0 := (QB.out.ext Yf).1; have lf1 := (NB.out.ext Yf).1) | (go_at_call 59; refine (L1.out _ _ (hf.ext eX)).mono ?_; rintro e wl1 ⟨⟨rl, rfl, hl⟩, xl⟩; have Yl : Ext wk0 wl1 := Ext.trans eX xl; have kl0 := (QB.out.ext Yl).c 1 rfl; have kl1 := (NB.out.ext Yl).c 0 rfl; have kl2 := (NB.out.ext Yl).c 1 rfl; have ll0 := (QB.out.ext Yl).1; have ll1 := (NB.out.ext Yl).1) | (go_at_call 70; refine (O1.out _ _ _ (hl.ext eX) (IN.out.ext (Ext.trans Yl eX))).mono ?_; rintro e wo1 ⟨⟨ro, rfl, ho⟩, xo⟩; have Yo : Ext wk0 wo1 := Ext.trans eX xo; have ko0 := (QB.out.ext Yo).c 1 rfl; have ko1 := (NB.out.ext Yo).c 0 rfl; have ko2 := (NB.out.ext Yo).c 1 rfl; have lo0 := (QB.out.ext Yo).1; have lo1 := (NB.out.ext Yo).1) | (go_at_call 69; refine (W1.out _ _ (ho.ext eX)).mono ?_; rintro e wd1 ⟨rfl, xd⟩; have Yd : Ext wk0 wd1 := Ext.trans eX xd; have kd0 := (QB.out.ext Yd).c 1 rfl; have kd1 := (NB.out.ext Yd).c 0 rfl; have kd2 := (NB.out.ext Yd).c 1 rfl; have ld0 := (QB.out.ext Yd).1; have ld1 := (NB.out.ext Yd).1))
      all_goals
        go_wp2_with fail
        go_meet
        first | exact ⟨rfl, rfl, Yd⟩ | exact ⟨rfl, rfl, Yd.drew⟩
    case rest =>
      obtain ⟨rfl, rfl, hx⟩ := hcut
      have IN : Hid (IsI wc (zG #[.bool bn, .slice an ln cn]) N) := IN.out.ext hx.out
      have NB : Hid (HV wc nn [.bool bn, .slice an ln cn]) := NB.out.ext hx.out
      have QB : Hid (HV wc w.heap.size [J zq a, J zq b, J zq c]) := QB.out.ext hx.out
      have RB : Hid (HV wc (w.heap.size + 1) [J zq 0, J zq 0, J zq 0]) := RB.out.ext hx.out
      have E0 := exx E0 hx.out
      clear hx F1 L1 O1 W1
      generalize wc = wk1 at *
      go_upto_region 6 with fail
      go_cut [9, 10] (fun v5 v6 wx => v5 = J zq p2 ∧ v6 = J zq e2 ∧ Hid (Ext wk1 wx))
      case first =>
        have q0 := QB.out.c 2 rfl
        have n0 := NB.out.c 0 rfl
        have n1 := NB.out.c 1 rfl
        have lq1 := QB.out.1
        have ln1 := NB.out.1
        go_region_held3 (fun w' => w'.cell? ⟨w.heap.size, 2, none⟩ = some (J zq c) ∧ w'.cell? ⟨nn, 0, none⟩ = some (.bool bn) ∧ w'.cell? ⟨nn, 1, none⟩ = some (.slice an ln cn)) (first | (go_keep; done) | skip) (first | (go_at_call 24; refine (F2.out _).mono ?_; rintro e wf2 ⟨⟨rf, rfl, hf⟩, xf⟩; have Yf : Ext wk1 wf2 := Ext.trans eX xf; have kf0 := (QB.out.ext Yf).c 2 rfl; have kf1 := (NB.out.ext Yf).c 0 rfl; have kf2 := (NB.out.ext Yf).c 1 rfl; have lf0 := (QB.out.ext Yf).1; have lf1 := (NB.out.ext Yf).1) | (go_at_call 59; refine (L2.out _ _ (hf.ext eX)).mono ?_; rintro e wl2 ⟨⟨rl, rfl, hl⟩, xl⟩; have Yl : Ext wk1 wl2 := Ext.trans eX xl; have kl0 := (QB.out.ext Yl).c 2 rfl; have kl1 := (NB.out.ext Yl).c 0 rfl; have kl2 := (NB.out.ext Yl).c 1 rfl; have ll0 := (QB.out.ext Yl).1; have ll1 := (NB.out.ext Yl).1) | (go_at_call 70; refine (O2.out _ _ _ (hl.ext eX) (IN.out.ext (Ext.trans Yl eX))).mono ?_; rintro e wo2 ⟨⟨ro, rfl, ho⟩, xo⟩; have Yo : Ext wk1 wo2 := Ext.trans eX xo; have ko0 := (QB.out.ext Yo).c 2 rfl; have ko1 := (NB.out.ext Yo).c 0 rfl; have ko2 := (NB.out.ext Yo).c 1 rfl; have lo0 := (QB.out.ext Yo).1; have lo1 := (NB.out.ext Yo).1) | (go_at_call 69; refine (W2.out _ _ (ho.ext eX)).mono ?_; rintro e wd2 ⟨rfl, xd⟩; have Yd : Ext wk1 wd2 := Ext.trans eX xd; have kd0 := (QB.out.ext Yd).c 2 rfl; have kd1 := (NB.out.ext Yd).c 0 rfl; have kd2 := (NB.out.ext Yd).c 1 rfl; have ld0 := (QB.out.ext Yd).1; have ld1 := (NB.out.ext Yd).1))
        all_goals
          go_wp2_with fail
          go_meet
          first | exact ⟨rfl, rfl, Yd⟩ | exact ⟨rfl, rfl, Yd.drew⟩
      case rest =>
        obtain ⟨rfl, rfl, hx⟩ := hcut
        have IN : Hid (IsI wc (zG #[.bool bn, .slice an ln cn]) N) := IN.out.ext hx.out
        have NB : Hid (HV wc nn [.bool bn, .slice an ln cn]) := NB.out.ext hx.out
        have QB : Hid (HV wc w.heap.size [J zq a, J zq b, J zq c]) := QB.out.ext hx.out
        have RB : Hid (HV wc (w.heap.size + 1) [J zq 0, J zq 0, J zq 0]) := RB.out.ext hx.out
        have E0 := exx E0 hx.out
        clear hx F2 L2 O2 W2
        generalize wc = wk2 at *
        go_wp2_with fail
        refine (HT.out _).mono ?_
        rintro e w8 ⟨rfl, x8⟩
        have RB : Hid (HV w8 (w.heap.size + 1) [J zq 0, J zq 0, J zq 0]) := RB.out.ext x8
        have E0 := exx E0 x8
        clear x8
        have z0 := RB.out.c 0 rfl
        have y0 := RB.out.f 0 rfl
        have z1 := RB.out.c 1 rfl
        have y1 := RB.out.f 1 rfl
        have z2 := RB.out.c 2 rfl
        have y2 := RB.out.f 2 rfl
        have rl := RB.out.1
        go_wp2_with fail
        exact bodyPost_ret (v := .tuple #[zG #[J zq s0, J zq s1, J zq s2], J zq es]) (by simp [results, Tryz.results30, go_sem, z0, z1, z2]) rfl ⟨rfl, (((E0.out.set (p := ⟨w.heap.size + 1, 0, none⟩) (Nat.le_succ _) _).set (p := ⟨w.heap.size + 1, 1, none⟩) (Nat.le_succ _) _).set (p := ⟨w.heap.size + 1, 2, none⟩) (Nat.le_succ _) _)⟩
theorem dot3_fit {a b c : Int} (h : ok3 a b c = true) : Fit 100 (dot3 a b c a b c) := by
  have e := sq3_dot a b c
  have l := sq3_lt h
  have p : (2 : Nat) ^ 100 = 1267650600228229401496703205376 := by decide
  unfold Fit
  rw [e, Int.natAbs_natCast]
  omega
theorem zero_no {a b c : Int} (h : ok3 a b c = true) (hz : ¬ (a = 0 ∧ b = 0 ∧ c = 0)) (r : Value) (w : World) (hr : IsI w r (dot3 a b c a b c)) : Calls zP 68 #[r] w fun e w' => e = zR (.bool false) ∧ Ext w w' := by
  have H := zero_isI _ r w hr ((dot3_fit h).small (by omega))
  have n0 := sq3_zero a b c hz
  have e := sq3_dot a b c
  rw [show decide (dot3 a b c a b c = 0) = false by rw [e]; simp; omega] at H
  exact H
theorem sgd_two (a : Int) (k : Nat) : (if a * 2 ^ 30 < 0 then -(k : Int) else (k : Int)) = sgd a k := by
  unfold sgd
  by_cases h : a < 0
  · rw [if_pos h, if_pos (by omega)]
  · rw [if_neg h, if_neg (by omega)]
theorem sq_two30 (a : Int) : (a * 2 ^ 30).natAbs * (a * 2 ^ 30).natAbs = a.natAbs * a.natAbs * 1152921504606846976 := by
  rw [Int.natAbs_mul]
  have e : ((2 : Int) ^ 30).natAbs = 1073741824 := by decide
  rw [e]
  have : ∀ K : Nat, a.natAbs * K * (a.natAbs * K) = a.natAbs * a.natAbs * (K * K) := fun K => by grind
  rw [this]
theorem over_unit {a : Int} {n k : Nat} (ha : okW a = true) (hn : 0 < n) (hn2 : Fit 100 (n : Int)) (hk : RootQ (a.natAbs * a.natAbs * 1152921504606846976) n k) (r1 r2 : Value) (w : World) (h1 : IsI w r1 (a * 2 ^ 30)) (h2 : IsI w r2 (n : Int)) :
    Calls zP 70 #[r1, r2] w fun e w' => (∃ r, e = zR r ∧ IsI w' r (sgd a k)) ∧ Ext w w' := by
  have fa : Fit 46 a := by
    have := okW_bounds ha
    have e : (2 : Nat) ^ 46 = 70368744177664 := by decide
    unfold Fit; omega
  have f1 := fa.shl 30
  refine (overroot_any (a * 2 ^ 30) n 100 r1 r2 w h1 h2 (by omega) (by omega) (by omega) (f1.le (by omega)) hn2).mono ?_
  rintro e w' ⟨⟨r, s, he, hr, hs⟩, hx⟩
  rw [sq_two30] at hs
  obtain rfl : s = k := rootQ_unique hn hs hk
  rw [sgd_two] at hr
  exact ⟨⟨r, he, hr⟩, hx⟩
theorem left30 {a : Int} (ha : okW a = true) (r : Value) (w : World) (h : IsI w r a) : Calls zP 59 #[r, J zq 30] w fun e w' => (∃ r', e = zR r' ∧ IsI w' r' (a * 2 ^ 30)) ∧ Ext w w' := by
  have fa : Fit 46 a := by
    have := okW_bounds ha
    have e : (2 : Nat) ^ 46 = 70368744177664 := by decide
    unfold Fit; omega
  exact left_isI a 30 r w h (fa.small (by omega)) (by omega) ((fa.shl 30).small (by omega))
theorem sgd_fit {a : Int} {k : Nat} (h : k ≤ 1073741824) : Fit 46 (sgd a k) := by
  have e : (2 : Nat) ^ 46 = 70368744177664 := by decide
  unfold Fit
  rw [sgd_le, e]; omega
theorem runit_any (a b c : Int) (k0 k1 k2 : Nat) (w : World) (h : ok3 a b c = true) (hz : ¬ (a = 0 ∧ b = 0 ∧ c = 0))
    (q0 : RootQ (a.natAbs * a.natAbs * 1152921504606846976) (sq3 a b c) k0) (q1 : RootQ (b.natAbs * b.natAbs * 1152921504606846976) (sq3 a b c) k1) (q2 : RootQ (c.natAbs * c.natAbs * 1152921504606846976) (sq3 a b c) k2) :
    Calls zP 30 #[zG #[J zq a, J zq b, J zq c]] w fun e w' => e = zR (vres (sgd a k0) (sgd b k1) (sgd c k2)) ∧ Ext w w' := by
  obtain ⟨ha, hb, hc⟩ := ok3_parts h
  have n0 := sq3_zero a b c hz
  obtain ⟨l0, l1, l2⟩ := sq3_parts a b c
  have m0 := unit_k_le n0 l0 q0; have m1 := unit_k_le n0 l1 q1; have m2 := unit_k_le n0 l2 q2
  have e := sq3_dot a b c
  have fN := dot3_fit h
  have HT : ∀ w', Calls zP 62 #[J zq (fitR (sgd a k0)).1, J zq (fitR (sgd a k0)).2, J zq (fitR (sgd b k1)).1, J zq (fitR (sgd b k1)).2, J zq (fitR (sgd c k2)).1, J zq (fitR (sgd c k2)).2] w' fun e w'' => e = zR (vres (sgd a k0) (sgd b k1) (sgd c k2)) ∧ Ext w' w'' := three_any (sgd a k0) (sgd b k1) (sgd c k2)
  obtain ⟨x, y, z, er, hr⟩ := vres_shape (sgd a k0) (sgd b k1) (sgd c k2)
  rw [hr] at HT ⊢
  rw [e] at fN
  exact runit_raw a b c _ _ _ _ _ _ _ _ _ _ _ _ (dot3 a b c a b c) x y z er w (fun w' => rdot_any a b c a b c w' h h) (fun r w' hr => zero_no h hz r w' hr)
    (fun w' => from_any a w' (word64 ha).1 (word64 ha).2) (fun r w' i => left30 ha r w' i) (fun r1 r2 w' i1 i2 => over_unit ha n0 fN q0 r1 r2 w' i1 (by rw [← e]; exact i2)) (fun r w' i => word_any _ r w' i ((sgd_fit m0).small (by omega)))
    (fun w' => from_any b w' (word64 hb).1 (word64 hb).2) (fun r w' i => left30 hb r w' i) (fun r1 r2 w' i1 i2 => over_unit hb n0 fN q1 r1 r2 w' i1 (by rw [← e]; exact i2)) (fun r w' i => word_any _ r w' i ((sgd_fit m1).small (by omega)))
    (fun w' => from_any c w' (word64 hc).1 (word64 hc).2) (fun r w' i => left30 hc r w' i) (fun r1 r2 w' i1 i2 => over_unit hc n0 fN q2 r1 r2 w' i1 (by rw [← e]; exact i2)) (fun r w' i => word_any _ r w' i ((sgd_fit m2).small (by omega))) HT
set_option maxRecDepth 20000 in
set_option maxHeartbeats 16000000 in
theorem runitq_raw (a b c d x0 x1 x2 x3 t0 t1 t2 t3 p0 p1 p2 p3 e0 e1 e2 e3 N s0 s1 s2 es u0 u1 u2 u3 eu : Int) (w : World) (HD : Hid (∀ w', Calls zP 19 #[zG #[J zq a, J zq b, J zq c, J zq d]] w' fun e w'' => (∃ r, e = zR r ∧ IsI w'' r (N)) ∧ Ext w' w'')) (HZ : Hid (∀ r w', IsI w' r N → Calls zP 68 #[r] w' fun e w'' => e = zR (.bool false) ∧ Ext w' w'')) (F0 : Hid (∀ w', Calls zP 24 #[J zq a] w' fun e w'' => (∃ r, e = zR r ∧ IsI w'' r (a)) ∧ Ext w' w'')) (L0 : Hid (∀ r w', IsI w' r a → Calls zP 59 #[r, J zq 30] w' fun e w'' => (∃ r, e = zR r ∧ IsI w'' r (x0)) ∧ Ext w' w'')) (O0 : Hid (∀ r1 r2 w', IsI w' r1 x0 → IsI w' r2 N → Calls zP 70 #[r1, r2] w' fun e w'' => (∃ r, e = zR r ∧ IsI w'' r (t0)) ∧ Ext w' w'')) (W0 : Hid (∀ r w', IsI w' r t0 → Calls zP 69 #[r] w' fun e w'' => e = zR (.tuple #[J zq p0, J zq e0]) ∧ Ext w' w'')) (F1 : Hid (∀ w', Calls zP 24 #[J zq b] w' fun e w'' => (∃ r, e = zR r ∧ IsI w'' r (b)) ∧ Ext w' w'')) (L1 : Hid (∀ r w', IsI w' r b → Calls zP 59 #[r, J zq 30] w' fun e w'' => (∃ r, e = zR r ∧ IsI w'' r (x1)) ∧ Ext w' w'')) (O1 : Hid (∀ r1 r2 w', IsI w' r1 x1 → IsI w' r2 N → Calls zP 70 #[r1, r2] w' fun e w'' => (∃ r, e = zR r ∧ IsI w'' r (t1)) ∧ Ext w' w'')) (W1 : Hid (∀ r w', IsI w' r t1 → Calls zP 69 #[r] w' fun e w'' => e = zR (.tuple #[J zq p1, J zq e1]) ∧ Ext w' w'')) (F2 : Hid (∀ w', Calls zP 24 #[J zq c] w' fun e w'' => (∃ r, e = zR r ∧ IsI w'' r (c)) ∧ Ext w' w'')) (L2 : Hid (∀ r w', IsI w' r c → Calls zP 59 #[r, J zq 30] w' fun e w'' => (∃ r, e = zR r ∧ IsI w'' r (x2)) ∧ Ext w' w'')) (O2 : Hid (∀ r1 r2 w', IsI w' r1 x2 → IsI w' r2 N → Calls zP 70 #[r1, r2] w' fun e w'' => (∃ r, e = zR r ∧ IsI w'' r (t2)) ∧ Ext w' w'')) (W2 : Hid (∀ r w', IsI w' r t2 → Calls zP 69 #[r] w' fun e w'' => e = zR (.tuple #[J zq p2, J zq e2]) ∧ Ext w' w'')) (F3 : Hid (∀ w', Calls zP 24 #[J zq d] w' fun e w'' => (∃ r, e = zR r ∧ IsI w'' r (d)) ∧ Ext w' w'')) (L3 : Hid (∀ r w', IsI w' r d → Calls zP 59 #[r, J zq 30] w' fun e w'' => (∃ r, e = zR r ∧ IsI w'' r (x3)) ∧ Ext w' w'')) (O3 : Hid (∀ r1 r2 w', IsI w' r1 x3 → IsI w' r2 N → Calls zP 70 #[r1, r2] w' fun e w'' => (∃ r, e = zR r ∧ IsI w'' r (t3)) ∧ Ext w' w'')) (W3 : Hid (∀ r w', IsI w' r t3 → Calls zP 69 #[r] w' fun e w'' => e = zR (.tuple #[J zq p3, J zq e3]) ∧ Ext w' w'')) (HT : Hid (∀ w', Calls zP 62 #[J zq p1, J zq e1, J zq p2, J zq e2, J zq p3, J zq e3] w' fun e w'' => e = zR (.tuple #[zG #[J zq s0, J zq s1, J zq s2], J zq es]) ∧ Ext w' w'')) (HQ : Hid (∀ w', Calls zP 63 #[J zq p0, J zq e0, zG #[J zq s0, J zq s1, J zq s2], J zq es] w' fun e w'' => e = zR (.tuple #[zG #[J zq u0, J zq u1, J zq u2, J zq u3], J zq eu]) ∧ Ext w' w'')) :
    Calls zP 66 #[zG #[J zq a, J zq b, J zq c, J zq d]] w fun e w' => e = zR (.tuple #[zG #[J zq u0, J zq u1, J zq u2, J zq u3], J zq eu]) ∧ Ext w w' := by
  have QB : Hid (HV ((w.alloc (.cells #[J zq a, J zq b, J zq c, J zq d] 24)).alloc (.cells #[J zq 0, J zq 0, J zq 0, J zq 0] 24)) w.heap.size [J zq a, J zq b, J zq c, J zq d]) := HV.alloc (hv_at rfl) _
  have RB : Hid (HV ((w.alloc (.cells #[J zq a, J zq b, J zq c, J zq d] 24)).alloc (.cells #[J zq 0, J zq 0, J zq 0, J zq 0] 24)) (w.heap.size + 1) [J zq 0, J zq 0, J zq 0, J zq 0]) := hv_at (by simp)
  have E0 : Hid (Ext w ((w.alloc (.cells #[J zq a, J zq b, J zq c, J zq d] 24)).alloc (.cells #[J zq 0, J zq 0, J zq 0, J zq 0] 24))) := ((Ext.refl _).alloc _).alloc _
  go_enter Tryz.func66, Tryz.ntmps66
  go_upto_region 1 with fail
  generalize ((w.alloc (.cells #[J zq a, J zq b, J zq c, J zq d] 24)).alloc (.cells #[J zq 0, J zq 0, J zq 0, J zq 0] 24)) = wB at *
  have q0 := QB.out.c 0 rfl
  have q1 := QB.out.c 1 rfl
  have q2 := QB.out.c 2 rfl
  have q3 := QB.out.c 3 rfl
  go_wp2_with fail
  refine (HD.out _).mono ?_
  rintro e w1 ⟨⟨r, rfl, hr⟩, x1⟩
  obtain ⟨u, hu, hk⟩ := hr
  obtain ⟨an, ln, cn, hau⟩ := hk.isSlice
  subst hau; subst hu
  have IN : Hid (IsI w1 (zG #[.bool (decide (N < 0)), .slice an ln cn]) N) := ⟨_, rfl, hk⟩
  have QB : Hid (HV w1 w.heap.size [J zq a, J zq b, J zq c, J zq d]) := QB.out.ext x1
  have RB : Hid (HV w1 (w.heap.size + 1) [J zq 0, J zq 0, J zq 0, J zq 0]) := RB.out.ext x1
  have E0 := exx E0 x1
  clear hk x1 HD q0 q1 q2 q3
  generalize decide (N < 0) = bn at *
  go_upto_region 2 with fail
  have NB : Hid (HV (w1.alloc (.cells #[.bool bn, .slice an ln cn] 50)) w1.heap.size [.bool bn, .slice an ln cn]) := hv_at rfl
  have lr : w.heap.size + 1 < w1.heap.size := RB.out.1
  have lq : w.heap.size < w1.heap.size := QB.out.1
  have IN : Hid (IsI (w1.alloc (.cells #[.bool bn, .slice an ln cn] 50)) (zG #[.bool bn, .slice an ln cn]) N) := IN.out.ext ((Ext.refl _).alloc _)
  have QB : Hid (HV (w1.alloc (.cells #[.bool bn, .slice an ln cn] 50)) w.heap.size [J zq a, J zq b, J zq c, J zq d]) := QB.out.alloc _
  have RB : Hid (HV (w1.alloc (.cells #[.bool bn, .slice an ln cn] 50)) (w.heap.size + 1) [J zq 0, J zq 0, J zq 0, J zq 0]) := RB.out.alloc _
  have E0 := exl E0 (.cells #[.bool bn, .slice an ln cn] 50)
  generalize w1.alloc (.cells #[.bool bn, .slice an ln cn] 50) = w2 at *
  generalize w1.heap.size = nn at *
  have n0 := NB.out.c 0 rfl
  have n1 := NB.out.c 1 rfl
  go_upto_region 4 with (go_at_call 68; refine (HZ.out _ _ IN.out).mono ?_; rintro e w3 ⟨rfl, x3⟩)
  have IN : Hid (IsI w3 (zG #[.bool bn, .slice an ln cn]) N) := IN.out.ext x3
  have NB : Hid (HV w3 nn [.bool bn, .slice an ln cn]) := NB.out.ext x3
  have QB : Hid (HV w3 w.heap.size [J zq a, J zq b, J zq c, J zq d]) := QB.out.ext x3
  have RB : Hid (HV w3 (w.heap.size + 1) [J zq 0, J zq 0, J zq 0, J zq 0]) := RB.out.ext x3
  have E0 := exx E0 x3
  clear x3 n0 n1 HZ
  go_upto_region 4 with fail
  go_cut [5, 6] (fun v5 v6 wx => v5 = J zq p0 ∧ v6 = J zq e0 ∧ Hid (Ext w3 wx))
  case first =>
    have q0 := QB.out.c 0 rfl
    have n0 := NB.out.c 0 rfl
    have n1 := NB.out.c 1 rfl
    have lq1 := QB.out.1
    have ln1 := NB.out.1
    go_region_held3 (fun w' => w'.cell? ⟨w.heap.size, 0, none⟩ = some (J zq a) ∧ w'.cell? ⟨nn, 0, none⟩ = some (.bool bn) ∧ w'.cell? ⟨nn, 1, none⟩ = some (.slice an ln cn)) (first | (go_keep; done) | skip) (first | (go_at_call 24; refine (F0.out _).mono ?_; rintro e wf0 ⟨⟨rf, rfl, hf⟩, xf⟩; have Yf : Ext w3 wf0 := Ext.trans eX xf; have kf0 := (QB.out.ext Yf).c 0 rfl; have kf1 := (NB.out.ext Yf).c 0 rfl; have kf2 := (NB.out.ext Yf).c 1 rfl; have lf0 := (QB.out.ext Yf).1; have lf1 := (NB.out.ext Yf).1) | (go_at_call 59; refine (L0.out _ _ (hf.ext eX)).mono ?_; rintro e wl0 ⟨⟨rl, rfl, hl⟩, xl⟩; have Yl : Ext w3 wl0 := Ext.trans eX xl; have kl0 := (QB.out.ext Yl).c 0 rfl; have kl1 := (NB.out.ext Yl).c 0 rfl; have kl2 := (NB.out.ext Yl).c 1 rfl; have ll0 := (QB.out.ext Yl).1; have ll1 := (NB.out.ext Yl).1) | (go_at_call 70; refine (O0.out _ _ _ (hl.ext eX) (IN.out.ext (Ext.trans Yl eX))).mono ?_; rintro e wo0 ⟨⟨ro, rfl, ho⟩, xo⟩; have Yo : Ext w3 wo0 := Ext.trans eX xo; have ko0 := (QB.out.ext Yo).c 0 rfl; have ko1 := (NB.out.ext Yo).c 0 rfl; have ko2 := (NB.out.ext Yo).c 1 rfl; have lo0 := (QB.out.ext Yo).1; have lo1 := (NB.out.ext Yo).1) | (go_at_call 69; refine (W0.out _ _ (ho.ext eX)).mono ?_; rintro e wd0 ⟨rfl, xd⟩; have Yd : Ext w3 wd0 := Ext.trans eX xd; have kd0 := (QB.out.ext Yd).c 0 rfl; have kd1 := (NB.out.ext Yd).c 0 rfl; have kd2 := (NB.out.ext Yd).c 1 rfl; have ld0 := (QB.out.ext Yd).1; have ld1 := (NB.out.ext Yd).1))
    all_goals
      go_wp2_with fail
      go_meet
      first | exact ⟨rfl, rfl, Yd⟩ | exact ⟨rfl, rfl, Yd.drew⟩
  case rest =>
    obtain ⟨rfl, rfl, hx⟩ := hcut
    have IN : Hid (IsI wc (zG #[.bool bn, .slice an ln cn]) N) := IN.out.ext hx.out
    have NB : Hid (HV wc nn [.bool bn, .slice an ln cn]) := NB.out.ext hx.out
    have QB : Hid (HV wc w.heap.size [J zq a, J zq b, J zq c, J zq d]) := QB.out.ext hx.out
    have RB : Hid (HV wc (w.heap.size + 1) [J zq 0, J zq 0, J zq 0, J zq 0]) := RB.out.ext hx.out
    have E0 := exx E0 hx.out
    clear hx F0 L0 O0 W0
    generalize wc = wk0 at *
    go_upto_region 5 with fail
    go_cut [7, 8] (fun v5 v6 wx => v5 = J zq p1 ∧ v6 = J zq e1 ∧ Hid (Ext wk0 wx))
    case first =>
      have q0 := QB.out.c 1 rfl
      have n0 := NB.out.c 0 rfl
      have n1 := NB.out.c 1 rfl
      have lq1 := QB.out.1
      have ln1 := NB.out.1
      go_region_held3 (fun w' => w'.cell? ⟨w.heap.size, 1, none⟩ = some (J zq b) ∧ w'.cell? ⟨nn, 0, none⟩ = some (.bool bn) ∧ w'.cell? ⟨nn, 1, none⟩ = some (.slice an ln cn)) (first | (go_keep; done) | skip) (first | (go_at_call 24; refine (F1.out _).mono ?_; rintro e wf1 ⟨⟨rf, rfl, hf⟩, xf⟩; have Yf : Ext wk0 wf1 := Ext.trans eX xf; have kf0 := (QB.out.ext Yf).c 1 rfl; have kf1 := (NB.out.ext Yf).c 0 rfl; have kf2 := (NB.out.ext Yf).c 1 rfl; have lf0 := (QB.out.ext Yf).1; have lf1 := (NB.out.ext Yf).1) | (go_at_call 59; refine (L1.out _ _ (hf.ext eX)).mono ?_; rintro e wl1 ⟨⟨rl, rfl, hl⟩, xl⟩; have Yl : Ext wk0 wl1 := Ext.trans eX xl; have kl0 := (QB.out.ext Yl).c 1 rfl; have kl1 := (NB.out.ext Yl).c 0 rfl; have kl2 := (NB.out.ext Yl).c 1 rfl; have ll0 := (QB.out.ext Yl).1; have ll1 := (NB.out.ext Yl).1) | (go_at_call 70; refine (O1.out _ _ _ (hl.ext eX) (IN.out.ext (Ext.trans Yl eX))).mono ?_; rintro e wo1 ⟨⟨ro, rfl, ho⟩, xo⟩; have Yo : Ext wk0 wo1 := Ext.trans eX xo; have ko0 := (QB.out.ext Yo).c 1 rfl; have ko1 := (NB.out.ext Yo).c 0 rfl; have ko2 := (NB.out.ext Yo).c 1 rfl; have lo0 := (QB.out.ext Yo).1; have lo1 := (NB.out.ext Yo).1) | (go_at_call 69; refine (W1.out _ _ (ho.ext eX)).mono ?_; rintro e wd1 ⟨rfl, xd⟩; have Yd : Ext wk0 wd1 := Ext.trans eX xd; have kd0 := (QB.out.ext Yd).c 1 rfl; have kd1 := (NB.out.ext Yd).c 0 rfl; have kd2 := (NB.out.ext Yd).c 1 rfl; have ld0 := (QB.out.ext Yd).1; have ld1 := (NB.out.ext Yd).1))
      all_goals
        go_wp2_with fail
        go_meet
        first | exact ⟨rfl, rfl, Yd⟩ | exact ⟨rfl, rfl, Yd.drew⟩
    case rest =>
      obtain ⟨rfl, rfl, hx⟩ := hcut
      have IN : Hid (IsI wc (zG #[.bool bn, .slice an ln cn]) N) := IN.out.ext hx.out
      have NB : Hid (HV wc nn [.bool bn, .slice an ln cn]) := NB.out.ext hx.out
      have QB : Hid (HV wc w.heap.size [J zq a, J zq b, J zq c, J zq d]) := QB.out.ext hx.out
      have RB : Hid (HV wc (w.heap.size + 1) [J zq 0, J zq 0, J zq 0, J zq 0]) := RB.out.ext hx.out
      have E0 := exx E0 hx.out
      clear hx F1 L1 O1 W1
      generalize wc = wk1 at *
      go_upto_region 6 with fail
      go_cut [9, 10] (fun v5 v6 wx => v5 = J zq p2 ∧ v6 = J zq e2 ∧ Hid (Ext wk1 wx))
      case first =>
        have q0 := QB.out.c 2 rfl
        have n0 := NB.out.c 0 rfl
        have n1 := NB.out.c 1 rfl
        have lq1 := QB.out.1
        have ln1 := NB.out.1
        go_region_held3 (fun w' => w'.cell? ⟨w.heap.size, 2, none⟩ = some (J zq c) ∧ w'.cell? ⟨nn, 0, none⟩ = some (.bool bn) ∧ w'.cell? ⟨nn, 1, none⟩ = some (.slice an ln cn)) (first | (go_keep; done) | skip) (first | (go_at_call 24; refine (F2.out _).mono ?_; rintro e wf2 ⟨⟨rf, rfl, hf⟩, xf⟩; have Yf : Ext wk1 wf2 := Ext.trans eX xf; have kf0 := (QB.out.ext Yf).c 2 rfl; have kf1 := (NB.out.ext Yf).c 0 rfl; have kf2 := (NB.out.ext Yf).c 1 rfl; have lf0 := (QB.out.ext Yf).1; have lf1 := (NB.out.ext Yf).1) | (go_at_call 59; refine (L2.out _ _ (hf.ext eX)).mono ?_; rintro e wl2 ⟨⟨rl, rfl, hl⟩, xl⟩; have Yl : Ext wk1 wl2 := Ext.trans eX xl; have kl0 := (QB.out.ext Yl).c 2 rfl; have kl1 := (NB.out.ext Yl).c 0 rfl; have kl2 := (NB.out.ext Yl).c 1 rfl; have ll0 := (QB.out.ext Yl).1; have ll1 := (NB.out.ext Yl).1) | (go_at_call 70; refine (O2.out _ _ _ (hl.ext eX) (IN.out.ext (Ext.trans Yl eX))).mono ?_; rintro e wo2 ⟨⟨ro, rfl, ho⟩, xo⟩; have Yo : Ext wk1 wo2 := Ext.trans eX xo; have ko0 := (QB.out.ext Yo).c 2 rfl; have ko1 := (NB.out.ext Yo).c 0 rfl; have ko2 := (NB.out.ext Yo).c 1 rfl; have lo0 := (QB.out.ext Yo).1; have lo1 := (NB.out.ext Yo).1) | (go_at_call 69; refine (W2.out _ _ (ho.ext eX)).mono ?_; rintro e wd2 ⟨rfl, xd⟩; have Yd : Ext wk1 wd2 := Ext.trans eX xd; have kd0 := (QB.out.ext Yd).c 2 rfl; have kd1 := (NB.out.ext Yd).c 0 rfl; have kd2 := (NB.out.ext Yd).c 1 rfl; have ld0 := (QB.out.ext Yd).1; have ld1 := (NB.out.ext Yd).1))
        all_goals
          go_wp2_with fail
          go_meet
          first | exact ⟨rfl, rfl, Yd⟩ | exact ⟨rfl, rfl, Yd.drew⟩
      case rest =>
        obtain ⟨rfl, rfl, hx⟩ := hcut
        have IN : Hid (IsI wc (zG #[.bool bn, .slice an ln cn]) N) := IN.out.ext hx.out
        have NB : Hid (HV wc nn [.bool bn, .slice an ln cn]) := NB.out.ext hx.out
        have QB : Hid (HV wc w.heap.size [J zq a, J zq b, J zq c, J zq d]) := QB.out.ext hx.out
        have RB : Hid (HV wc (w.heap.size + 1) [J zq 0, J zq 0, J zq 0, J zq 0]) := RB.out.ext hx.out
        have E0 := exx E0 hx.out
        clear hx F2 L2 O2 W2
        generalize wc = wk2 at *
        go_upto_region 7 with fail
        go_cut [11, 12] (fun v5 v6 wx => v5 = J zq p3 ∧ v6 = J zq e3 ∧ Hid (Ext wk2 wx))
        case first =>
          have q0 := QB.out.c 3 rfl
          have n0 := NB.out.c 0 rfl
          have n1 := NB.out.c 1 rfl
          have lq1 := QB.out.1
          have ln1 := NB.out.1
          go_region_held3 (fun w' => w'.cell? ⟨w.heap.size, 3, none⟩ = some (J zq d) ∧ w'.cell? ⟨nn, 0, none⟩ = some (.bool bn) ∧ w'.cell? ⟨nn, 1, none⟩ = some (.slice an ln cn)) (first | (go_keep; done) | skip) (first | (go_at_call 24; refine (F3.out _).mono ?_; rintro e wf3 ⟨⟨rf, rfl, hf⟩, xf⟩; have Yf : Ext wk2 wf3 := Ext.trans eX xf; have kf0 := (QB.out.ext Yf).c 3 rfl; have kf1 := (NB.out.ext Yf).c 0 rfl; have kf2 := (NB.out.ext Yf).c 1 rfl; have lf0 := (QB.out.ext Yf).1; have lf1 := (NB.out.ext Yf).1) | (go_at_call 59; refine (L3.out _ _ (hf.ext eX)).mono ?_; rintro e wl3 ⟨⟨rl, rfl, hl⟩, xl⟩; have Yl : Ext wk2 wl3 := Ext.trans eX xl; have kl0 := (QB.out.ext Yl).c 3 rfl; have kl1 := (NB.out.ext Yl).c 0 rfl; have kl2 := (NB.out.ext Yl).c 1 rfl; have ll0 := (QB.out.ext Yl).1; have ll1 := (NB.out.ext Yl).1) | (go_at_call 70; refine (O3.out _ _ _ (hl.ext eX) (IN.out.ext (Ext.trans Yl eX))).mono ?_; rintro e wo3 ⟨⟨ro, rfl, ho⟩, xo⟩; have Yo : Ext wk2 wo3 := Ext.trans eX xo; have ko0 := (QB.out.ext Yo).c 3 rfl; have ko1 := (NB.out.ext Yo).c 0 rfl; have ko2 := (NB.out.ext Yo).c 1 rfl; have lo0 := (QB.out.ext Yo).1; have lo1 := (NB.out.ext Yo).1) | (go_at_call 69; refine (W3.out _ _ (ho.ext eX)).mono ?_; rintro e wd3 ⟨rfl, xd⟩; have Yd : Ext wk2 wd3 := Ext.trans eX xd; have kd0 := (QB.out.ext Yd).c 3 rfl; have kd1 := (NB.out.ext Yd).c 0 rfl; have kd2 := (NB.out.ext Yd).c 1 rfl; have ld0 := (QB.out.ext Yd).1; have ld1 := (NB.out.ext Yd).1))
          all_goals
            go_wp2_with fail
            go_meet
            first | exact ⟨rfl, rfl, Yd⟩ | exact ⟨rfl, rfl, Yd.drew⟩
        case rest =>
          obtain ⟨rfl, rfl, hx⟩ := hcut
          have IN : Hid (IsI wc (zG #[.bool bn, .slice an ln cn]) N) := IN.out.ext hx.out
          have NB : Hid (HV wc nn [.bool bn, .slice an ln cn]) := NB.out.ext hx.out
          have QB : Hid (HV wc w.heap.size [J zq a, J zq b, J zq c, J zq d]) := QB.out.ext hx.out
          have RB : Hid (HV wc (w.heap.size + 1) [J zq 0, J zq 0, J zq 0, J zq 0]) := RB.out.ext hx.out
          have E0 := exx E0 hx.out
          clear hx F3 L3 O3 W3
          generalize wc = wk3 at *
          go_wp2_with fail
          refine (HT.out _).mono ?_
          rintro e w8 ⟨rfl, x8⟩
          have RB : Hid (HV w8 (w.heap.size + 1) [J zq 0, J zq 0, J zq 0, J zq 0]) := RB.out.ext x8
          have E0 := exx E0 x8
          clear x8
          go_upto_region 9 with fail
          have TB : Hid (HV (w8.alloc (.cells #[J zq s0, J zq s1, J zq s2] 28)) w8.heap.size [J zq s0, J zq s1, J zq s2]) := hv_at rfl
          have RB : Hid (HV (w8.alloc (.cells #[J zq s0, J zq s1, J zq s2] 28)) (w.heap.size + 1) [J zq 0, J zq 0, J zq 0, J zq 0]) := RB.out.alloc _
          have E0 := exl E0 (.cells #[J zq s0, J zq s1, J zq s2] 28)
          generalize w8.alloc (.cells #[J zq s0, J zq s1, J zq s2] 28) = w9 at *
          generalize w8.heap.size = nt at *
          have t0 := TB.out.c 0 rfl
          have t1 := TB.out.c 1 rfl
          have t2 := TB.out.c 2 rfl
          go_wp2_with fail
          refine (HQ.out _).mono ?_
          rintro e w10 ⟨rfl, x10⟩
          have RB : Hid (HV w10 (w.heap.size + 1) [J zq 0, J zq 0, J zq 0, J zq 0]) := RB.out.ext x10
          have E0 := exx E0 x10
          clear x10 t0 t1 t2
          have z0 := RB.out.c 0 rfl
          have y0 := RB.out.f 0 rfl
          have z1 := RB.out.c 1 rfl
          have y1 := RB.out.f 1 rfl
          have z2 := RB.out.c 2 rfl
          have y2 := RB.out.f 2 rfl
          have z3 := RB.out.c 3 rfl
          have y3 := RB.out.f 3 rfl
          have rl := RB.out.1
          go_wp2_with fail
          exact bodyPost_ret (v := .tuple #[zG #[J zq u0, J zq u1, J zq u2, J zq u3], J zq eu]) (by simp [results, Tryz.results66, go_sem, z0, z1, z2, z3]) rfl ⟨rfl, ((((E0.out.set (p := ⟨w.heap.size + 1, 0, none⟩) (Nat.le_succ _) _).set (p := ⟨w.heap.size + 1, 1, none⟩) (Nat.le_succ _) _).set (p := ⟨w.heap.size + 1, 2, none⟩) (Nat.le_succ _) _).set (p := ⟨w.heap.size + 1, 3, none⟩) (Nat.le_succ _) _)⟩
set_option maxHeartbeats 4000000 in
theorem quat_ok (a x y z e f : Int) (w : World) (he : e = 0) (hf : f = 0) :
    Calls zP 63 #[J zq a, J zq e, zG #[J zq x, J zq y, J zq z], J zq f] w fun e' w' => e' = zR (.tuple #[zG #[J zq a, J zq x, J zq y, J zq z], J zq 0]) ∧ Ext w w' := by
  have QB : Hid (HV ((w.alloc (.cells #[J zq x, J zq y, J zq z] 28)).alloc (.cells #[J zq 0, J zq 0, J zq 0, J zq 0] 24)) w.heap.size [J zq x, J zq y, J zq z]) := HV.alloc (hv_at rfl) _
  have RB : Hid (HV ((w.alloc (.cells #[J zq x, J zq y, J zq z] 28)).alloc (.cells #[J zq 0, J zq 0, J zq 0, J zq 0] 24)) (w.heap.size + 1) [J zq 0, J zq 0, J zq 0, J zq 0]) := hv_at (by simp)
  have E0 : Hid (Ext w ((w.alloc (.cells #[J zq x, J zq y, J zq z] 28)).alloc (.cells #[J zq 0, J zq 0, J zq 0, J zq 0] 24))) := ((Ext.refl _).alloc _).alloc _
  go_enter Tryz.func63, Tryz.ntmps63
  go_upto_region 1 with fail
  generalize ((w.alloc (.cells #[J zq x, J zq y, J zq z] 28)).alloc (.cells #[J zq 0, J zq 0, J zq 0, J zq 0] 24)) = wB at *
  have q0 := QB.out.c 0 rfl
  have q1 := QB.out.c 1 rfl
  have q2 := QB.out.c 2 rfl
  have z0 := RB.out.c 0 rfl
  have z1 := RB.out.c 1 rfl
  have z2 := RB.out.c 2 rfl
  have z3 := RB.out.c 3 rfl
  have y0 := RB.out.f 0 rfl
  have y1 := RB.out.f 1 rfl
  have y2 := RB.out.f 2 rfl
  have y3 := RB.out.f 3 rfl
  have rl := RB.out.1
  go_wp2_with fail
  exact bodyPost_ret (v := .tuple #[zG #[J zq a, J zq x, J zq y, J zq z], J zq 0]) (by simp [results, Tryz.results63, go_sem, z0, z1, z2, z3]) rfl ⟨rfl, ((((E0.out.set (p := ⟨w.heap.size + 1, 0, none⟩) (Nat.le_succ _) _).set (p := ⟨w.heap.size + 1, 1, none⟩) (Nat.le_succ _) _).set (p := ⟨w.heap.size + 1, 2, none⟩) (Nat.le_succ _) _).set (p := ⟨w.heap.size + 1, 3, none⟩) (Nat.le_succ _) _)⟩
set_option maxHeartbeats 4000000 in
theorem quat_e (a x y z e f : Int) (w : World) (he : ¬ e = 0) :
    Calls zP 63 #[J zq a, J zq e, zG #[J zq x, J zq y, J zq z], J zq f] w fun e' w' => e' = zR (.tuple #[zG #[J zq 0, J zq 0, J zq 0, J zq 0], J zq 2]) ∧ Ext w w' := by
  have QB : Hid (HV ((w.alloc (.cells #[J zq x, J zq y, J zq z] 28)).alloc (.cells #[J zq 0, J zq 0, J zq 0, J zq 0] 24)) w.heap.size [J zq x, J zq y, J zq z]) := HV.alloc (hv_at rfl) _
  have RB : Hid (HV ((w.alloc (.cells #[J zq x, J zq y, J zq z] 28)).alloc (.cells #[J zq 0, J zq 0, J zq 0, J zq 0] 24)) (w.heap.size + 1) [J zq 0, J zq 0, J zq 0, J zq 0]) := hv_at (by simp)
  have E0 : Hid (Ext w ((w.alloc (.cells #[J zq x, J zq y, J zq z] 28)).alloc (.cells #[J zq 0, J zq 0, J zq 0, J zq 0] 24))) := ((Ext.refl _).alloc _).alloc _
  go_enter Tryz.func63, Tryz.ntmps63
  go_upto_region 1 with fail
  generalize ((w.alloc (.cells #[J zq x, J zq y, J zq z] 28)).alloc (.cells #[J zq 0, J zq 0, J zq 0, J zq 0] 24)) = wB at *
  have q0 := QB.out.c 0 rfl
  have q1 := QB.out.c 1 rfl
  have q2 := QB.out.c 2 rfl
  have z0 := RB.out.c 0 rfl
  have z1 := RB.out.c 1 rfl
  have z2 := RB.out.c 2 rfl
  have z3 := RB.out.c 3 rfl
  have y0 := RB.out.f 0 rfl
  have y1 := RB.out.f 1 rfl
  have y2 := RB.out.f 2 rfl
  have y3 := RB.out.f 3 rfl
  have rl := RB.out.1
  go_wp2_with fail
  exact bodyPost_ret (v := .tuple #[zG #[J zq 0, J zq 0, J zq 0, J zq 0], J zq 2]) (by simp [results, Tryz.results63, go_sem, z0, z1, z2, z3]) rfl ⟨rfl, ((((E0.out.set (p := ⟨w.heap.size + 1, 0, none⟩) (Nat.le_succ _) _).set (p := ⟨w.heap.size + 1, 1, none⟩) (Nat.le_succ _) _).set (p := ⟨w.heap.size + 1, 2, none⟩) (Nat.le_succ _) _).set (p := ⟨w.heap.size + 1, 3, none⟩) (Nat.le_succ _) _)⟩
set_option maxHeartbeats 4000000 in
theorem quat_f (a x y z e f : Int) (w : World) (he : e = 0) (hf : ¬ f = 0) :
    Calls zP 63 #[J zq a, J zq e, zG #[J zq x, J zq y, J zq z], J zq f] w fun e' w' => e' = zR (.tuple #[zG #[J zq 0, J zq 0, J zq 0, J zq 0], J zq 2]) ∧ Ext w w' := by
  have QB : Hid (HV ((w.alloc (.cells #[J zq x, J zq y, J zq z] 28)).alloc (.cells #[J zq 0, J zq 0, J zq 0, J zq 0] 24)) w.heap.size [J zq x, J zq y, J zq z]) := HV.alloc (hv_at rfl) _
  have RB : Hid (HV ((w.alloc (.cells #[J zq x, J zq y, J zq z] 28)).alloc (.cells #[J zq 0, J zq 0, J zq 0, J zq 0] 24)) (w.heap.size + 1) [J zq 0, J zq 0, J zq 0, J zq 0]) := hv_at (by simp)
  have E0 : Hid (Ext w ((w.alloc (.cells #[J zq x, J zq y, J zq z] 28)).alloc (.cells #[J zq 0, J zq 0, J zq 0, J zq 0] 24))) := ((Ext.refl _).alloc _).alloc _
  go_enter Tryz.func63, Tryz.ntmps63
  go_upto_region 1 with fail
  generalize ((w.alloc (.cells #[J zq x, J zq y, J zq z] 28)).alloc (.cells #[J zq 0, J zq 0, J zq 0, J zq 0] 24)) = wB at *
  have q0 := QB.out.c 0 rfl
  have q1 := QB.out.c 1 rfl
  have q2 := QB.out.c 2 rfl
  have z0 := RB.out.c 0 rfl
  have z1 := RB.out.c 1 rfl
  have z2 := RB.out.c 2 rfl
  have z3 := RB.out.c 3 rfl
  have y0 := RB.out.f 0 rfl
  have y1 := RB.out.f 1 rfl
  have y2 := RB.out.f 2 rfl
  have y3 := RB.out.f 3 rfl
  have rl := RB.out.1
  go_wp2_with fail
  exact bodyPost_ret (v := .tuple #[zG #[J zq 0, J zq 0, J zq 0, J zq 0], J zq 2]) (by simp [results, Tryz.results63, go_sem, z0, z1, z2, z3]) rfl ⟨rfl, ((((E0.out.set (p := ⟨w.heap.size + 1, 0, none⟩) (Nat.le_succ _) _).set (p := ⟨w.heap.size + 1, 1, none⟩) (Nat.le_succ _) _).set (p := ⟨w.heap.size + 1, 2, none⟩) (Nat.le_succ _) _).set (p := ⟨w.heap.size + 1, 3, none⟩) (Nat.le_succ _) _)⟩
def IsFour (w : World) (v : Value) (z0 z1 z2 z3 : Int) : Prop := ∃ (b0 b1 b2 b3 : Bool) (a0 a1 a2 a3 : Option Addr) (l0 k0 l1 k1 l2 k2 l3 k3 : Nat), v = zG #[.bool b0, .slice a0 l0 k0, .bool b1, .slice a1 l1 k1, .bool b2, .slice a2 l2 k2, .bool b3, .slice a3 l3 k3] ∧ IsI w (zG #[.bool b0, .slice a0 l0 k0]) z0 ∧ IsI w (zG #[.bool b1, .slice a1 l1 k1]) z1 ∧ IsI w (zG #[.bool b2, .slice a2 l2 k2]) z2 ∧ IsI w (zG #[.bool b3, .slice a3 l3 k3]) z3
theorem IsFour.ext {w w' : World} {v : Value} {z0 z1 z2 z3 : Int} (h : IsFour w v z0 z1 z2 z3) (hx : Ext w w') : IsFour w' v z0 z1 z2 z3 := by
  obtain ⟨b0, b1, b2, b3, a0, a1, a2, a3, l0, k0, l1, k1, l2, k2, l3, k3, hv, h0, h1, h2, h3⟩ := h
  exact ⟨b0, b1, b2, b3, a0, a1, a2, a3, l0, k0, l1, k1, l2, k2, l3, k3, hv, h0.ext hx, h1.ext hx, h2.ext hx, h3.ext hx⟩
theorem IsI.form {w : World} {r : Value} {z : Int} (h : IsI w r z) : ∃ (b : Bool) (a : Option Addr) (l k : Nat), r = zG #[.bool b, .slice a l k] := by
  obtain ⟨u, hu, hk⟩ := h
  obtain ⟨a, l, k, ha⟩ := hk.isSlice
  exact ⟨_, a, l, k, by rw [hu, ha]⟩
theorem IsI.put8 {w : World} {g : Nat} {v : Value} {z : Int} (h : IsI w v z) (hV : HV w g [.bool false, .slice none 0 0, .bool false, .slice none 0 0, .bool false, .slice none 0 0, .bool false, .slice none 0 0]) (x0 x1 x2 x3 x4 x5 x6 x7 : Value) : IsI ((((((((w.setCell ⟨g, 0, none⟩ (x0)).setCell ⟨g, 1, none⟩ (x1)).setCell ⟨g, 2, none⟩ (x2)).setCell ⟨g, 3, none⟩ (x3)).setCell ⟨g, 4, none⟩ (x4)).setCell ⟨g, 5, none⟩ (x5)).setCell ⟨g, 6, none⟩ (x6)).setCell ⟨g, 7, none⟩ (x7)) v z := by
  have c0 := h.set (x := x0) (hV.c 0 rfl) (by simp)
  have c1 := c0.set (x := x1) ((hV.set 0 x0).c 1 rfl) (by simp)
  have c2 := c1.set (x := x2) (((hV.set 0 x0).set 1 x1).c 2 rfl) (by simp)
  have c3 := c2.set (x := x3) ((((hV.set 0 x0).set 1 x1).set 2 x2).c 3 rfl) (by simp)
  have c4 := c3.set (x := x4) (((((hV.set 0 x0).set 1 x1).set 2 x2).set 3 x3).c 4 rfl) (by simp)
  have c5 := c4.set (x := x5) ((((((hV.set 0 x0).set 1 x1).set 2 x2).set 3 x3).set 4 x4).c 5 rfl) (by simp)
  have c6 := c5.set (x := x6) (((((((hV.set 0 x0).set 1 x1).set 2 x2).set 3 x3).set 4 x4).set 5 x5).c 6 rfl) (by simp)
  have c7 := c6.set (x := x7) ((((((((hV.set 0 x0).set 1 x1).set 2 x2).set 3 x3).set 4 x4).set 5 x5).set 6 x6).c 7 rfl) (by simp)
  exact c7
set_option maxHeartbeats 8000000 in
theorem of_raw (a b c d : Int) (w : World) (Ha : Hid (∀ w', Calls zP 24 #[J zq a] w' fun e w'' => (∃ r, e = zR r ∧ IsI w'' r (a)) ∧ Ext w' w'')) (Hb : Hid (∀ w', Calls zP 24 #[J zq b] w' fun e w'' => (∃ r, e = zR r ∧ IsI w'' r (b)) ∧ Ext w' w'')) (Hc : Hid (∀ w', Calls zP 24 #[J zq c] w' fun e w'' => (∃ r, e = zR r ∧ IsI w'' r (c)) ∧ Ext w' w'')) (Hd : Hid (∀ w', Calls zP 24 #[J zq d] w' fun e w'' => (∃ r, e = zR r ∧ IsI w'' r (d)) ∧ Ext w' w'')) :
    Calls zP 65 #[zG #[J zq a, J zq b, J zq c, J zq d]] w fun e w' => (∃ r, e = zR r ∧ IsFour w' r a b c d) ∧ Ext w w' := by
  have Bq : Hid (HV ((w.alloc (.cells #[J zq a, J zq b, J zq c, J zq d] 24)).alloc (.cells #[.bool false, .slice none 0 0, .bool false, .slice none 0 0, .bool false, .slice none 0 0, .bool false, .slice none 0 0] 63)) w.heap.size [J zq a, J zq b, J zq c, J zq d]) := HV.alloc (hv_at rfl) _
  have Br : Hid (HV ((w.alloc (.cells #[J zq a, J zq b, J zq c, J zq d] 24)).alloc (.cells #[.bool false, .slice none 0 0, .bool false, .slice none 0 0, .bool false, .slice none 0 0, .bool false, .slice none 0 0] 63)) (w.heap.size + 1) [.bool false, .slice none 0 0, .bool false, .slice none 0 0, .bool false, .slice none 0 0, .bool false, .slice none 0 0]) := hv_at (by simp)
  have E0 : Hid (Ext w ((w.alloc (.cells #[J zq a, J zq b, J zq c, J zq d] 24)).alloc (.cells #[.bool false, .slice none 0 0, .bool false, .slice none 0 0, .bool false, .slice none 0 0, .bool false, .slice none 0 0] 63))) := ((Ext.refl _).alloc _).alloc _
  go_enter Tryz.func65, Tryz.ntmps65
  go_upto_region 1 with fail
  generalize ((w.alloc (.cells #[J zq a, J zq b, J zq c, J zq d] 24)).alloc (.cells #[.bool false, .slice none 0 0, .bool false, .slice none 0 0, .bool false, .slice none 0 0, .bool false, .slice none 0 0] 63)) = wB at *
  have q0 := Bq.out.c 0 rfl
  have q1 := Bq.out.c 1 rfl
  have q2 := Bq.out.c 2 rfl
  have q3 := Bq.out.c 3 rfl
  have ql := Bq.out.1
  go_region_held3 (fun w' => w'.cell? ⟨w.heap.size, 0, none⟩ = some (J zq a) ∧ w'.cell? ⟨w.heap.size, 1, none⟩ = some (J zq b) ∧ w'.cell? ⟨w.heap.size, 2, none⟩ = some (J zq c) ∧ w'.cell? ⟨w.heap.size, 3, none⟩ = some (J zq d)) (first | (go_keep; done) | skip) (first | (go_at_call_of 24 (Value.int IntKind.i64 a); refine (Ha.out _).mono ?_; rintro e wa ⟨⟨ra, rfl, ha⟩, xa⟩; have Ya : Ext wB wa := Ext.trans eX xa; have qq0a : wa.cell? ⟨w.heap.size, 0, none⟩ = some (J zq a) := (Bq.out.ext Ya).c 0 rfl; have qq1a : wa.cell? ⟨w.heap.size, 1, none⟩ = some (J zq b) := (Bq.out.ext Ya).c 1 rfl; have qq2a : wa.cell? ⟨w.heap.size, 2, none⟩ = some (J zq c) := (Bq.out.ext Ya).c 2 rfl; have qq3a : wa.cell? ⟨w.heap.size, 3, none⟩ = some (J zq d) := (Bq.out.ext Ya).c 3 rfl; have lqa := (Bq.out.ext Ya).1; obtain ⟨b0, a0, l0, k0, rfl⟩ := ha.form; have K0 : Hid (IsI wa (zG #[.bool b0, .slice a0 l0 k0]) a) := ha; clear ha) | (go_at_call_of 24 (Value.int IntKind.i64 b); refine (Hb.out _).mono ?_; rintro e wb ⟨⟨rb, rfl, hb⟩, xb⟩; have Yb : Ext wB wb := Ext.trans eX xb; have qq0b : wb.cell? ⟨w.heap.size, 0, none⟩ = some (J zq a) := (Bq.out.ext Yb).c 0 rfl; have qq1b : wb.cell? ⟨w.heap.size, 1, none⟩ = some (J zq b) := (Bq.out.ext Yb).c 1 rfl; have qq2b : wb.cell? ⟨w.heap.size, 2, none⟩ = some (J zq c) := (Bq.out.ext Yb).c 2 rfl; have qq3b : wb.cell? ⟨w.heap.size, 3, none⟩ = some (J zq d) := (Bq.out.ext Yb).c 3 rfl; have lqb := (Bq.out.ext Yb).1; obtain ⟨b1, a1, l1, k1, rfl⟩ := hb.form; have K1 : Hid (IsI wb (zG #[.bool b1, .slice a1 l1 k1]) b) := hb; clear hb) | (go_at_call_of 24 (Value.int IntKind.i64 c); refine (Hc.out _).mono ?_; rintro e wc ⟨⟨rc, rfl, hc⟩, xc⟩; have Yc : Ext wB wc := Ext.trans eX xc; have qq0c : wc.cell? ⟨w.heap.size, 0, none⟩ = some (J zq a) := (Bq.out.ext Yc).c 0 rfl; have qq1c : wc.cell? ⟨w.heap.size, 1, none⟩ = some (J zq b) := (Bq.out.ext Yc).c 1 rfl; have qq2c : wc.cell? ⟨w.heap.size, 2, none⟩ = some (J zq c) := (Bq.out.ext Yc).c 2 rfl; have qq3c : wc.cell? ⟨w.heap.size, 3, none⟩ = some (J zq d) := (Bq.out.ext Yc).c 3 rfl; have lqc := (Bq.out.ext Yc).1; obtain ⟨b2, a2, l2, k2, rfl⟩ := hc.form; have K2 : Hid (IsI wc (zG #[.bool b2, .slice a2 l2 k2]) c) := hc; clear hc) | (go_at_call_of 24 (Value.int IntKind.i64 d); refine (Hd.out _).mono ?_; rintro e wd ⟨⟨rd, rfl, hd⟩, xd⟩; have Yd : Ext wB wd := Ext.trans eX xd; have qq0d : wd.cell? ⟨w.heap.size, 0, none⟩ = some (J zq a) := (Bq.out.ext Yd).c 0 rfl; have qq1d : wd.cell? ⟨w.heap.size, 1, none⟩ = some (J zq b) := (Bq.out.ext Yd).c 1 rfl; have qq2d : wd.cell? ⟨w.heap.size, 2, none⟩ = some (J zq c) := (Bq.out.ext Yd).c 2 rfl; have qq3d : wd.cell? ⟨w.heap.size, 3, none⟩ = some (J zq d) := (Bq.out.ext Yd).c 3 rfl; have lqd := (Bq.out.ext Yd).1; obtain ⟨b3, a3, l3, k3, rfl⟩ := hd.form; have K3 : Hid (IsI wd (zG #[.bool b3, .slice a3 l3 k3]) d) := hd; clear hd; have z0 := (Br.out.ext Yd).c 0 rfl; have y0 := (Br.out.ext Yd).f 0 rfl; have z1 := (Br.out.ext Yd).c 1 rfl; have y1 := (Br.out.ext Yd).f 1 rfl; have z2 := (Br.out.ext Yd).c 2 rfl; have y2 := (Br.out.ext Yd).f 2 rfl; have z3 := (Br.out.ext Yd).c 3 rfl; have y3 := (Br.out.ext Yd).f 3 rfl; have z4 := (Br.out.ext Yd).c 4 rfl; have y4 := (Br.out.ext Yd).f 4 rfl; have z5 := (Br.out.ext Yd).c 5 rfl; have y5 := (Br.out.ext Yd).f 5 rfl; have z6 := (Br.out.ext Yd).c 6 rfl; have y6 := (Br.out.ext Yd).f 6 rfl; have z7 := (Br.out.ext Yd).c 7 rfl; have y7 := (Br.out.ext Yd).f 7 rfl; have rl := (Br.out.ext Yd).1))
  all_goals
    have K0 : Hid (IsI wd (zG #[.bool b0, .slice a0 l0 k0]) a) := ((K0.out.ext (by first | exact xb | exact Ext.trans eX xb)).ext (by first | exact xc | exact Ext.trans eX xc)).ext (by first | exact xd | exact Ext.trans eX xd)
    have K1 : Hid (IsI wd (zG #[.bool b1, .slice a1 l1 k1]) b) := (K1.out.ext (by first | exact xc | exact Ext.trans eX xc)).ext (by first | exact xd | exact Ext.trans eX xd)
    have K2 : Hid (IsI wd (zG #[.bool b2, .slice a2 l2 k2]) c) := K2.out.ext (by first | exact xd | exact Ext.trans eX xd)
    have RB := Br.out.ext Yd
    have E1 : Ext w wd := E0.out.trans Yd
    go_wp2_with fail
    exact bodyPost_ret (v := zG #[.bool b0, .slice a0 l0 k0, .bool b1, .slice a1 l1 k1, .bool b2, .slice a2 l2 k2, .bool b3, .slice a3 l3 k3]) (by simp [results, Tryz.results65, go_sem, z0, z1, z2, z3, z4, z5, z6, z7]) rfl ⟨⟨_, rfl, _, _, _, _, _, _, _, _, _, _, _, _, _, _, _, _, rfl, K0.out.put8 RB _ _ _ _ _ _ _ _, K1.out.put8 RB _ _ _ _ _ _ _ _, K2.out.put8 RB _ _ _ _ _ _ _ _, K3.out.put8 RB _ _ _ _ _ _ _ _⟩, ((((((((E1.set (p := ⟨w.heap.size + 1, 0, none⟩) (Nat.le_succ _) _).set (p := ⟨w.heap.size + 1, 1, none⟩) (Nat.le_succ _) _).set (p := ⟨w.heap.size + 1, 2, none⟩) (Nat.le_succ _) _).set (p := ⟨w.heap.size + 1, 3, none⟩) (Nat.le_succ _) _).set (p := ⟨w.heap.size + 1, 4, none⟩) (Nat.le_succ _) _).set (p := ⟨w.heap.size + 1, 5, none⟩) (Nat.le_succ _) _).set (p := ⟨w.heap.size + 1, 6, none⟩) (Nat.le_succ _) _).set (p := ⟨w.heap.size + 1, 7, none⟩) (Nat.le_succ _) _)⟩
set_option maxRecDepth 20000 in
set_option maxHeartbeats 16000000 in
theorem fsum_raw (b0 b1 b2 b3 : Bool) (a0 a1 a2 a3 : Option Addr) (l0 k0 l1 k1 l2 k2 l3 k3 : Nat) (z0 z1 z2 z3 sb sc sd p1 p2 p3 s1 s2 R : Int) (w : World)
    (I0 : Hid (IsI w (zG #[.bool b0, .slice a0 l0 k0]) z0)) (I1 : Hid (IsI w (zG #[.bool b1, .slice a1 l1 k1]) z1)) (I2 : Hid (IsI w (zG #[.bool b2, .slice a2 l2 k2]) z2)) (I3 : Hid (IsI w (zG #[.bool b3, .slice a3 l3 k3]) z3)) (F1 : Hid (∀ w', Calls zP 24 #[J zq sb] w' fun e w'' => (∃ r, e = zR r ∧ IsI w'' r (sb)) ∧ Ext w' w'')) (T1 : Hid (∀ r1 r2 w', IsI w' r1 z1 → IsI w' r2 sb → Calls zP 55 #[r1, r2] w' fun e w'' => (∃ r, e = zR r ∧ IsI w'' r (p1)) ∧ Ext w' w'')) (F2 : Hid (∀ w', Calls zP 24 #[J zq sc] w' fun e w'' => (∃ r, e = zR r ∧ IsI w'' r (sc)) ∧ Ext w' w'')) (T2 : Hid (∀ r1 r2 w', IsI w' r1 z2 → IsI w' r2 sc → Calls zP 55 #[r1, r2] w' fun e w'' => (∃ r, e = zR r ∧ IsI w'' r (p2)) ∧ Ext w' w'')) (F3 : Hid (∀ w', Calls zP 24 #[J zq sd] w' fun e w'' => (∃ r, e = zR r ∧ IsI w'' r (sd)) ∧ Ext w' w'')) (T3 : Hid (∀ r1 r2 w', IsI w' r1 z3 → IsI w' r2 sd → Calls zP 55 #[r1, r2] w' fun e w'' => (∃ r, e = zR r ∧ IsI w'' r (p3)) ∧ Ext w' w'')) (P1 : Hid (∀ r1 r2 w', IsI w' r1 z0 → IsI w' r2 p1 → Calls zP 51 #[r1, r2] w' fun e w'' => (∃ r, e = zR r ∧ IsI w'' r (s1)) ∧ Ext w' w'')) (P2 : Hid (∀ r1 r2 w', IsI w' r1 p2 → IsI w' r2 p3 → Calls zP 51 #[r1, r2] w' fun e w'' => (∃ r, e = zR r ∧ IsI w'' r (s2)) ∧ Ext w' w'')) (P3 : Hid (∀ r1 r2 w', IsI w' r1 s1 → IsI w' r2 s2 → Calls zP 51 #[r1, r2] w' fun e w'' => (∃ r, e = zR r ∧ IsI w'' r (R)) ∧ Ext w' w'')) :
    Calls zP 100 #[zG #[.bool b0, .slice a0 l0 k0], zG #[.bool b1, .slice a1 l1 k1], J zq sb, zG #[.bool b2, .slice a2 l2 k2], J zq sc, zG #[.bool b3, .slice a3 l3 k3], J zq sd] w fun e w' => (∃ r, e = zR r ∧ IsI w' r R) ∧ Ext w w' := by
  have E0 : Hid (Ext w (((((w.alloc (.cells #[.bool b0, .slice a0 l0 k0] 50)).alloc (.cells #[.bool b1, .slice a1 l1 k1] 50)).alloc (.cells #[.bool b2, .slice a2 l2 k2] 50)).alloc (.cells #[.bool b3, .slice a3 l3 k3] 50)).alloc (.cells #[.bool false, .slice none 0 0] 50))) := (((((Ext.refl _).alloc _).alloc _).alloc _).alloc _).alloc _
  have B0 : Hid (HV (((((w.alloc (.cells #[.bool b0, .slice a0 l0 k0] 50)).alloc (.cells #[.bool b1, .slice a1 l1 k1] 50)).alloc (.cells #[.bool b2, .slice a2 l2 k2] 50)).alloc (.cells #[.bool b3, .slice a3 l3 k3] 50)).alloc (.cells #[.bool false, .slice none 0 0] 50)) (w.heap.size) [.bool b0, .slice a0 l0 k0]) := (HV.alloc (HV.alloc (HV.alloc (HV.alloc (hv_at rfl) _) _) _) _)
  have J0 : Hid (IsI (((((w.alloc (.cells #[.bool b0, .slice a0 l0 k0] 50)).alloc (.cells #[.bool b1, .slice a1 l1 k1] 50)).alloc (.cells #[.bool b2, .slice a2 l2 k2] 50)).alloc (.cells #[.bool b3, .slice a3 l3 k3] 50)).alloc (.cells #[.bool false, .slice none 0 0] 50)) (zG #[.bool b0, .slice a0 l0 k0]) z0) := I0.out.ext E0.out
  have B1 : Hid (HV (((((w.alloc (.cells #[.bool b0, .slice a0 l0 k0] 50)).alloc (.cells #[.bool b1, .slice a1 l1 k1] 50)).alloc (.cells #[.bool b2, .slice a2 l2 k2] 50)).alloc (.cells #[.bool b3, .slice a3 l3 k3] 50)).alloc (.cells #[.bool false, .slice none 0 0] 50)) (w.heap.size + 1) [.bool b1, .slice a1 l1 k1]) := (HV.alloc (HV.alloc (HV.alloc (hv_at (by simp)) _) _) _)
  have J1 : Hid (IsI (((((w.alloc (.cells #[.bool b0, .slice a0 l0 k0] 50)).alloc (.cells #[.bool b1, .slice a1 l1 k1] 50)).alloc (.cells #[.bool b2, .slice a2 l2 k2] 50)).alloc (.cells #[.bool b3, .slice a3 l3 k3] 50)).alloc (.cells #[.bool false, .slice none 0 0] 50)) (zG #[.bool b1, .slice a1 l1 k1]) z1) := I1.out.ext E0.out
  have B2 : Hid (HV (((((w.alloc (.cells #[.bool b0, .slice a0 l0 k0] 50)).alloc (.cells #[.bool b1, .slice a1 l1 k1] 50)).alloc (.cells #[.bool b2, .slice a2 l2 k2] 50)).alloc (.cells #[.bool b3, .slice a3 l3 k3] 50)).alloc (.cells #[.bool false, .slice none 0 0] 50)) (w.heap.size + 1 + 1) [.bool b2, .slice a2 l2 k2]) := (HV.alloc (HV.alloc (hv_at (by simp)) _) _)
  have J2 : Hid (IsI (((((w.alloc (.cells #[.bool b0, .slice a0 l0 k0] 50)).alloc (.cells #[.bool b1, .slice a1 l1 k1] 50)).alloc (.cells #[.bool b2, .slice a2 l2 k2] 50)).alloc (.cells #[.bool b3, .slice a3 l3 k3] 50)).alloc (.cells #[.bool false, .slice none 0 0] 50)) (zG #[.bool b2, .slice a2 l2 k2]) z2) := I2.out.ext E0.out
  have B3 : Hid (HV (((((w.alloc (.cells #[.bool b0, .slice a0 l0 k0] 50)).alloc (.cells #[.bool b1, .slice a1 l1 k1] 50)).alloc (.cells #[.bool b2, .slice a2 l2 k2] 50)).alloc (.cells #[.bool b3, .slice a3 l3 k3] 50)).alloc (.cells #[.bool false, .slice none 0 0] 50)) (w.heap.size + 1 + 1 + 1) [.bool b3, .slice a3 l3 k3]) := (HV.alloc (hv_at (by simp)) _)
  have J3 : Hid (IsI (((((w.alloc (.cells #[.bool b0, .slice a0 l0 k0] 50)).alloc (.cells #[.bool b1, .slice a1 l1 k1] 50)).alloc (.cells #[.bool b2, .slice a2 l2 k2] 50)).alloc (.cells #[.bool b3, .slice a3 l3 k3] 50)).alloc (.cells #[.bool false, .slice none 0 0] 50)) (zG #[.bool b3, .slice a3 l3 k3]) z3) := I3.out.ext E0.out
  have Br : Hid (HV (((((w.alloc (.cells #[.bool b0, .slice a0 l0 k0] 50)).alloc (.cells #[.bool b1, .slice a1 l1 k1] 50)).alloc (.cells #[.bool b2, .slice a2 l2 k2] 50)).alloc (.cells #[.bool b3, .slice a3 l3 k3] 50)).alloc (.cells #[.bool false, .slice none 0 0] 50)) (w.heap.size + 1 + 1 + 1 + 1) [.bool false, .slice none 0 0]) := hv_at (by simp)
  clear I0 I1 I2 I3
  go_enter Tryz.func100, Tryz.ntmps100
  go_upto_region 1 with fail
  generalize (((((w.alloc (.cells #[.bool b0, .slice a0 l0 k0] 50)).alloc (.cells #[.bool b1, .slice a1 l1 k1] 50)).alloc (.cells #[.bool b2, .slice a2 l2 k2] 50)).alloc (.cells #[.bool b3, .slice a3 l3 k3] 50)).alloc (.cells #[.bool false, .slice none 0 0] 50)) = wB at *
  have q0a := B0.out.c 0 rfl
  have q0b := B0.out.c 1 rfl
  have l0w := B0.out.1
  have q1a := B1.out.c 0 rfl
  have q1b := B1.out.c 1 rfl
  have l1w := B1.out.1
  have q2a := B2.out.c 0 rfl
  have q2b := B2.out.c 1 rfl
  have l2w := B2.out.1
  have q3a := B3.out.c 0 rfl
  have q3b := B3.out.c 1 rfl
  have l3w := B3.out.1
  go_region_held3 (fun w' => w'.cell? ⟨w.heap.size, 0, none⟩ = some (.bool b0) ∧ w'.cell? ⟨w.heap.size, 1, none⟩ = some (.slice a0 l0 k0) ∧ w'.cell? ⟨w.heap.size + 1, 0, none⟩ = some (.bool b1) ∧ w'.cell? ⟨w.heap.size + 1, 1, none⟩ = some (.slice a1 l1 k1) ∧ w'.cell? ⟨w.heap.size + 1 + 1, 0, none⟩ = some (.bool b2) ∧ w'.cell? ⟨w.heap.size + 1 + 1, 1, none⟩ = some (.slice a2 l2 k2) ∧ w'.cell? ⟨w.heap.size + 1 + 1 + 1, 0, none⟩ = some (.bool b3) ∧ w'.cell? ⟨w.heap.size + 1 + 1 + 1, 1, none⟩ = some (.slice a3 l3 k3)) (first | (go_keep; done) | (refine ⟨?_, ?_, ?_, ?_, ?_, ?_, ?_, ?_⟩ <;> (rw [World.cell?_setCell_far _ _ _ _ (by dsimp only; omega), World.cell?_setCell_far _ _ _ _ (by dsimp only; omega)]; with_reducible assumption)) | skip) (first | (go_at_call_of 24 (Value.int IntKind.i64 sb); refine (F1.out _).mono ?_; rintro e w1 ⟨⟨r1, rfl, h1⟩, x1⟩; have C1 : Ext wB w1 := Ext.trans eX x1; have Y1 : Ext wB w1 := C1; have q0a1 := (B0.out.ext Y1).c 0 rfl; have q0b1 := (B0.out.ext Y1).c 1 rfl; have l01 := (B0.out.ext Y1).1; have q1a1 := (B1.out.ext Y1).c 0 rfl; have q1b1 := (B1.out.ext Y1).c 1 rfl; have l11 := (B1.out.ext Y1).1; have q2a1 := (B2.out.ext Y1).c 0 rfl; have q2b1 := (B2.out.ext Y1).c 1 rfl; have l21 := (B2.out.ext Y1).1; have q3a1 := (B3.out.ext Y1).c 0 rfl; have q3b1 := (B3.out.ext Y1).c 1 rfl; have l31 := (B3.out.ext Y1).1) | (go_at_call_of 55 (Value.agg #[Value.bool b1, Value.slice a1 l1 k1]); refine (T1.out _ _ _ (J1.out.ext (Y1.trans eX)) (h1.ext eX)).mono ?_; rintro e w2 ⟨⟨r2, rfl, h2⟩, x2⟩; have C2 : Ext w1 w2 := Ext.trans eX x2; have Y2 : Ext wB w2 := Y1.trans C2; have q0a2 := (B0.out.ext Y2).c 0 rfl; have q0b2 := (B0.out.ext Y2).c 1 rfl; have l02 := (B0.out.ext Y2).1; have q1a2 := (B1.out.ext Y2).c 0 rfl; have q1b2 := (B1.out.ext Y2).c 1 rfl; have l12 := (B1.out.ext Y2).1; have q2a2 := (B2.out.ext Y2).c 0 rfl; have q2b2 := (B2.out.ext Y2).c 1 rfl; have l22 := (B2.out.ext Y2).1; have q3a2 := (B3.out.ext Y2).c 0 rfl; have q3b2 := (B3.out.ext Y2).c 1 rfl; have l32 := (B3.out.ext Y2).1) | (go_at_call_of 51 (Value.agg #[Value.bool b0, Value.slice a0 l0 k0]); refine (P1.out _ _ _ (J0.out.ext (Y2.trans eX)) (h2.ext eX)).mono ?_; rintro e w3 ⟨⟨r3, rfl, h3⟩, x3⟩; have C3 : Ext w2 w3 := Ext.trans eX x3; have Y3 : Ext wB w3 := Y2.trans C3; have q0a3 := (B0.out.ext Y3).c 0 rfl; have q0b3 := (B0.out.ext Y3).c 1 rfl; have l03 := (B0.out.ext Y3).1; have q1a3 := (B1.out.ext Y3).c 0 rfl; have q1b3 := (B1.out.ext Y3).c 1 rfl; have l13 := (B1.out.ext Y3).1; have q2a3 := (B2.out.ext Y3).c 0 rfl; have q2b3 := (B2.out.ext Y3).c 1 rfl; have l23 := (B2.out.ext Y3).1; have q3a3 := (B3.out.ext Y3).c 0 rfl; have q3b3 := (B3.out.ext Y3).c 1 rfl; have l33 := (B3.out.ext Y3).1) | (go_at_call_of 24 (Value.int IntKind.i64 sc); refine (F2.out _).mono ?_; rintro e w4 ⟨⟨r4, rfl, h4⟩, x4⟩; have C4 : Ext w3 w4 := Ext.trans eX x4; have Y4 : Ext wB w4 := Y3.trans C4; have q0a4 := (B0.out.ext Y4).c 0 rfl; have q0b4 := (B0.out.ext Y4).c 1 rfl; have l04 := (B0.out.ext Y4).1; have q1a4 := (B1.out.ext Y4).c 0 rfl; have q1b4 := (B1.out.ext Y4).c 1 rfl; have l14 := (B1.out.ext Y4).1; have q2a4 := (B2.out.ext Y4).c 0 rfl; have q2b4 := (B2.out.ext Y4).c 1 rfl; have l24 := (B2.out.ext Y4).1; have q3a4 := (B3.out.ext Y4).c 0 rfl; have q3b4 := (B3.out.ext Y4).c 1 rfl; have l34 := (B3.out.ext Y4).1) | (go_at_call_of 55 (Value.agg #[Value.bool b2, Value.slice a2 l2 k2]); refine (T2.out _ _ _ (J2.out.ext (Y4.trans eX)) (h4.ext eX)).mono ?_; rintro e w5 ⟨⟨r5, rfl, h5⟩, x5⟩; have C5 : Ext w4 w5 := Ext.trans eX x5; have Y5 : Ext wB w5 := Y4.trans C5; have q0a5 := (B0.out.ext Y5).c 0 rfl; have q0b5 := (B0.out.ext Y5).c 1 rfl; have l05 := (B0.out.ext Y5).1; have q1a5 := (B1.out.ext Y5).c 0 rfl; have q1b5 := (B1.out.ext Y5).c 1 rfl; have l15 := (B1.out.ext Y5).1; have q2a5 := (B2.out.ext Y5).c 0 rfl; have q2b5 := (B2.out.ext Y5).c 1 rfl; have l25 := (B2.out.ext Y5).1; have q3a5 := (B3.out.ext Y5).c 0 rfl; have q3b5 := (B3.out.ext Y5).c 1 rfl; have l35 := (B3.out.ext Y5).1) | (go_at_call_of 24 (Value.int IntKind.i64 sd); refine (F3.out _).mono ?_; rintro e w6 ⟨⟨r6, rfl, h6⟩, x6⟩; have C6 : Ext w5 w6 := Ext.trans eX x6; have Y6 : Ext wB w6 := Y5.trans C6; have q0a6 := (B0.out.ext Y6).c 0 rfl; have q0b6 := (B0.out.ext Y6).c 1 rfl; have l06 := (B0.out.ext Y6).1; have q1a6 := (B1.out.ext Y6).c 0 rfl; have q1b6 := (B1.out.ext Y6).c 1 rfl; have l16 := (B1.out.ext Y6).1; have q2a6 := (B2.out.ext Y6).c 0 rfl; have q2b6 := (B2.out.ext Y6).c 1 rfl; have l26 := (B2.out.ext Y6).1; have q3a6 := (B3.out.ext Y6).c 0 rfl; have q3b6 := (B3.out.ext Y6).c 1 rfl; have l36 := (B3.out.ext Y6).1) | (go_at_call_of 55 (Value.agg #[Value.bool b3, Value.slice a3 l3 k3]); refine (T3.out _ _ _ (J3.out.ext (Y6.trans eX)) (h6.ext eX)).mono ?_; rintro e w7 ⟨⟨r7, rfl, h7⟩, x7⟩; have C7 : Ext w6 w7 := Ext.trans eX x7; have Y7 : Ext wB w7 := Y6.trans C7; have q0a7 := (B0.out.ext Y7).c 0 rfl; have q0b7 := (B0.out.ext Y7).c 1 rfl; have l07 := (B0.out.ext Y7).1; have q1a7 := (B1.out.ext Y7).c 0 rfl; have q1b7 := (B1.out.ext Y7).c 1 rfl; have l17 := (B1.out.ext Y7).1; have q2a7 := (B2.out.ext Y7).c 0 rfl; have q2b7 := (B2.out.ext Y7).c 1 rfl; have l27 := (B2.out.ext Y7).1; have q3a7 := (B3.out.ext Y7).c 0 rfl; have q3b7 := (B3.out.ext Y7).c 1 rfl; have l37 := (B3.out.ext Y7).1) | (go_at_call_of 51 (r5); refine (P2.out _ _ _ (h5.ext ((C6.trans C7).trans eX)) (h7.ext eX)).mono ?_; rintro e w8 ⟨⟨r8, rfl, h8⟩, x8⟩; have C8 : Ext w7 w8 := Ext.trans eX x8; have Y8 : Ext wB w8 := Y7.trans C8; have q0a8 := (B0.out.ext Y8).c 0 rfl; have q0b8 := (B0.out.ext Y8).c 1 rfl; have l08 := (B0.out.ext Y8).1; have q1a8 := (B1.out.ext Y8).c 0 rfl; have q1b8 := (B1.out.ext Y8).c 1 rfl; have l18 := (B1.out.ext Y8).1; have q2a8 := (B2.out.ext Y8).c 0 rfl; have q2b8 := (B2.out.ext Y8).c 1 rfl; have l28 := (B2.out.ext Y8).1; have q3a8 := (B3.out.ext Y8).c 0 rfl; have q3b8 := (B3.out.ext Y8).c 1 rfl; have l38 := (B3.out.ext Y8).1) | (go_at_call_of 51 (r3); refine (P3.out _ _ _ (h3.ext (((((C4.trans C5).trans C6).trans C7).trans C8).trans eX)) (h8.ext eX)).mono ?_; rintro e w9 ⟨⟨r9, rfl, h9⟩, x9⟩; have C9 : Ext w8 w9 := Ext.trans eX x9; have Y9 : Ext wB w9 := Y8.trans C9; have q0a9 := (B0.out.ext Y9).c 0 rfl; have q0b9 := (B0.out.ext Y9).c 1 rfl; have l09 := (B0.out.ext Y9).1; have q1a9 := (B1.out.ext Y9).c 0 rfl; have q1b9 := (B1.out.ext Y9).c 1 rfl; have l19 := (B1.out.ext Y9).1; have q2a9 := (B2.out.ext Y9).c 0 rfl; have q2b9 := (B2.out.ext Y9).c 1 rfl; have l29 := (B2.out.ext Y9).1; have q3a9 := (B3.out.ext Y9).c 0 rfl; have q3b9 := (B3.out.ext Y9).c 1 rfl; have l39 := (B3.out.ext Y9).1; obtain ⟨bb, ba, bl, bk, rfl⟩ := h9.form; have KR : Hid (IsI w9 (zG #[.bool bb, .slice ba bl bk]) R) := h9; clear h9; have rz0 := (Br.out.ext Y9).c 0 rfl; have y0 := (Br.out.ext Y9).f 0 rfl; have rz1 := (Br.out.ext Y9).c 1 rfl; have y1 := (Br.out.ext Y9).f 1 rfl; have rl := (Br.out.ext Y9).1))
  all_goals
    have RB := Br.out.ext Y9
    have E1 : Ext w w9 := E0.out.trans Y9
    go_wp2_with fail
    exact bodyPost_ret (v := zG #[.bool bb, .slice ba bl bk]) (by simp [results, Tryz.results100, go_sem, rz0, rz1]) rfl ⟨⟨_, rfl, KR.out.put2 RB⟩, (E1.set (p := ⟨w.heap.size + 1 + 1 + 1 + 1, 0, none⟩) (by dsimp only; omega) _).set (p := ⟨w.heap.size + 1 + 1 + 1 + 1, 1, none⟩) (by dsimp only; omega) _⟩
end Go.Proofs.YtoeecldhbabmbaaGreat
