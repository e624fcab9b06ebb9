/- gimbalref3: units of vectors. gimbalref3: Unit, Norm. gimbalref3: units of quaternions. gimbalref3: four whole numbers as a quaternion's: of, sum. gimbalref3: sum. -/
import Derived.Test.YtfmalpnlencmbaaGreatMg41p
import Derived.Test.YtfmalpnlencmbaaGreatR3cmp
import Derived.Test.YtfmalpnlencmbaaGreatMg22p
import Derived.Test.YtfmalpnlencmbaaGreatV1mp
import Derived.Test.YtfmalpnlencmbaaGreatMg16p
import Derived.Test.YtfmalpnlencmbaaGreatW9mp
import Derived.Test.YtfmalpnlencmbaaGreatMg10p
import Derived.Test.YtfmalpnlencmbaaGreatMg23p
namespace Go.Proofs.YtfmalpnlencmbaaGreat
open Go.RowKit Go.Shelf
end Go.Proofs.YtfmalpnlencmbaaGreat

namespace Go.Proofs.YtfmalpnlencmbaaGreat
open Go.RowKit Go.Shelf
theorem sgd_two (a : Int) (k : Nat) : (if a * 2 ^ 30 < 0 then -(k : Int) else (k : Int)) = sgd a k := by
  unfold sgd
  by_cases h : a < 0
  · rw [if_pos h, if_pos (by omega)]
  · rw [if_neg h, if_neg (by omega)]
theorem sq_two30 (a : Int) : (a * 2 ^ 30).natAbs * (a * 2 ^ 30).natAbs = a.natAbs * a.natAbs * 1152921504606846976 := by
  rw [Int.natAbs_mul]
  have e : ((2 : Int) ^ 30).natAbs = 1073741824 := by decide
  rw [e]
  have : ∀ K : Nat, a.natAbs * K * (a.natAbs * K) = a.natAbs * a.natAbs * (K * K) := fun K => by grind
  rw [this]
theorem over_unit {a : Int} {n k : Nat} (ha : okW a = true) (hn : 0 < n) (hn2 : Fit 100 (n : Int)) (hk : RootQ (a.natAbs * a.natAbs * 1152921504606846976) n k) (r1 r2 : Value) (w : World) (h1 : IsI w r1 (a * 2 ^ 30)) (h2 : IsI w r2 (n : Int)) :
    Calls Tryz.prog 66 #[r1, r2] w fun e w' => (∃ r, e = .returned r ∧ IsI w' r (sgd a k)) ∧ Ext w w' := by
  have fa : Fit 46 a := by
    have := okW_bounds ha
    have e : (2 : Nat) ^ 46 = 70368744177664 := by decide
    unfold Fit; omega
  have f1 := fa.shl 30
  refine (overroot_any (a * 2 ^ 30) n 100 r1 r2 w h1 h2 (by omega) (by omega) (by omega) (f1.le (by omega)) hn2).mono ?_
  rintro e w' ⟨⟨r, s, he, hr, hs⟩, hx⟩
  rw [sq_two30] at hs
  obtain rfl : s = k := rootQ_unique hn hs hk
  rw [sgd_two] at hr
  exact ⟨⟨r, he, hr⟩, hx⟩
theorem left30 {a : Int} (ha : okW a = true) (r : Value) (w : World) (h : IsI w r a) : Calls Tryz.prog 67 #[r, .int .i64 30] w fun e w' => (∃ r', e = .returned r' ∧ IsI w' r' (a * 2 ^ 30)) ∧ Ext w w' := by
  have fa : Fit 46 a := by
    have := okW_bounds ha
    have e : (2 : Nat) ^ 46 = 70368744177664 := by decide
    unfold Fit; omega
  exact left_isI a 30 r w h (fa.small (by omega)) (by omega) ((fa.shl 30).small (by omega))
theorem sgd_fit {a : Int} {k : Nat} (h : k ≤ 1073741824) : Fit 46 (sgd a k) := by
  have e : (2 : Nat) ^ 46 = 70368744177664 := by decide
  unfold Fit
  rw [sgd_le, e]; omega
end Go.Proofs.YtfmalpnlencmbaaGreat

namespace Go.Proofs.YtfmalpnlencmbaaGreat
open Go.RowKit Go.Shelf
set_option maxRecDepth 20000 in
set_option maxHeartbeats 16000000 in
theorem runitq_raw (a b c d x0 x1 x2 x3 t0 t1 t2 t3 p0 p1 p2 p3 e0 e1 e2 e3 N s0 s1 s2 es u0 u1 u2 u3 eu : Int) (w : World) (HD : Hid (∀ w', Calls Tryz.prog 79 #[.agg #[.int .i64 a, .int .i64 b, .int .i64 c, .int .i64 d]] w' fun e w'' => (∃ r, e = .returned r ∧ IsI w'' r (N)) ∧ Ext w' w'')) (HZ : Hid (∀ r w', IsI w' r N → Calls Tryz.prog 64 #[r] w' fun e w'' => e = .returned (.bool false) ∧ Ext w' w'')) (F0 : Hid (∀ w', Calls Tryz.prog 68 #[.int .i64 a] w' fun e w'' => (∃ r, e = .returned r ∧ IsI w'' r (a)) ∧ Ext w' w'')) (L0 : Hid (∀ r w', IsI w' r a → Calls Tryz.prog 67 #[r, .int .i64 30] w' fun e w'' => (∃ r, e = .returned r ∧ IsI w'' r (x0)) ∧ Ext w' w'')) (O0 : Hid (∀ r1 r2 w', IsI w' r1 x0 → IsI w' r2 N → Calls Tryz.prog 66 #[r1, r2] w' fun e w'' => (∃ r, e = .returned r ∧ IsI w'' r (t0)) ∧ Ext w' w'')) (W0 : Hid (∀ r w', IsI w' r t0 → Calls Tryz.prog 65 #[r] w' fun e w'' => e = .returned (.tuple #[.int .i64 p0, .int .i64 e0]) ∧ Ext w' w'')) (F1 : Hid (∀ w', Calls Tryz.prog 68 #[.int .i64 b] w' fun e w'' => (∃ r, e = .returned r ∧ IsI w'' r (b)) ∧ Ext w' w'')) (L1 : Hid (∀ r w', IsI w' r b → Calls Tryz.prog 67 #[r, .int .i64 30] w' fun e w'' => (∃ r, e = .returned r ∧ IsI w'' r (x1)) ∧ Ext w' w'')) (O1 : Hid (∀ r1 r2 w', IsI w' r1 x1 → IsI w' r2 N → Calls Tryz.prog 66 #[r1, r2] w' fun e w'' => (∃ r, e = .returned r ∧ IsI w'' r (t1)) ∧ Ext w' w'')) (W1 : Hid (∀ r w', IsI w' r t1 → Calls Tryz.prog 65 #[r] w' fun e w'' => e = .returned (.tuple #[.int .i64 p1, .int .i64 e1]) ∧ Ext w' w'')) (F2 : Hid (∀ w', Calls Tryz.prog 68 #[.int .i64 c] w' fun e w'' => (∃ r, e = .returned r ∧ IsI w'' r (c)) ∧ Ext w' w'')) (L2 : Hid (∀ r w', IsI w' r c → Calls Tryz.prog 67 #[r, .int .i64 30] w' fun e w'' => (∃ r, e = .returned r ∧ IsI w'' r (x2)) ∧ Ext w' w'')) (O2 : Hid (∀ r1 r2 w', IsI w' r1 x2 → IsI w' r2 N → Calls Tryz.prog 66 #[r1, r2] w' fun e w'' => (∃ r, e = .returned r ∧ IsI w'' r (t2)) ∧ Ext w' w'')) (W2 : Hid (∀ r w', IsI w' r t2 → Calls Tryz.prog 65 #[r] w' fun e w'' => e = .returned (.tuple #[.int .i64 p2, .int .i64 e2]) ∧ Ext w' w'')) (F3 : Hid (∀ w', Calls Tryz.prog 68 #[.int .i64 d] w' fun e w'' => (∃ r, e = .returned r ∧ IsI w'' r (d)) ∧ Ext w' w'')) (L3 : Hid (∀ r w', IsI w' r d → Calls Tryz.prog 67 #[r, .int .i64 30] w' fun e w'' => (∃ r, e = .returned r ∧ IsI w'' r (x3)) ∧ Ext w' w'')) (O3 : Hid (∀ r1 r2 w', IsI w' r1 x3 → IsI w' r2 N → Calls Tryz.prog 66 #[r1, r2] w' fun e w'' => (∃ r, e = .returned r ∧ IsI w'' r (t3)) ∧ Ext w' w'')) (W3 : Hid (∀ r w', IsI w' r t3 → Calls Tryz.prog 65 #[r] w' fun e w'' => e = .returned (.tuple #[.int .i64 p3, .int .i64 e3]) ∧ Ext w' w'')) (HT : Hid (∀ w', Calls Tryz.prog 59 #[.int .i64 p1, .int .i64 e1, .int .i64 p2, .int .i64 e2, .int .i64 p3, .int .i64 e3] w' fun e w'' => e = .returned (.tuple #[.agg #[.int .i64 s0, .int .i64 s1, .int .i64 s2], .int .i64 es]) ∧ Ext w' w'')) (HQ : Hid (∀ w', Calls Tryz.prog 80 #[.int .i64 p0, .int .i64 e0, .agg #[.int .i64 s0, .int .i64 s1, .int .i64 s2], .int .i64 es] w' fun e w'' => e = .returned (.tuple #[.agg #[.int .i64 u0, .int .i64 u1, .int .i64 u2, .int .i64 u3], .int .i64 eu]) ∧ Ext w' w'')) :
    Calls Tryz.prog 29 #[.agg #[.int .i64 a, .int .i64 b, .int .i64 c, .int .i64 d]] w fun e w' => e = .returned (.tuple #[.agg #[.int .i64 u0, .int .i64 u1, .int .i64 u2, .int .i64 u3], .int .i64 eu]) ∧ Ext w w' := by
  have QB : Hid (HV ((w.alloc (.cells #[.int .i64 a, .int .i64 b, .int .i64 c, .int .i64 d] 49)).alloc (.cells #[.int .i64 0, .int .i64 0, .int .i64 0, .int .i64 0] 49)) w.heap.size [.int .i64 a, .int .i64 b, .int .i64 c, .int .i64 d]) := HV.alloc (hv_at rfl) _
  have RB : Hid (HV ((w.alloc (.cells #[.int .i64 a, .int .i64 b, .int .i64 c, .int .i64 d] 49)).alloc (.cells #[.int .i64 0, .int .i64 0, .int .i64 0, .int .i64 0] 49)) (w.heap.size + 1) [.int .i64 0, .int .i64 0, .int .i64 0, .int .i64 0]) := hv_at (by simp)
  have E0 : Hid (Ext w ((w.alloc (.cells #[.int .i64 a, .int .i64 b, .int .i64 c, .int .i64 d] 49)).alloc (.cells #[.int .i64 0, .int .i64 0, .int .i64 0, .int .i64 0] 49))) := ((Ext.refl _).alloc _).alloc _
  go_enter Tryz.func29, Tryz.ntmps29
  go_upto_region 1 with fail
  generalize ((w.alloc (.cells #[.int .i64 a, .int .i64 b, .int .i64 c, .int .i64 d] 49)).alloc (.cells #[.int .i64 0, .int .i64 0, .int .i64 0, .int .i64 0] 49)) = wB at *
  have q0 := QB.out.c 0 rfl
  have q1 := QB.out.c 1 rfl
  have q2 := QB.out.c 2 rfl
  have q3 := QB.out.c 3 rfl
  go_wp2_with fail
  refine (HD.out _).mono ?_
  rintro e w1 ⟨⟨r, rfl, hr⟩, x1⟩
  obtain ⟨u, hu, hk⟩ := hr
  obtain ⟨an, ln, cn, hau⟩ := hk.isSlice
  subst hau; subst hu
  have IN : Hid (IsI w1 (.agg #[.bool (decide (N < 0)), .slice an ln cn]) N) := ⟨_, rfl, hk⟩
  have QB : Hid (HV w1 w.heap.size [.int .i64 a, .int .i64 b, .int .i64 c, .int .i64 d]) := QB.out.ext x1
  have RB : Hid (HV w1 (w.heap.size + 1) [.int .i64 0, .int .i64 0, .int .i64 0, .int .i64 0]) := RB.out.ext x1
  have E0 : Hid (Ext w w1) := E0.out.trans x1
  clear hk x1 HD q0 q1 q2 q3
  generalize decide (N < 0) = bn at *
  go_upto_region 2 with fail
  have NB : Hid (HV (w1.alloc (.cells #[.bool bn, .slice an ln cn] 61)) w1.heap.size [.bool bn, .slice an ln cn]) := hv_at rfl
  have lr : w.heap.size + 1 < w1.heap.size := RB.out.1
  have lq : w.heap.size < w1.heap.size := QB.out.1
  have IN : Hid (IsI (w1.alloc (.cells #[.bool bn, .slice an ln cn] 61)) (.agg #[.bool bn, .slice an ln cn]) N) := IN.out.ext ((Ext.refl _).alloc _)
  have QB : Hid (HV (w1.alloc (.cells #[.bool bn, .slice an ln cn] 61)) w.heap.size [.int .i64 a, .int .i64 b, .int .i64 c, .int .i64 d]) := QB.out.alloc _
  have RB : Hid (HV (w1.alloc (.cells #[.bool bn, .slice an ln cn] 61)) (w.heap.size + 1) [.int .i64 0, .int .i64 0, .int .i64 0, .int .i64 0]) := RB.out.alloc _
  have E0 : Hid (Ext w (w1.alloc (.cells #[.bool bn, .slice an ln cn] 61))) := E0.out.alloc _
  generalize w1.alloc (.cells #[.bool bn, .slice an ln cn] 61) = w2 at *
  generalize w1.heap.size = nn at *
  have n0 := NB.out.c 0 rfl
  have n1 := NB.out.c 1 rfl
  go_upto_region 4 with (go_at_call 64; refine (HZ.out _ _ IN.out).mono ?_; rintro e w3 ⟨rfl, x3⟩)
  have IN : Hid (IsI w3 (.agg #[.bool bn, .slice an ln cn]) N) := IN.out.ext x3
  have NB : Hid (HV w3 nn [.bool bn, .slice an ln cn]) := NB.out.ext x3
  have QB : Hid (HV w3 w.heap.size [.int .i64 a, .int .i64 b, .int .i64 c, .int .i64 d]) := QB.out.ext x3
  have RB : Hid (HV w3 (w.heap.size + 1) [.int .i64 0, .int .i64 0, .int .i64 0, .int .i64 0]) := RB.out.ext x3
  have E0 : Hid (Ext w w3) := E0.out.trans x3
  clear x3 n0 n1 HZ
  go_upto_region 4 with fail
  go_cut [5, 6] (fun v5 v6 wx => v5 = .int .i64 p0 ∧ v6 = .int .i64 e0 ∧ Hid (Ext w3 wx))
  case first =>
    have q0 := QB.out.c 0 rfl
    have n0 := NB.out.c 0 rfl
    have n1 := NB.out.c 1 rfl
    have lq1 := QB.out.1
    have ln1 := NB.out.1
    go_region_held3 (fun w' => w'.cell? ⟨w.heap.size, 0, none⟩ = some (.int .i64 a) ∧ w'.cell? ⟨nn, 0, none⟩ = some (.bool bn) ∧ w'.cell? ⟨nn, 1, none⟩ = some (.slice an ln cn)) (first | (go_keep; done) | skip) (first | (go_at_call 68; refine (F0.out _).mono ?_; rintro e wf0 ⟨⟨rf, rfl, hf⟩, xf⟩; have Yf : Ext w3 wf0 := Ext.trans (by repeat (first | with_reducible assumption | with_reducible exact Ext.refl _ | with_reducible refine Ext.drew ?_ | with_reducible refine Ext.drewN ?_ _ | with_reducible refine Ext.alloc ?_ _ | with_reducible refine Ext.set ?_ (by first | exact Nat.le_refl _ | (dsimp only; omega) | (simp; done)) _)) xf; have kf0 := (QB.out.ext Yf).c 0 rfl; have kf1 := (NB.out.ext Yf).c 0 rfl; have kf2 := (NB.out.ext Yf).c 1 rfl; have lf0 := (QB.out.ext Yf).1; have lf1 := (NB.out.ext Yf).1) | (go_at_call 67; refine (L0.out _ _ (hf.ext (by repeat (first | with_reducible assumption | with_reducible exact Ext.refl _ | with_reducible refine Ext.drew ?_ | with_reducible refine Ext.drewN ?_ _ | with_reducible refine Ext.alloc ?_ _ | with_reducible refine Ext.set ?_ (by first | exact Nat.le_refl _ | (dsimp only; omega) | (simp; done)) _)))).mono ?_; rintro e wl0 ⟨⟨rl, rfl, hl⟩, xl⟩; have Yl : Ext w3 wl0 := Ext.trans (by repeat (first | with_reducible assumption | with_reducible exact Ext.refl _ | with_reducible refine Ext.drew ?_ | with_reducible refine Ext.drewN ?_ _ | with_reducible refine Ext.alloc ?_ _ | with_reducible refine Ext.set ?_ (by first | exact Nat.le_refl _ | (dsimp only; omega) | (simp; done)) _)) xl; have kl0 := (QB.out.ext Yl).c 0 rfl; have kl1 := (NB.out.ext Yl).c 0 rfl; have kl2 := (NB.out.ext Yl).c 1 rfl; have ll0 := (QB.out.ext Yl).1; have ll1 := (NB.out.ext Yl).1) | (go_at_call 66; refine (O0.out _ _ _ (hl.ext (by repeat (first | with_reducible assumption | with_reducible exact Ext.refl _ | with_reducible refine Ext.drew ?_ | with_reducible refine Ext.drewN ?_ _ | with_reducible refine Ext.alloc ?_ _ | with_reducible refine Ext.set ?_ (by first | exact Nat.le_refl _ | (dsimp only; omega) | (simp; done)) _))) (IN.out.ext (Ext.trans Yl (by repeat (first | with_reducible assumption | with_reducible exact Ext.refl _ | with_reducible refine Ext.drew ?_ | with_reducible refine Ext.drewN ?_ _ | with_reducible refine Ext.alloc ?_ _ | with_reducible refine Ext.set ?_ (by first | exact Nat.le_refl _ | (dsimp only; omega) | (simp; done)) _))))).mono ?_; rintro e wo0 ⟨⟨ro, rfl, ho⟩, xo⟩; have Yo : Ext w3 wo0 := Ext.trans (by repeat (first | with_reducible assumption | with_reducible exact Ext.refl _ | with_reducible refine Ext.drew ?_ | with_reducible refine Ext.drewN ?_ _ | with_reducible refine Ext.alloc ?_ _ | with_reducible refine Ext.set ?_ (by first | exact Nat.le_refl _ | (dsimp only; omega) | (simp; done)) _)) xo; have ko0 := (QB.out.ext Yo).c 0 rfl; have ko1 := (NB.out.ext Yo).c 0 rfl; have ko2 := (NB.out.ext Yo).c 1 rfl; have lo0 := (QB.out.ext Yo).1; have lo1 := (NB.out.ext Yo).1) | (go_at_call 65; refine (W0.out _ _ (ho.ext (by repeat (first | with_reducible assumption | with_reducible exact Ext.refl _ | with_reducible refine Ext.drew ?_ | with_reducible refine Ext.drewN ?_ _ | with_reducible refine Ext.alloc ?_ _ | with_reducible refine Ext.set ?_ (by first | exact Nat.le_refl _ | (dsimp only; omega) | (simp; done)) _)))).mono ?_; rintro e wd0 ⟨rfl, xd⟩; have Yd : Ext w3 wd0 := Ext.trans (by repeat (first | with_reducible assumption | with_reducible exact Ext.refl _ | with_reducible refine Ext.drew ?_ | with_reducible refine Ext.drewN ?_ _ | with_reducible refine Ext.alloc ?_ _ | with_reducible refine Ext.set ?_ (by first | exact Nat.le_refl _ | (dsimp only; omega) | (simp; done)) _)) xd; have kd0 := (QB.out.ext Yd).c 0 rfl; have kd1 := (NB.out.ext Yd).c 0 rfl; have kd2 := (NB.out.ext Yd).c 1 rfl; have ld0 := (QB.out.ext Yd).1; have ld1 := (NB.out.ext Yd).1))
    all_goals
      go_wp2_with fail
      go_meet
      first | exact ⟨rfl, rfl, Yd⟩ | exact ⟨rfl, rfl, Yd.drew⟩
  case rest =>
    obtain ⟨rfl, rfl, hx⟩ := hcut
    have IN : Hid (IsI wc (.agg #[.bool bn, .slice an ln cn]) N) := IN.out.ext hx.out
    have NB : Hid (HV wc nn [.bool bn, .slice an ln cn]) := NB.out.ext hx.out
    have QB : Hid (HV wc w.heap.size [.int .i64 a, .int .i64 b, .int .i64 c, .int .i64 d]) := QB.out.ext hx.out
    have RB : Hid (HV wc (w.heap.size + 1) [.int .i64 0, .int .i64 0, .int .i64 0, .int .i64 0]) := RB.out.ext hx.out
    have E0 : Hid (Ext w wc) := E0.out.trans hx.out
    clear hx F0 L0 O0 W0
    generalize wc = wk0 at *
    go_upto_region 5 with fail
    go_cut [7, 8] (fun v5 v6 wx => v5 = .int .i64 p1 ∧ v6 = .int .i64 e1 ∧ Hid (Ext wk0 wx))
    case first =>
      have q0 := QB.out.c 1 rfl
      have n0 := NB.out.c 0 rfl
      have n1 := NB.out.c 1 rfl
      have lq1 := QB.out.1
      have ln1 := NB.out.1
      go_region_held3 (fun w' => w'.cell? ⟨w.heap.size, 1, none⟩ = some (.int .i64 b) ∧ w'.cell? ⟨nn, 0, none⟩ = some (.bool bn) ∧ w'.cell? ⟨nn, 1, none⟩ = some (.slice an ln cn)) (first | (go_keep; done) | skip) (first | (go_at_call 68; refine (F1.out _).mono ?_; rintro e wf1 ⟨⟨rf, rfl, hf⟩, xf⟩; have Yf : Ext wk0 wf1 := Ext.trans (by repeat (first | with_reducible assumption | with_reducible exact Ext.refl _ | with_reducible refine Ext.drew ?_ | with_reducible refine Ext.drewN ?_ _ | with_reducible refine Ext.alloc ?_ _ | with_reducible refine Ext.set ?_ (by first | exact Nat.le_refl _ | (dsimp only; omega) | (simp; done)) _)) xf; have kf0 := (QB.out.ext Yf).c 1 rfl; have kf1 := (NB.out.ext Yf).c 0 rfl; have kf2 := (NB.out.ext Yf).c 1 rfl; have lf0 := (QB.out.ext Yf).1; have lf1 := (NB.out.ext Yf).1) | (go_at_call 67; refine (L1.out _ _ (hf.ext (by repeat (first | with_reducible assumption | with_reducible exact Ext.refl _ | with_reducible refine Ext.drew ?_ | with_reducible refine Ext.drewN ?_ _ | with_reducible refine Ext.alloc ?_ _ | with_reducible refine Ext.set ?_ (by first | exact Nat.le_refl _ | (dsimp only; omega) | (simp; done)) _)))).mono ?_; rintro e wl1 ⟨⟨rl, rfl, hl⟩, xl⟩; have Yl : Ext wk0 wl1 := Ext.trans (by repeat (first | with_reducible assumption | with_reducible exact Ext.refl _ | with_reducible refine Ext.drew ?_ | with_reducible refine Ext.drewN ?_ _ | with_reducible refine Ext.alloc ?_ _ | with_reducible refine Ext.set ?_ (by first | exact Nat.le_refl _ | (dsimp only; omega) | (simp; done)) _)) xl; have kl0 := (QB.out.ext Yl).c 1 rfl; have kl1 := (NB.out.ext Yl).c 0 rfl; have kl2 := (NB.out.ext Yl).c 1 rfl; have ll0 := (QB.out.ext Yl).1; have ll1 := (NB.out.ext Yl).1) | (go_at_call 66; refine (O1.out _ _ _ (hl.ext (by repeat (first | with_reducible assumption | with_reducible exact Ext.refl _ | with_reducible refine Ext.drew ?_ | with_reducible refine Ext.drewN ?_ _ | with_reducible refine Ext.alloc ?_ _ | with_reducible refine Ext.set ?_ (by first | exact Nat.le_refl _ | (dsimp only; omega) | (simp; done)) _))) (IN.out.ext (Ext.trans Yl (by repeat (first | with_reducible assumption | with_reducible exact Ext.refl _ | with_reducible refine Ext.drew ?_ | with_reducible refine Ext.drewN ?_ _ | with_reducible refine Ext.alloc ?_ _ | with_reducible refine Ext.set ?_ (by first | exact Nat.le_refl _ | (dsimp only; omega) | (simp; done)) _))))).mono ?_; rintro e wo1 ⟨⟨ro, rfl, ho⟩, xo⟩; have Yo : Ext wk0 wo1 := Ext.trans (by repeat (first | with_reducible assumption | with_reducible exact Ext.refl _ | with_reducible refine Ext.drew ?_ | with_reducible refine Ext.drewN ?_ _ | with_reducible refine Ext.alloc ?_ _ | with_reducible refine Ext.set ?_ (by first | exact Nat.le_refl _ | (dsimp only; omega) | (simp; done)) _)) xo; have ko0 := (QB.out.ext Yo).c 1 rfl; have ko1 := (NB.out.ext Yo).c 0 rfl; have ko2 := (NB.out.ext Yo).c 1 rfl; have lo0 := (QB.out.ext Yo).1; have lo1 := (NB.out.ext Yo).1) | (go_at_call 65; refine (W1.out _ _ (ho.ext (by repeat (first | with_reducible assumption | with_reducible exact Ext.refl _ | with_reducible refine Ext.drew ?_ | with_reducible refine Ext.drewN ?_ _ | with_reducible refine Ext.alloc ?_ _ | with_reducible refine Ext.set ?_ (by first | exact Nat.le_refl _ | (dsimp only; omega) | (simp; done)) _)))).mono ?_; rintro e wd1 ⟨rfl, xd⟩; have Yd : Ext wk0 wd1 := Ext.trans (by repeat (first | with_reducible assumption | with_reducible exact Ext.refl _ | with_reducible refine Ext.drew ?_ | with_reducible refine Ext.drewN ?_ _ | with_reducible refine Ext.alloc ?_ _ | with_reducible refine Ext.set ?_ (by first | exact Nat.le_refl _ | (dsimp only; omega) | (simp; done)) _)) xd; have kd0 := (QB.out.ext Yd).c 1 rfl; have kd1 := (NB.out.ext Yd).c 0 rfl; have kd2 := (NB.out.ext Yd).c 1 rfl; have ld0 := (QB.out.ext Yd).1; have ld1 := (NB.out.ext Yd).1))
      all_goals
        go_wp2_with fail
        go_meet
        first | exact ⟨rfl, rfl, Yd⟩ | exact ⟨rfl, rfl, Yd.drew⟩
    case rest =>
      obtain ⟨rfl, rfl, hx⟩ := hcut
      have IN : Hid (IsI wc (.agg #[.bool bn, .slice an ln cn]) N) := IN.out.ext hx.out
      have NB : Hid (HV wc nn [.bool bn, .slice an ln cn]) := NB.out.ext hx.out
      have QB : Hid (HV wc w.heap.size [.int .i64 a, .int .i64 b, .int .i64 c, .int .i64 d]) := QB.out.ext hx.out
      have RB : Hid (HV wc (w.heap.size + 1) [.int .i64 0, .int .i64 0, .int .i64 0, .int .i64 0]) := RB.out.ext hx.out
      have E0 : Hid (Ext w wc) := E0.out.trans hx.out
      clear hx F1 L1 O1 W1
      generalize wc = wk1 at *
      go_upto_region 6 with fail
      go_cut [9, 10] (fun v5 v6 wx => v5 = .int .i64 p2 ∧ v6 = .int .i64 e2 ∧ Hid (Ext wk1 wx))
      case first =>
        have q0 := QB.out.c 2 rfl
        have n0 := NB.out.c 0 rfl
        have n1 := NB.out.c 1 rfl
        have lq1 := QB.out.1
        have ln1 := NB.out.1
        go_region_held3 (fun w' => w'.cell? ⟨w.heap.size, 2, none⟩ = some (.int .i64 c) ∧ w'.cell? ⟨nn, 0, none⟩ = some (.bool bn) ∧ w'.cell? ⟨nn, 1, none⟩ = some (.slice an ln cn)) (first | (go_keep; done) | skip) (first | (go_at_call 68; refine (F2.out _).mono ?_; rintro e wf2 ⟨⟨rf, rfl, hf⟩, xf⟩; have Yf : Ext wk1 wf2 := Ext.trans (by repeat (first | with_reducible assumption | with_reducible exact Ext.refl _ | with_reducible refine Ext.drew ?_ | with_reducible refine Ext.drewN ?_ _ | with_reducible refine Ext.alloc ?_ _ | with_reducible refine Ext.set ?_ (by first | exact Nat.le_refl _ | (dsimp only; omega) | (simp; done)) _)) xf; have kf0 := (QB.out.ext Yf).c 2 rfl; have kf1 := (NB.out.ext Yf).c 0 rfl; have kf2 := (NB.out.ext Yf).c 1 rfl; have lf0 := (QB.out.ext Yf).1; have lf1 := (NB.out.ext Yf).1) | (go_at_call 67; refine (L2.out _ _ (hf.ext (by repeat (first | with_reducible assumption | with_reducible exact Ext.refl _ | with_reducible refine Ext.drew ?_ | with_reducible refine Ext.drewN ?_ _ | with_reducible refine Ext.alloc ?_ _ | with_reducible refine Ext.set ?_ (by first | exact Nat.le_refl _ | (dsimp only; omega) | (simp; done)) _)))).mono ?_; rintro e wl2 ⟨⟨rl, rfl, hl⟩, xl⟩; have Yl : Ext wk1 wl2 := Ext.trans (by repeat (first | with_reducible assumption | with_reducible exact Ext.refl _ | with_reducible refine Ext.drew ?_ | with_reducible refine Ext.drewN ?_ _ | with_reducible refine Ext.alloc ?_ _ | with_reducible refine Ext.set ?_ (by first | exact Nat.le_refl _ | (dsimp only; omega) | (simp; done)) _)) xl; have kl0 := (QB.out.ext Yl).c 2 rfl; have kl1 := (NB.out.ext Yl).c 0 rfl; have kl2 := (NB.out.ext Yl).c 1 rfl; have ll0 := (QB.out.ext Yl).1; have ll1 := (NB.out.ext Yl).1) | (go_at_call 66; refine (O2.out _ _ _ (hl.ext (by repeat (first | with_reducible assumption | with_reducible exact Ext.refl _ | with_reducible refine Ext.drew ?_ | with_reducible refine Ext.drewN ?_ _ | with_reducible refine Ext.alloc ?_ _ | with_reducible refine Ext.set ?_ (by first | exact Nat.le_refl _ | (dsimp only; omega) | (simp; done)) _))) (IN.out.ext (Ext.trans Yl (by repeat (first | with_reducible assumption | with_reducible exact Ext.refl _ | with_reducible refine Ext.drew ?_ | with_reducible refine Ext.drewN ?_ _ | with_reducible refine Ext.alloc ?_ _ | with_reducible refine Ext.set ?_ (by first | exact Nat.le_refl _ | (dsimp only; omega) | (simp; done)) _))))).mono ?_; rintro e wo2 ⟨⟨ro, rfl, ho⟩, xo⟩; have Yo : Ext wk1 wo2 := Ext.trans (by repeat (first | with_reducible assumption | with_reducible exact Ext.refl _ | with_reducible refine Ext.drew ?_ | with_reducible refine Ext.drewN ?_ _ | with_reducible refine Ext.alloc ?_ _ | with_reducible refine Ext.set ?_ (by first | exact Nat.le_refl _ | (dsimp only; omega) | (simp; done)) _)) xo; have ko0 := (QB.out.ext Yo).c 2 rfl; have ko1 := (NB.out.ext Yo).c 0 rfl; have ko2 := (NB.out.ext Yo).c 1 rfl; have lo0 := (QB.out.ext Yo).1; have lo1 := (NB.out.ext Yo).1) | (go_at_call 65; refine (W2.out _ _ (ho.ext (by repeat (first | with_reducible assumption | with_reducible exact Ext.refl _ | with_reducible refine Ext.drew ?_ | with_reducible refine Ext.drewN ?_ _ | with_reducible refine Ext.alloc ?_ _ | with_reducible refine Ext.set ?_ (by first | exact Nat.le_refl _ | (dsimp only; omega) | (simp; done)) _)))).mono ?_; rintro e wd2 ⟨rfl, xd⟩; have Yd : Ext wk1 wd2 := Ext.trans (by repeat (first | with_reducible assumption | with_reducible exact Ext.refl _ | with_reducible refine Ext.drew ?_ | with_reducible refine Ext.drewN ?_ _ | with_reducible refine Ext.alloc ?_ _ | with_reducible refine Ext.set ?_ (by first | exact Nat.le_refl _ | (dsimp only; omega) | (simp; done)) _)) xd; have kd0 := (QB.out.ext Yd).c 2 rfl; have kd1 := (NB.out.ext Yd).c 0 rfl; have kd2 := (NB.out.ext Yd).c 1 rfl; have ld0 := (QB.out.ext Yd).1; have ld1 := (NB.out.ext Yd).1))
        all_goals
          go_wp2_with fail
          go_meet
          first | exact ⟨rfl, rfl, Yd⟩ | exact ⟨rfl, rfl, Yd.drew⟩
      case rest =>
        obtain ⟨rfl, rfl, hx⟩ := hcut
        have IN : Hid (IsI wc (.agg #[.bool bn, .slice an ln cn]) N) := IN.out.ext hx.out
        have NB : Hid (HV wc nn [.bool bn, .slice an ln cn]) := NB.out.ext hx.out
        have QB : Hid (HV wc w.heap.size [.int .i64 a, .int .i64 b, .int .i64 c, .int .i64 d]) := QB.out.ext hx.out
        have RB : Hid (HV wc (w.heap.size + 1) [.int .i64 0, .int .i64 0, .int .i64 0, .int .i64 0]) := RB.out.ext hx.out
        have E0 : Hid (Ext w wc) := E0.out.trans hx.out
        clear hx F2 L2 O2 W2
        generalize wc = wk2 at *
        go_upto_region 7 with fail
        go_cut [11, 12] (fun v5 v6 wx => v5 = .int .i64 p3 ∧ v6 = .int .i64 e3 ∧ Hid (Ext wk2 wx))
        case first =>
          have q0 := QB.out.c 3 rfl
          have n0 := NB.out.c 0 rfl
          have n1 := NB.out.c 1 rfl
          have lq1 := QB.out.1
          have ln1 := NB.out.1
          go_region_held3 (fun w' => w'.cell? ⟨w.heap.size, 3, none⟩ = some (.int .i64 d) ∧ w'.cell? ⟨nn, 0, none⟩ = some (.bool bn) ∧ w'.cell? ⟨nn, 1, none⟩ = some (.slice an ln cn)) (first | (go_keep; done) | skip) (first | (go_at_call 68; refine (F3.out _).mono ?_; rintro e wf3 ⟨⟨rf, rfl, hf⟩, xf⟩; have Yf : Ext wk2 wf3 := Ext.trans (by repeat (first | with_reducible assumption | with_reducible exact Ext.refl _ | with_reducible refine Ext.drew ?_ | with_reducible refine Ext.drewN ?_ _ | with_reducible refine Ext.alloc ?_ _ | with_reducible refine Ext.set ?_ (by first | exact Nat.le_refl _ | (dsimp only; omega) | (simp; done)) _)) xf; have kf0 := (QB.out.ext Yf).c 3 rfl; have kf1 := (NB.out.ext Yf).c 0 rfl; have kf2 := (NB.out.ext Yf).c 1 rfl; have lf0 := (QB.out.ext Yf).1; have lf1 := (NB.out.ext Yf).1) | (go_at_call 67; refine (L3.out _ _ (hf.ext (by repeat (first | with_reducible assumption | with_reducible exact Ext.refl _ | with_reducible refine Ext.drew ?_ | with_reducible refine Ext.drewN ?_ _ | with_reducible refine Ext.alloc ?_ _ | with_reducible refine Ext.set ?_ (by first | exact Nat.le_refl _ | (dsimp only; omega) | (simp; done)) _)))).mono ?_; rintro e wl3 ⟨⟨rl, rfl, hl⟩, xl⟩; have Yl : Ext wk2 wl3 := Ext.trans (by repeat (first | with_reducible assumption | with_reducible exact Ext.refl _ | with_reducible refine Ext.drew ?_ | with_reducible refine Ext.drewN ?_ _ | with_reducible refine Ext.alloc ?_ _ | with_reducible refine Ext.set ?_ (by first | exact Nat.le_refl _ | (dsimp only; omega) | (simp; done)) _)) xl; have kl0 := (QB.out.ext Yl).c 3 rfl; have kl1 := (NB.out.ext Yl).c 0 rfl; have kl2 := (NB.out.ext Yl).c 1 rfl; have ll0 := (QB.out.ext Yl).1; have ll1 := (NB.out.ext Yl).1) | (go_at_call 66; refine (O3.out _ _ _ (hl.ext (by repeat (first | with_reducible assumption | with_reducible exact Ext.refl _ | with_reducible refine Ext.drew ?_ | with_reducible refine Ext.drewN ?_ _ | with_reducible refine Ext.alloc ?_ _ | with_reducible refine Ext.set ?_ (by first | exact Nat.le_refl _ | (dsimp only; omega) | (simp; done)) _))) (IN.out.ext (Ext.trans Yl (by repeat (first | with_reducible assumption | with_reducible exact Ext.refl _ | with_reducible refine Ext.drew ?_ | with_reducible refine Ext.drewN ?_ _ | with_reducible refine Ext.alloc ?_ _ | with_reducible refine Ext.set ?_ (by first | exact Nat.le_refl _ | (dsimp only; omega) | (simp; done)) _))))).mono ?_; rintro e wo3 ⟨⟨ro, rfl, ho⟩, xo⟩; have Yo : Ext wk2 wo3 := Ext.trans (by repeat (first | with_reducible assumption | with_reducible exact Ext.refl _ | with_reducible refine Ext.drew ?_ | with_reducible refine Ext.drewN ?_ _ | with_reducible refine Ext.alloc ?_ _ | with_reducible refine Ext.set ?_ (by first | exact Nat.le_refl _ | (dsimp only; omega) | (simp; done)) _)) xo; have ko0 := (QB.out.ext Yo).c 3 rfl; have ko1 := (NB.out.ext Yo).c 0 rfl; have ko2 := (NB.out.ext Yo).c 1 rfl; have lo0 := (QB.out.ext Yo).1; have lo1 := (NB.out.ext Yo).1) | (go_at_call 65; refine (W3.out _ _ (ho.ext (by repeat (first | with_reducible assumption | with_reducible exact Ext.refl _ | with_reducible refine Ext.drew ?_ | with_reducible refine Ext.drewN ?_ _ | with_reducible refine Ext.alloc ?_ _ | with_reducible refine Ext.set ?_ (by first | exact Nat.le_refl _ | (dsimp only; omega) | (simp; done)) _)))).mono ?_; rintro e wd3 ⟨rfl, xd⟩; have Yd : Ext wk2 wd3 := Ext.trans (by repeat (first | with_reducible assumption | with_reducible exact Ext.refl _ | with_reducible refine Ext.drew ?_ | with_reducible refine Ext.drewN ?_ _ | with_reducible refine Ext.alloc ?_ _ | with_reducible refine Ext.set ?_ (by first | exact Nat.le_refl _ | (dsimp only; omega) | (simp; done)) _)) xd; have kd0 := (QB.out.ext Yd).c 3 rfl; have kd1 := (NB.out.ext Yd).c 0 rfl; have kd2 := (NB.out.ext Yd).c 1 rfl; have ld0 := (QB.out.ext Yd).1; have ld1 := (NB.out.ext Yd).1))
          all_goals
            go_wp2_with fail
            go_meet
            first | exact ⟨rfl, rfl, Yd⟩ | exact ⟨rfl, rfl, Yd.drew⟩
        case rest =>
          obtain ⟨rfl, rfl, hx⟩ := hcut
          have IN : Hid (IsI wc (.agg #[.bool bn, .slice an ln cn]) N) := IN.out.ext hx.out
          have NB : Hid (HV wc nn [.bool bn, .slice an ln cn]) := NB.out.ext hx.out
          have QB : Hid (HV wc w.heap.size [.int .i64 a, .int .i64 b, .int .i64 c, .int .i64 d]) := QB.out.ext hx.out
          have RB : Hid (HV wc (w.heap.size + 1) [.int .i64 0, .int .i64 0, .int .i64 0, .int .i64 0]) := RB.out.ext hx.out
          have E0 : Hid (Ext w wc) := E0.out.trans hx.out
          clear hx F3 L3 O3 W3
          generalize wc = wk3 at *
          go_wp2_with fail
          refine (HT.out _).mono ?_
          rintro e w8 ⟨rfl, x8⟩
          have RB : Hid (HV w8 (w.heap.size + 1) [.int .i64 0, .int .i64 0, .int .i64 0, .int .i64 0]) := RB.out.ext x8
          have E0 : Hid (Ext w w8) := E0.out.trans x8
          clear x8
          go_upto_region 9 with fail
          have TB : Hid (HV (w8.alloc (.cells #[.int .i64 s0, .int .i64 s1, .int .i64 s2] 24)) w8.heap.size [.int .i64 s0, .int .i64 s1, .int .i64 s2]) := hv_at rfl
          have RB : Hid (HV (w8.alloc (.cells #[.int .i64 s0, .int .i64 s1, .int .i64 s2] 24)) (w.heap.size + 1) [.int .i64 0, .int .i64 0, .int .i64 0, .int .i64 0]) := RB.out.alloc _
          have E0 : Hid (Ext w (w8.alloc (.cells #[.int .i64 s0, .int .i64 s1, .int .i64 s2] 24))) := E0.out.alloc _
          generalize w8.alloc (.cells #[.int .i64 s0, .int .i64 s1, .int .i64 s2] 24) = w9 at *
          generalize w8.heap.size = nt at *
          have t0 := TB.out.c 0 rfl
          have t1 := TB.out.c 1 rfl
          have t2 := TB.out.c 2 rfl
          go_wp2_with fail
          refine (HQ.out _).mono ?_
          rintro e w10 ⟨rfl, x10⟩
          have RB : Hid (HV w10 (w.heap.size + 1) [.int .i64 0, .int .i64 0, .int .i64 0, .int .i64 0]) := RB.out.ext x10
          have E0 : Hid (Ext w w10) := E0.out.trans x10
          clear x10 t0 t1 t2
          have z0 := RB.out.c 0 rfl
          have y0 := RB.out.f 0 rfl
          have z1 := RB.out.c 1 rfl
          have y1 := RB.out.f 1 rfl
          have z2 := RB.out.c 2 rfl
          have y2 := RB.out.f 2 rfl
          have z3 := RB.out.c 3 rfl
          have y3 := RB.out.f 3 rfl
          have rl := RB.out.1
          go_wp2_with fail
          exact bodyPost_ret (v := .tuple #[.agg #[.int .i64 u0, .int .i64 u1, .int .i64 u2, .int .i64 u3], .int .i64 eu]) (by simp [results, Tryz.results29, go_sem, z0, z1, z2, z3]) rfl ⟨rfl, ((((E0.out.set (p := ⟨w.heap.size + 1, 0, none⟩) (Nat.le_succ _) _).set (p := ⟨w.heap.size + 1, 1, none⟩) (Nat.le_succ _) _).set (p := ⟨w.heap.size + 1, 2, none⟩) (Nat.le_succ _) _).set (p := ⟨w.heap.size + 1, 3, none⟩) (Nat.le_succ _) _)⟩
set_option maxRecDepth 20000 in
set_option maxHeartbeats 16000000 in
theorem runitq_nought (a b c d N : Int) (w : World) (HD : Hid (∀ w', Calls Tryz.prog 79 #[.agg #[.int .i64 a, .int .i64 b, .int .i64 c, .int .i64 d]] w' fun e w'' => (∃ r, e = .returned r ∧ IsI w'' r (N)) ∧ Ext w' w'')) (HZ : Hid (∀ r w', IsI w' r N → Calls Tryz.prog 64 #[r] w' fun e w'' => e = .returned (.bool true) ∧ Ext w' w'')) :
    Calls Tryz.prog 29 #[.agg #[.int .i64 a, .int .i64 b, .int .i64 c, .int .i64 d]] w fun e w' => e = .returned (.tuple #[.agg #[.int .i64 0, .int .i64 0, .int .i64 0, .int .i64 0], .int .i64 3]) ∧ Ext w w' := by
  have QB : Hid (HV ((w.alloc (.cells #[.int .i64 a, .int .i64 b, .int .i64 c, .int .i64 d] 49)).alloc (.cells #[.int .i64 0, .int .i64 0, .int .i64 0, .int .i64 0] 49)) w.heap.size [.int .i64 a, .int .i64 b, .int .i64 c, .int .i64 d]) := HV.alloc (hv_at rfl) _
  have RB : Hid (HV ((w.alloc (.cells #[.int .i64 a, .int .i64 b, .int .i64 c, .int .i64 d] 49)).alloc (.cells #[.int .i64 0, .int .i64 0, .int .i64 0, .int .i64 0] 49)) (w.heap.size + 1) [.int .i64 0, .int .i64 0, .int .i64 0, .int .i64 0]) := hv_at (by simp)
  have E0 : Hid (Ext w ((w.alloc (.cells #[.int .i64 a, .int .i64 b, .int .i64 c, .int .i64 d] 49)).alloc (.cells #[.int .i64 0, .int .i64 0, .int .i64 0, .int .i64 0] 49))) := ((Ext.refl _).alloc _).alloc _
  go_enter Tryz.func29, Tryz.ntmps29
  go_upto_region 1 with fail
  generalize ((w.alloc (.cells #[.int .i64 a, .int .i64 b, .int .i64 c, .int .i64 d] 49)).alloc (.cells #[.int .i64 0, .int .i64 0, .int .i64 0, .int .i64 0] 49)) = wB at *
  have q0 := QB.out.c 0 rfl
  have q1 := QB.out.c 1 rfl
  have q2 := QB.out.c 2 rfl
  have q3 := QB.out.c 3 rfl
  go_wp2_with fail
  refine (HD.out _).mono ?_
  rintro e w1 ⟨⟨r, rfl, hr⟩, x1⟩
  obtain ⟨u, hu, hk⟩ := hr
  obtain ⟨an, ln, cn, hau⟩ := hk.isSlice
  subst hau; subst hu
  have IN : Hid (IsI w1 (.agg #[.bool (decide (N < 0)), .slice an ln cn]) N) := ⟨_, rfl, hk⟩
  have RB : Hid (HV w1 (w.heap.size + 1) [.int .i64 0, .int .i64 0, .int .i64 0, .int .i64 0]) := RB.out.ext x1
  have E0 : Hid (Ext w w1) := E0.out.trans x1
  clear hk x1 HD QB q0 q1 q2 q3
  generalize decide (N < 0) = bn at *
  go_upto_region 2 with fail
  have NB : Hid (HV (w1.alloc (.cells #[.bool bn, .slice an ln cn] 61)) w1.heap.size [.bool bn, .slice an ln cn]) := hv_at rfl
  have IN : Hid (IsI (w1.alloc (.cells #[.bool bn, .slice an ln cn] 61)) (.agg #[.bool bn, .slice an ln cn]) N) := IN.out.ext ((Ext.refl _).alloc _)
  have RB : Hid (HV (w1.alloc (.cells #[.bool bn, .slice an ln cn] 61)) (w.heap.size + 1) [.int .i64 0, .int .i64 0, .int .i64 0, .int .i64 0]) := RB.out.alloc _
  have E0 : Hid (Ext w (w1.alloc (.cells #[.bool bn, .slice an ln cn] 61))) := E0.out.alloc _
  generalize w1.alloc (.cells #[.bool bn, .slice an ln cn] 61) = w2 at *
  generalize w1.heap.size = nn at *
  have n0 := NB.out.c 0 rfl
  have n1 := NB.out.c 1 rfl
  go_upto_region 3 with (go_at_call 64; refine (HZ.out _ _ IN.out).mono ?_; rintro e w3 ⟨rfl, x3⟩)
  have RB : Hid (HV w3 (w.heap.size + 1) [.int .i64 0, .int .i64 0, .int .i64 0, .int .i64 0]) := RB.out.ext x3
  have E0 : Hid (Ext w w3) := E0.out.trans x3
  clear x3 n0 n1 HZ IN NB
  have z0 := RB.out.c 0 rfl
  have y0 := RB.out.f 0 rfl
  have z1 := RB.out.c 1 rfl
  have y1 := RB.out.f 1 rfl
  have z2 := RB.out.c 2 rfl
  have y2 := RB.out.f 2 rfl
  have z3 := RB.out.c 3 rfl
  have y3 := RB.out.f 3 rfl
  have rl := RB.out.1
  go_wp2_with fail
  exact bodyPost_ret (v := .tuple #[.agg #[.int .i64 0, .int .i64 0, .int .i64 0, .int .i64 0], .int .i64 3]) (by simp [results, Tryz.results29, go_sem, z0, z1, z2, z3]) rfl ⟨rfl, ((((E0.out.set (p := ⟨w.heap.size + 1, 0, none⟩) (Nat.le_succ _) _).set (p := ⟨w.heap.size + 1, 1, none⟩) (Nat.le_succ _) _).set (p := ⟨w.heap.size + 1, 2, none⟩) (Nat.le_succ _) _).set (p := ⟨w.heap.size + 1, 3, none⟩) (Nat.le_succ _) _)⟩
set_option maxHeartbeats 4000000 in
theorem quat_ok (a x y z e f : Int) (w : World) (he : e = 0) (hf : f = 0) :
    Calls Tryz.prog 80 #[.int .i64 a, .int .i64 e, .agg #[.int .i64 x, .int .i64 y, .int .i64 z], .int .i64 f] w fun e' w' => e' = .returned (.tuple #[.agg #[.int .i64 a, .int .i64 x, .int .i64 y, .int .i64 z], .int .i64 0]) ∧ Ext w w' := by
  have QB : Hid (HV ((w.alloc (.cells #[.int .i64 x, .int .i64 y, .int .i64 z] 24)).alloc (.cells #[.int .i64 0, .int .i64 0, .int .i64 0, .int .i64 0] 49)) w.heap.size [.int .i64 x, .int .i64 y, .int .i64 z]) := HV.alloc (hv_at rfl) _
  have RB : Hid (HV ((w.alloc (.cells #[.int .i64 x, .int .i64 y, .int .i64 z] 24)).alloc (.cells #[.int .i64 0, .int .i64 0, .int .i64 0, .int .i64 0] 49)) (w.heap.size + 1) [.int .i64 0, .int .i64 0, .int .i64 0, .int .i64 0]) := hv_at (by simp)
  have E0 : Hid (Ext w ((w.alloc (.cells #[.int .i64 x, .int .i64 y, .int .i64 z] 24)).alloc (.cells #[.int .i64 0, .int .i64 0, .int .i64 0, .int .i64 0] 49))) := ((Ext.refl _).alloc _).alloc _
  go_enter Tryz.func80, Tryz.ntmps80
  go_upto_region 1 with fail
  generalize ((w.alloc (.cells #[.int .i64 x, .int .i64 y, .int .i64 z] 24)).alloc (.cells #[.int .i64 0, .int .i64 0, .int .i64 0, .int .i64 0] 49)) = wB at *
  have q0 := QB.out.c 0 rfl
  have q1 := QB.out.c 1 rfl
  have q2 := QB.out.c 2 rfl
  have z0 := RB.out.c 0 rfl
  have z1 := RB.out.c 1 rfl
  have z2 := RB.out.c 2 rfl
  have z3 := RB.out.c 3 rfl
  have y0 := RB.out.f 0 rfl
  have y1 := RB.out.f 1 rfl
  have y2 := RB.out.f 2 rfl
  have y3 := RB.out.f 3 rfl
  have rl := RB.out.1
  go_wp2_with fail
  exact bodyPost_ret (v := .tuple #[.agg #[.int .i64 a, .int .i64 x, .int .i64 y, .int .i64 z], .int .i64 0]) (by simp [results, Tryz.results80, go_sem, z0, z1, z2, z3]) rfl ⟨rfl, ((((E0.out.set (p := ⟨w.heap.size + 1, 0, none⟩) (Nat.le_succ _) _).set (p := ⟨w.heap.size + 1, 1, none⟩) (Nat.le_succ _) _).set (p := ⟨w.heap.size + 1, 2, none⟩) (Nat.le_succ _) _).set (p := ⟨w.heap.size + 1, 3, none⟩) (Nat.le_succ _) _)⟩
set_option maxHeartbeats 4000000 in
theorem quat_e (a x y z e f : Int) (w : World) (he : ¬ e = 0) :
    Calls Tryz.prog 80 #[.int .i64 a, .int .i64 e, .agg #[.int .i64 x, .int .i64 y, .int .i64 z], .int .i64 f] w fun e' w' => e' = .returned (.tuple #[.agg #[.int .i64 0, .int .i64 0, .int .i64 0, .int .i64 0], .int .i64 2]) ∧ Ext w w' := by
  have QB : Hid (HV ((w.alloc (.cells #[.int .i64 x, .int .i64 y, .int .i64 z] 24)).alloc (.cells #[.int .i64 0, .int .i64 0, .int .i64 0, .int .i64 0] 49)) w.heap.size [.int .i64 x, .int .i64 y, .int .i64 z]) := HV.alloc (hv_at rfl) _
  have RB : Hid (HV ((w.alloc (.cells #[.int .i64 x, .int .i64 y, .int .i64 z] 24)).alloc (.cells #[.int .i64 0, .int .i64 0, .int .i64 0, .int .i64 0] 49)) (w.heap.size + 1) [.int .i64 0, .int .i64 0, .int .i64 0, .int .i64 0]) := hv_at (by simp)
  have E0 : Hid (Ext w ((w.alloc (.cells #[.int .i64 x, .int .i64 y, .int .i64 z] 24)).alloc (.cells #[.int .i64 0, .int .i64 0, .int .i64 0, .int .i64 0] 49))) := ((Ext.refl _).alloc _).alloc _
  go_enter Tryz.func80, Tryz.ntmps80
  go_upto_region 1 with fail
  generalize ((w.alloc (.cells #[.int .i64 x, .int .i64 y, .int .i64 z] 24)).alloc (.cells #[.int .i64 0, .int .i64 0, .int .i64 0, .int .i64 0] 49)) = wB at *
  have q0 := QB.out.c 0 rfl
  have q1 := QB.out.c 1 rfl
  have q2 := QB.out.c 2 rfl
  have z0 := RB.out.c 0 rfl
  have z1 := RB.out.c 1 rfl
  have z2 := RB.out.c 2 rfl
  have z3 := RB.out.c 3 rfl
  have y0 := RB.out.f 0 rfl
  have y1 := RB.out.f 1 rfl
  have y2 := RB.out.f 2 rfl
  have y3 := RB.out.f 3 rfl
  have rl := RB.out.1
  go_wp2_with fail
  exact bodyPost_ret (v := .tuple #[.agg #[.int .i64 0, .int .i64 0, .int .i64 0, .int .i64 0], .int .i64 2]) (by simp [results, Tryz.results80, go_sem, z0, z1, z2, z3]) rfl ⟨rfl, ((((E0.out.set (p := ⟨w.heap.size + 1, 0, none⟩) (Nat.le_succ _) _).set (p := ⟨w.heap.size + 1, 1, none⟩) (Nat.le_succ _) _).set (p := ⟨w.heap.size + 1, 2, none⟩) (Nat.le_succ _) _).set (p := ⟨w.heap.size + 1, 3, none⟩) (Nat.le_succ _) _)⟩
set_option maxHeartbeats 4000000 in
theorem quat_f (a x y z e f : Int) (w : World) (he : e = 0) (hf : ¬ f = 0) :
    Calls Tryz.prog 80 #[.int .i64 a, .int .i64 e, .agg #[.int .i64 x, .int .i64 y, .int .i64 z], .int .i64 f] w fun e' w' => e' = .returned (.tuple #[.agg #[.int .i64 0, .int .i64 0, .int .i64 0, .int .i64 0], .int .i64 2]) ∧ Ext w w' := by
  have QB : Hid (HV ((w.alloc (.cells #[.int .i64 x, .int .i64 y, .int .i64 z] 24)).alloc (.cells #[.int .i64 0, .int .i64 0, .int .i64 0, .int .i64 0] 49)) w.heap.size [.int .i64 x, .int .i64 y, .int .i64 z]) := HV.alloc (hv_at rfl) _
  have RB : Hid (HV ((w.alloc (.cells #[.int .i64 x, .int .i64 y, .int .i64 z] 24)).alloc (.cells #[.int .i64 0, .int .i64 0, .int .i64 0, .int .i64 0] 49)) (w.heap.size + 1) [.int .i64 0, .int .i64 0, .int .i64 0, .int .i64 0]) := hv_at (by simp)
  have E0 : Hid (Ext w ((w.alloc (.cells #[.int .i64 x, .int .i64 y, .int .i64 z] 24)).alloc (.cells #[.int .i64 0, .int .i64 0, .int .i64 0, .int .i64 0] 49))) := ((Ext.refl _).alloc _).alloc _
  go_enter Tryz.func80, Tryz.ntmps80
  go_upto_region 1 with fail
  generalize ((w.alloc (.cells #[.int .i64 x, .int .i64 y, .int .i64 z] 24)).alloc (.cells #[.int .i64 0, .int .i64 0, .int .i64 0, .int .i64 0] 49)) = wB at *
  have q0 := QB.out.c 0 rfl
  have q1 := QB.out.c 1 rfl
  have q2 := QB.out.c 2 rfl
  have z0 := RB.out.c 0 rfl
  have z1 := RB.out.c 1 rfl
  have z2 := RB.out.c 2 rfl
  have z3 := RB.out.c 3 rfl
  have y0 := RB.out.f 0 rfl
  have y1 := RB.out.f 1 rfl
  have y2 := RB.out.f 2 rfl
  have y3 := RB.out.f 3 rfl
  have rl := RB.out.1
  go_wp2_with fail
  exact bodyPost_ret (v := .tuple #[.agg #[.int .i64 0, .int .i64 0, .int .i64 0, .int .i64 0], .int .i64 2]) (by simp [results, Tryz.results80, go_sem, z0, z1, z2, z3]) rfl ⟨rfl, ((((E0.out.set (p := ⟨w.heap.size + 1, 0, none⟩) (Nat.le_succ _) _).set (p := ⟨w.heap.size + 1, 1, none⟩) (Nat.le_succ _) _).set (p := ⟨w.heap.size + 1, 2, none⟩) (Nat.le_succ _) _).set (p := ⟨w.heap.size + 1, 3, none⟩) (Nat.le_succ _) _)⟩
end Go.Proofs.YtfmalpnlencmbaaGreat

namespace Go.Proofs.YtfmalpnlencmbaaGreat
open Go.RowKit Go.Shelf
/-- four whole numbers -/
def IsFour (w : World) (v : Value) (z0 z1 z2 z3 : Int) : Prop := ∃ (b0 b1 b2 b3 : Bool) (a0 a1 a2 a3 : Option Addr) (l0 k0 l1 k1 l2 k2 l3 k3 : Nat), v = .agg #[.bool b0, .slice a0 l0 k0, .bool b1, .slice a1 l1 k1, .bool b2, .slice a2 l2 k2, .bool b3, .slice a3 l3 k3] ∧ IsI w (.agg #[.bool b0, .slice a0 l0 k0]) z0 ∧ IsI w (.agg #[.bool b1, .slice a1 l1 k1]) z1 ∧ IsI w (.agg #[.bool b2, .slice a2 l2 k2]) z2 ∧ IsI w (.agg #[.bool b3, .slice a3 l3 k3]) z3
theorem IsFour.ext {w w' : World} {v : Value} {z0 z1 z2 z3 : Int} (h : IsFour w v z0 z1 z2 z3) (hx : Ext w w') : IsFour w' v z0 z1 z2 z3 := by
  obtain ⟨b0, b1, b2, b3, a0, a1, a2, a3, l0, k0, l1, k1, l2, k2, l3, k3, hv, h0, h1, h2, h3⟩ := h
  exact ⟨b0, b1, b2, b3, a0, a1, a2, a3, l0, k0, l1, k1, l2, k2, l3, k3, hv, h0.ext hx, h1.ext hx, h2.ext hx, h3.ext hx⟩
theorem IsI.form {w : World} {r : Value} {z : Int} (h : IsI w r z) : ∃ (b : Bool) (a : Option Addr) (l k : Nat), r = .agg #[.bool b, .slice a l k] := by
  obtain ⟨u, hu, hk⟩ := h
  obtain ⟨a, l, k, ha⟩ := hk.isSlice
  exact ⟨_, a, l, k, by rw [hu, ha]⟩
theorem IsI.put8 {w : World} {g : Nat} {v : Value} {z : Int} (h : IsI w v z) (hV : HV w g [.bool false, .slice none 0 0, .bool false, .slice none 0 0, .bool false, .slice none 0 0, .bool false, .slice none 0 0]) (x0 x1 x2 x3 x4 x5 x6 x7 : Value) : IsI ((((((((w.setCell ⟨g, 0, none⟩ (x0)).setCell ⟨g, 1, none⟩ (x1)).setCell ⟨g, 2, none⟩ (x2)).setCell ⟨g, 3, none⟩ (x3)).setCell ⟨g, 4, none⟩ (x4)).setCell ⟨g, 5, none⟩ (x5)).setCell ⟨g, 6, none⟩ (x6)).setCell ⟨g, 7, none⟩ (x7)) v z := by
  have c0 := h.set (x := x0) (hV.c 0 rfl) (by simp)
  have c1 := c0.set (x := x1) ((hV.set 0 x0).c 1 rfl) (by simp)
  have c2 := c1.set (x := x2) (((hV.set 0 x0).set 1 x1).c 2 rfl) (by simp)
  have c3 := c2.set (x := x3) ((((hV.set 0 x0).set 1 x1).set 2 x2).c 3 rfl) (by simp)
  have c4 := c3.set (x := x4) (((((hV.set 0 x0).set 1 x1).set 2 x2).set 3 x3).c 4 rfl) (by simp)
  have c5 := c4.set (x := x5) ((((((hV.set 0 x0).set 1 x1).set 2 x2).set 3 x3).set 4 x4).c 5 rfl) (by simp)
  have c6 := c5.set (x := x6) (((((((hV.set 0 x0).set 1 x1).set 2 x2).set 3 x3).set 4 x4).set 5 x5).c 6 rfl) (by simp)
  have c7 := c6.set (x := x7) ((((((((hV.set 0 x0).set 1 x1).set 2 x2).set 3 x3).set 4 x4).set 5 x5).set 6 x6).c 7 rfl) (by simp)
  exact c7
set_option maxHeartbeats 8000000 in
theorem of_raw (a b c d : Int) (w : World) (Ha : Hid (∀ w', Calls Tryz.prog 68 #[.int .i64 a] w' fun e w'' => (∃ r, e = .returned r ∧ IsI w'' r (a)) ∧ Ext w' w'')) (Hb : Hid (∀ w', Calls Tryz.prog 68 #[.int .i64 b] w' fun e w'' => (∃ r, e = .returned r ∧ IsI w'' r (b)) ∧ Ext w' w'')) (Hc : Hid (∀ w', Calls Tryz.prog 68 #[.int .i64 c] w' fun e w'' => (∃ r, e = .returned r ∧ IsI w'' r (c)) ∧ Ext w' w'')) (Hd : Hid (∀ w', Calls Tryz.prog 68 #[.int .i64 d] w' fun e w'' => (∃ r, e = .returned r ∧ IsI w'' r (d)) ∧ Ext w' w'')) :
    Calls Tryz.prog 84 #[.agg #[.int .i64 a, .int .i64 b, .int .i64 c, .int .i64 d]] w fun e w' => (∃ r, e = .returned r ∧ IsFour w' r a b c d) ∧ Ext w w' := by
  have Bq : Hid (HV ((w.alloc (.cells #[.int .i64 a, .int .i64 b, .int .i64 c, .int .i64 d] 49)).alloc (.cells #[.bool false, .slice none 0 0, .bool false, .slice none 0 0, .bool false, .slice none 0 0, .bool false, .slice none 0 0] 63)) w.heap.size [.int .i64 a, .int .i64 b, .int .i64 c, .int .i64 d]) := HV.alloc (hv_at rfl) _
  have Br : Hid (HV ((w.alloc (.cells #[.int .i64 a, .int .i64 b, .int .i64 c, .int .i64 d] 49)).alloc (.cells #[.bool false, .slice none 0 0, .bool false, .slice none 0 0, .bool false, .slice none 0 0, .bool false, .slice none 0 0] 63)) (w.heap.size + 1) [.bool false, .slice none 0 0, .bool false, .slice none 0 0, .bool false, .slice none 0 0, .bool false, .slice none 0 0]) := hv_at (by simp)
  have E0 : Hid (Ext w ((w.alloc (.cells #[.int .i64 a, .int .i64 b, .int .i64 c, .int .i64 d] 49)).alloc (.cells #[.bool false, .slice none 0 0, .bool false, .slice none 0 0, .bool false, .slice none 0 0, .bool false, .slice none 0 0] 63))) := ((Ext.refl _).alloc _).alloc _
  go_enter Tryz.func84, Tryz.ntmps84
  go_upto_region 1 with fail
  generalize ((w.alloc (.cells #[.int .i64 a, .int .i64 b, .int .i64 c, .int .i64 d] 49)).alloc (.cells #[.bool false, .slice none 0 0, .bool false, .slice none 0 0, .bool false, .slice none 0 0, .bool false, .slice none 0 0] 63)) = wB at *
  have q0 := Bq.out.c 0 rfl
  have q1 := Bq.out.c 1 rfl
  have q2 := Bq.out.c 2 rfl
  have q3 := Bq.out.c 3 rfl
  have ql := Bq.out.1
  go_region_held3 (fun w' => w'.cell? ⟨w.heap.size, 0, none⟩ = some (.int .i64 a) ∧ w'.cell? ⟨w.heap.size, 1, none⟩ = some (.int .i64 b) ∧ w'.cell? ⟨w.heap.size, 2, none⟩ = some (.int .i64 c) ∧ w'.cell? ⟨w.heap.size, 3, none⟩ = some (.int .i64 d)) (first | (go_keep; done) | skip) (first | (go_at_call_of 68 (Value.int IntKind.i64 a); refine (Ha.out _).mono ?_; rintro e wa ⟨⟨ra, rfl, ha⟩, xa⟩; have Ya : Ext wB wa := Ext.trans (by repeat (first | with_reducible assumption | with_reducible exact Ext.refl _ | with_reducible refine Ext.drew ?_ | with_reducible refine Ext.drewN ?_ _ | with_reducible refine Ext.alloc ?_ _ | with_reducible refine Ext.set ?_ (by first | exact Nat.le_refl _ | (dsimp only; omega) | (simp; done)) _)) xa; have qq0a : wa.cell? ⟨w.heap.size, 0, none⟩ = some (.int .i64 a) := (Bq.out.ext Ya).c 0 rfl; have qq1a : wa.cell? ⟨w.heap.size, 1, none⟩ = some (.int .i64 b) := (Bq.out.ext Ya).c 1 rfl; have qq2a : wa.cell? ⟨w.heap.size, 2, none⟩ = some (.int .i64 c) := (Bq.out.ext Ya).c 2 rfl; have qq3a : wa.cell? ⟨w.heap.size, 3, none⟩ = some (.int .i64 d) := (Bq.out.ext Ya).c 3 rfl; have lqa := (Bq.out.ext Ya).1; obtain ⟨b0, a0, l0, k0, rfl⟩ := ha.form; have K0 : Hid (IsI wa (.agg #[.bool b0, .slice a0 l0 k0]) a) := ha; clear ha) | (go_at_call_of 68 (Value.int IntKind.i64 b); refine (Hb.out _).mono ?_; rintro e wb ⟨⟨rb, rfl, hb⟩, xb⟩; have Yb : Ext wB wb := Ext.trans (by repeat (first | with_reducible assumption | with_reducible exact Ext.refl _ | with_reducible refine Ext.drew ?_ | with_reducible refine Ext.drewN ?_ _ | with_reducible refine Ext.alloc ?_ _ | with_reducible refine Ext.set ?_ (by first | exact Nat.le_refl _ | (dsimp only; omega) | (simp; done)) _)) xb; have qq0b : wb.cell? ⟨w.heap.size, 0, none⟩ = some (.int .i64 a) := (Bq.out.ext Yb).c 0 rfl; have qq1b : wb.cell? ⟨w.heap.size, 1, none⟩ = some (.int .i64 b) := (Bq.out.ext Yb).c 1 rfl; have qq2b : wb.cell? ⟨w.heap.size, 2, none⟩ = some (.int .i64 c) := (Bq.out.ext Yb).c 2 rfl; have qq3b : wb.cell? ⟨w.heap.size, 3, none⟩ = some (.int .i64 d) := (Bq.out.ext Yb).c 3 rfl; have lqb := (Bq.out.ext Yb).1; obtain ⟨b1, a1, l1, k1, rfl⟩ := hb.form; have K1 : Hid (IsI wb (.agg #[.bool b1, .slice a1 l1 k1]) b) := hb; clear hb) | (go_at_call_of 68 (Value.int IntKind.i64 c); refine (Hc.out _).mono ?_; rintro e wc ⟨⟨rc, rfl, hc⟩, xc⟩; have Yc : Ext wB wc := Ext.trans (by repeat (first | with_reducible assumption | with_reducible exact Ext.refl _ | with_reducible refine Ext.drew ?_ | with_reducible refine Ext.drewN ?_ _ | with_reducible refine Ext.alloc ?_ _ | with_reducible refine Ext.set ?_ (by first | exact Nat.le_refl _ | (dsimp only; omega) | (simp; done)) _)) xc; have qq0c : wc.cell? ⟨w.heap.size, 0, none⟩ = some (.int .i64 a) := (Bq.out.ext Yc).c 0 rfl; have qq1c : wc.cell? ⟨w.heap.size, 1, none⟩ = some (.int .i64 b) := (Bq.out.ext Yc).c 1 rfl; have qq2c : wc.cell? ⟨w.heap.size, 2, none⟩ = some (.int .i64 c) := (Bq.out.ext Yc).c 2 rfl; have qq3c : wc.cell? ⟨w.heap.size, 3, none⟩ = some (.int .i64 d) := (Bq.out.ext Yc).c 3 rfl; have lqc := (Bq.out.ext Yc).1; obtain ⟨b2, a2, l2, k2, rfl⟩ := hc.form; have K2 : Hid (IsI wc (.agg #[.bool b2, .slice a2 l2 k2]) c) := hc; clear hc) | (go_at_call_of 68 (Value.int IntKind.i64 d); refine (Hd.out _).mono ?_; rintro e wd ⟨⟨rd, rfl, hd⟩, xd⟩; have Yd : Ext wB wd := Ext.trans (by repeat (first | with_reducible assumption | with_reducible exact Ext.refl _ | with_reducible refine Ext.drew ?_ | with_reducible refine Ext.drewN ?_ _ | with_reducible refine Ext.alloc ?_ _ | with_reducible refine Ext.set ?_ (by first | exact Nat.le_refl _ | (dsimp only; omega) | (simp; done)) _)) xd; have qq0d : wd.cell? ⟨w.heap.size, 0, none⟩ = some (.int .i64 a) := (Bq.out.ext Yd).c 0 rfl; have qq1d : wd.cell? ⟨w.heap.size, 1, none⟩ = some (.int .i64 b) := (Bq.out.ext Yd).c 1 rfl; have qq2d : wd.cell? ⟨w.heap.size, 2, none⟩ = some (.int .i64 c) := (Bq.out.ext Yd).c 2 rfl; have qq3d : wd.cell? ⟨w.heap.size, 3, none⟩ = some (.int .i64 d) := (Bq.out.ext Yd).c 3 rfl; have lqd := (Bq.out.ext Yd).1; obtain ⟨b3, a3, l3, k3, rfl⟩ := hd.form; have K3 : Hid (IsI wd (.agg #[.bool b3, .slice a3 l3 k3]) d) := hd; clear hd; have z0 := (Br.out.ext Yd).c 0 rfl; have y0 := (Br.out.ext Yd).f 0 rfl; have z1 := (Br.out.ext Yd).c 1 rfl; have y1 := (Br.out.ext Yd).f 1 rfl; have z2 := (Br.out.ext Yd).c 2 rfl; have y2 := (Br.out.ext Yd).f 2 rfl; have z3 := (Br.out.ext Yd).c 3 rfl; have y3 := (Br.out.ext Yd).f 3 rfl; have z4 := (Br.out.ext Yd).c 4 rfl; have y4 := (Br.out.ext Yd).f 4 rfl; have z5 := (Br.out.ext Yd).c 5 rfl; have y5 := (Br.out.ext Yd).f 5 rfl; have z6 := (Br.out.ext Yd).c 6 rfl; have y6 := (Br.out.ext Yd).f 6 rfl; have z7 := (Br.out.ext Yd).c 7 rfl; have y7 := (Br.out.ext Yd).f 7 rfl; have rl := (Br.out.ext Yd).1))
  all_goals
    have K0 : Hid (IsI wd (.agg #[.bool b0, .slice a0 l0 k0]) a) := ((K0.out.ext (by first | exact xb | exact Ext.trans (by repeat (first | with_reducible assumption | with_reducible exact Ext.refl _ | with_reducible refine Ext.drew ?_ | with_reducible refine Ext.drewN ?_ _ | with_reducible refine Ext.alloc ?_ _ | with_reducible refine Ext.set ?_ (by first | exact Nat.le_refl _ | (dsimp only; omega) | (simp; done)) _)) xb)).ext (by first | exact xc | exact Ext.trans (by repeat (first | with_reducible assumption | with_reducible exact Ext.refl _ | with_reducible refine Ext.drew ?_ | with_reducible refine Ext.drewN ?_ _ | with_reducible refine Ext.alloc ?_ _ | with_reducible refine Ext.set ?_ (by first | exact Nat.le_refl _ | (dsimp only; omega) | (simp; done)) _)) xc)).ext (by first | exact xd | exact Ext.trans (by repeat (first | with_reducible assumption | with_reducible exact Ext.refl _ | with_reducible refine Ext.drew ?_ | with_reducible refine Ext.drewN ?_ _ | with_reducible refine Ext.alloc ?_ _ | with_reducible refine Ext.set ?_ (by first | exact Nat.le_refl _ | (dsimp only; omega) | (simp; done)) _)) xd)
    have K1 : Hid (IsI wd (.agg #[.bool b1, .slice a1 l1 k1]) b) := (K1.out.ext (by first | exact xc | exact Ext.trans (by repeat (first | with_reducible assumption | with_reducible exact Ext.refl _ | with_reducible refine Ext.drew ?_ | with_reducible refine Ext.drewN ?_ _ | with_reducible refine Ext.alloc ?_ _ | with_reducible refine Ext.set ?_ (by first | exact Nat.le_refl _ | (dsimp only; omega) | (simp; done)) _)) xc)).ext (by first | exact xd | exact Ext.trans (by repeat (first | with_reducible assumption | with_reducible exact Ext.refl _ | with_reducible refine Ext.drew ?_ | with_reducible refine Ext.drewN ?_ _ | with_reducible refine Ext.alloc ?_ _ | with_reducible refine Ext.set ?_ (by first | exact Nat.le_refl _ | (dsimp only; omega) | (simp; done)) _)) xd)
    have K2 : Hid (IsI wd (.agg #[.bool b2, .slice a2 l2 k2]) c) := K2.out.ext (by first | exact xd | exact Ext.trans (by repeat (first | with_reducible assumption | with_reducible exact Ext.refl _ | with_reducible refine Ext.drew ?_ | with_reducible refine Ext.drewN ?_ _ | with_reducible refine Ext.alloc ?_ _ | with_reducible refine Ext.set ?_ (by first | exact Nat.le_refl _ | (dsimp only; omega) | (simp; done)) _)) xd)
    have RB := Br.out.ext Yd
    have E1 : Ext w wd := E0.out.trans Yd
    go_wp2_with fail
    exact bodyPost_ret (v := .agg #[.bool b0, .slice a0 l0 k0, .bool b1, .slice a1 l1 k1, .bool b2, .slice a2 l2 k2, .bool b3, .slice a3 l3 k3]) (by simp [results, Tryz.results84, go_sem, z0, z1, z2, z3, z4, z5, z6, z7]) rfl ⟨⟨_, rfl, _, _, _, _, _, _, _, _, _, _, _, _, _, _, _, _, rfl, K0.out.put8 RB _ _ _ _ _ _ _ _, K1.out.put8 RB _ _ _ _ _ _ _ _, K2.out.put8 RB _ _ _ _ _ _ _ _, K3.out.put8 RB _ _ _ _ _ _ _ _⟩, ((((((((E1.set (p := ⟨w.heap.size + 1, 0, none⟩) (Nat.le_succ _) _).set (p := ⟨w.heap.size + 1, 1, none⟩) (Nat.le_succ _) _).set (p := ⟨w.heap.size + 1, 2, none⟩) (Nat.le_succ _) _).set (p := ⟨w.heap.size + 1, 3, none⟩) (Nat.le_succ _) _).set (p := ⟨w.heap.size + 1, 4, none⟩) (Nat.le_succ _) _).set (p := ⟨w.heap.size + 1, 5, none⟩) (Nat.le_succ _) _).set (p := ⟨w.heap.size + 1, 6, none⟩) (Nat.le_succ _) _).set (p := ⟨w.heap.size + 1, 7, none⟩) (Nat.le_succ _) _)⟩
end Go.Proofs.YtfmalpnlencmbaaGreat

namespace Go.Proofs.YtfmalpnlencmbaaGreat
open Go.RowKit Go.Shelf
set_option maxRecDepth 20000 in
set_option maxHeartbeats 16000000 in
theorem fsum_raw (b0 b1 b2 b3 : Bool) (a0 a1 a2 a3 : Option Addr) (l0 k0 l1 k1 l2 k2 l3 k3 : Nat) (z0 z1 z2 z3 sb sc sd p1 p2 p3 s1 s2 R : Int) (w : World)
    (I0 : Hid (IsI w (.agg #[.bool b0, .slice a0 l0 k0]) z0)) (I1 : Hid (IsI w (.agg #[.bool b1, .slice a1 l1 k1]) z1)) (I2 : Hid (IsI w (.agg #[.bool b2, .slice a2 l2 k2]) z2)) (I3 : Hid (IsI w (.agg #[.bool b3, .slice a3 l3 k3]) z3)) (F1 : Hid (∀ w', Calls Tryz.prog 68 #[.int .i64 sb] w' fun e w'' => (∃ r, e = .returned r ∧ IsI w'' r (sb)) ∧ Ext w' w'')) (T1 : Hid (∀ r1 r2 w', IsI w' r1 z1 → IsI w' r2 sb → Calls Tryz.prog 124 #[r1, r2] w' fun e w'' => (∃ r, e = .returned r ∧ IsI w'' r (p1)) ∧ Ext w' w'')) (F2 : Hid (∀ w', Calls Tryz.prog 68 #[.int .i64 sc] w' fun e w'' => (∃ r, e = .returned r ∧ IsI w'' r (sc)) ∧ Ext w' w'')) (T2 : Hid (∀ r1 r2 w', IsI w' r1 z2 → IsI w' r2 sc → Calls Tryz.prog 124 #[r1, r2] w' fun e w'' => (∃ r, e = .returned r ∧ IsI w'' r (p2)) ∧ Ext w' w'')) (F3 : Hid (∀ w', Calls Tryz.prog 68 #[.int .i64 sd] w' fun e w'' => (∃ r, e = .returned r ∧ IsI w'' r (sd)) ∧ Ext w' w'')) (T3 : Hid (∀ r1 r2 w', IsI w' r1 z3 → IsI w' r2 sd → Calls Tryz.prog 124 #[r1, r2] w' fun e w'' => (∃ r, e = .returned r ∧ IsI w'' r (p3)) ∧ Ext w' w'')) (P1 : Hid (∀ r1 r2 w', IsI w' r1 z0 → IsI w' r2 p1 → Calls Tryz.prog 118 #[r1, r2] w' fun e w'' => (∃ r, e = .returned r ∧ IsI w'' r (s1)) ∧ Ext w' w'')) (P2 : Hid (∀ r1 r2 w', IsI w' r1 p2 → IsI w' r2 p3 → Calls Tryz.prog 118 #[r1, r2] w' fun e w'' => (∃ r, e = .returned r ∧ IsI w'' r (s2)) ∧ Ext w' w'')) (P3 : Hid (∀ r1 r2 w', IsI w' r1 s1 → IsI w' r2 s2 → Calls Tryz.prog 118 #[r1, r2] w' fun e w'' => (∃ r, e = .returned r ∧ IsI w'' r (R)) ∧ Ext w' w'')) :
    Calls Tryz.prog 144 #[.agg #[.bool b0, .slice a0 l0 k0], .agg #[.bool b1, .slice a1 l1 k1], .int .i64 sb, .agg #[.bool b2, .slice a2 l2 k2], .int .i64 sc, .agg #[.bool b3, .slice a3 l3 k3], .int .i64 sd] w fun e w' => (∃ r, e = .returned r ∧ IsI w' r R) ∧ Ext w w' := by
  have E0 : Hid (Ext w (((((w.alloc (.cells #[.bool b0, .slice a0 l0 k0] 61)).alloc (.cells #[.bool b1, .slice a1 l1 k1] 61)).alloc (.cells #[.bool b2, .slice a2 l2 k2] 61)).alloc (.cells #[.bool b3, .slice a3 l3 k3] 61)).alloc (.cells #[.bool false, .slice none 0 0] 61))) := (((((Ext.refl _).alloc _).alloc _).alloc _).alloc _).alloc _
  have B0 : Hid (HV (((((w.alloc (.cells #[.bool b0, .slice a0 l0 k0] 61)).alloc (.cells #[.bool b1, .slice a1 l1 k1] 61)).alloc (.cells #[.bool b2, .slice a2 l2 k2] 61)).alloc (.cells #[.bool b3, .slice a3 l3 k3] 61)).alloc (.cells #[.bool false, .slice none 0 0] 61)) (w.heap.size) [.bool b0, .slice a0 l0 k0]) := (HV.alloc (HV.alloc (HV.alloc (HV.alloc (hv_at rfl) _) _) _) _)
  have J0 : Hid (IsI (((((w.alloc (.cells #[.bool b0, .slice a0 l0 k0] 61)).alloc (.cells #[.bool b1, .slice a1 l1 k1] 61)).alloc (.cells #[.bool b2, .slice a2 l2 k2] 61)).alloc (.cells #[.bool b3, .slice a3 l3 k3] 61)).alloc (.cells #[.bool false, .slice none 0 0] 61)) (.agg #[.bool b0, .slice a0 l0 k0]) z0) := I0.out.ext E0.out
  have B1 : Hid (HV (((((w.alloc (.cells #[.bool b0, .slice a0 l0 k0] 61)).alloc (.cells #[.bool b1, .slice a1 l1 k1] 61)).alloc (.cells #[.bool b2, .slice a2 l2 k2] 61)).alloc (.cells #[.bool b3, .slice a3 l3 k3] 61)).alloc (.cells #[.bool false, .slice none 0 0] 61)) (w.heap.size + 1) [.bool b1, .slice a1 l1 k1]) := (HV.alloc (HV.alloc (HV.alloc (hv_at (by simp)) _) _) _)
  have J1 : Hid (IsI (((((w.alloc (.cells #[.bool b0, .slice a0 l0 k0] 61)).alloc (.cells #[.bool b1, .slice a1 l1 k1] 61)).alloc (.cells #[.bool b2, .slice a2 l2 k2] 61)).alloc (.cells #[.bool b3, .slice a3 l3 k3] 61)).alloc (.cells #[.bool false, .slice none 0 0] 61)) (.agg #[.bool b1, .slice a1 l1 k1]) z1) := I1.out.ext E0.out
  have B2 : Hid (HV (((((w.alloc (.cells #[.bool b0, .slice a0 l0 k0] 61)).alloc (.cells #[.bool b1, .slice a1 l1 k1] 61)).alloc (.cells #[.bool b2, .slice a2 l2 k2] 61)).alloc (.cells #[.bool b3, .slice a3 l3 k3] 61)).alloc (.cells #[.bool false, .slice none 0 0] 61)) (w.heap.size + 1 + 1) [.bool b2, .slice a2 l2 k2]) := (HV.alloc (HV.alloc (hv_at (by simp)) _) _)
  have J2 : Hid (IsI (((((w.alloc (.cells #[.bool b0, .slice a0 l0 k0] 61)).alloc (.cells #[.bool b1, .slice a1 l1 k1] 61)).alloc (.cells #[.bool b2, .slice a2 l2 k2] 61)).alloc (.cells #[.bool b3, .slice a3 l3 k3] 61)).alloc (.cells #[.bool false, .slice none 0 0] 61)) (.agg #[.bool b2, .slice a2 l2 k2]) z2) := I2.out.ext E0.out
  have B3 : Hid (HV (((((w.alloc (.cells #[.bool b0, .slice a0 l0 k0] 61)).alloc (.cells #[.bool b1, .slice a1 l1 k1] 61)).alloc (.cells #[.bool b2, .slice a2 l2 k2] 61)).alloc (.cells #[.bool b3, .slice a3 l3 k3] 61)).alloc (.cells #[.bool false, .slice none 0 0] 61)) (w.heap.size + 1 + 1 + 1) [.bool b3, .slice a3 l3 k3]) := (HV.alloc (hv_at (by simp)) _)
  have J3 : Hid (IsI (((((w.alloc (.cells #[.bool b0, .slice a0 l0 k0] 61)).alloc (.cells #[.bool b1, .slice a1 l1 k1] 61)).alloc (.cells #[.bool b2, .slice a2 l2 k2] 61)).alloc (.cells #[.bool b3, .slice a3 l3 k3] 61)).alloc (.cells #[.bool false, .slice none 0 0] 61)) (.agg #[.bool b3, .slice a3 l3 k3]) z3) := I3.out.ext E0.out
  have Br : Hid (HV (((((w.alloc (.cells #[.bool b0, .slice a0 l0 k0] 61)).alloc (.cells #[.bool b1, .slice a1 l1 k1] 61)).alloc (.cells #[.bool b2, .slice a2 l2 k2] 61)).alloc (.cells #[.bool b3, .slice a3 l3 k3] 61)).alloc (.cells #[.bool false, .slice none 0 0] 61)) (w.heap.size + 1 + 1 + 1 + 1) [.bool false, .slice none 0 0]) := hv_at (by simp)
  clear I0 I1 I2 I3
  go_enter Tryz.func144, Tryz.ntmps144
  go_upto_region 1 with fail
  generalize (((((w.alloc (.cells #[.bool b0, .slice a0 l0 k0] 61)).alloc (.cells #[.bool b1, .slice a1 l1 k1] 61)).alloc (.cells #[.bool b2, .slice a2 l2 k2] 61)).alloc (.cells #[.bool b3, .slice a3 l3 k3] 61)).alloc (.cells #[.bool false, .slice none 0 0] 61)) = wB at *
  have q0a := B0.out.c 0 rfl
  have q0b := B0.out.c 1 rfl
  have l0w := B0.out.1
  have q1a := B1.out.c 0 rfl
  have q1b := B1.out.c 1 rfl
  have l1w := B1.out.1
  have q2a := B2.out.c 0 rfl
  have q2b := B2.out.c 1 rfl
  have l2w := B2.out.1
  have q3a := B3.out.c 0 rfl
  have q3b := B3.out.c 1 rfl
  have l3w := B3.out.1
  go_region_held3 (fun w' => w'.cell? ⟨w.heap.size, 0, none⟩ = some (.bool b0) ∧ w'.cell? ⟨w.heap.size, 1, none⟩ = some (.slice a0 l0 k0) ∧ w'.cell? ⟨w.heap.size + 1, 0, none⟩ = some (.bool b1) ∧ w'.cell? ⟨w.heap.size + 1, 1, none⟩ = some (.slice a1 l1 k1) ∧ w'.cell? ⟨w.heap.size + 1 + 1, 0, none⟩ = some (.bool b2) ∧ w'.cell? ⟨w.heap.size + 1 + 1, 1, none⟩ = some (.slice a2 l2 k2) ∧ w'.cell? ⟨w.heap.size + 1 + 1 + 1, 0, none⟩ = some (.bool b3) ∧ w'.cell? ⟨w.heap.size + 1 + 1 + 1, 1, none⟩ = some (.slice a3 l3 k3)) (first | (go_keep; done) | (refine ⟨?_, ?_, ?_, ?_, ?_, ?_, ?_, ?_⟩ <;> (rw [World.cell?_setCell_far _ _ _ _ (by dsimp only; omega), World.cell?_setCell_far _ _ _ _ (by dsimp only; omega)]; with_reducible assumption)) | skip) (first | (go_at_call_of 68 (Value.int IntKind.i64 sb); refine (F1.out _).mono ?_; rintro e w1 ⟨⟨r1, rfl, h1⟩, x1⟩; have C1 : Ext wB w1 := Ext.trans (by repeat (first | with_reducible assumption | with_reducible exact Ext.refl _ | with_reducible refine Ext.drew ?_ | with_reducible refine Ext.drewN ?_ _ | with_reducible refine Ext.alloc ?_ _ | with_reducible refine Ext.set ?_ (by first | exact Nat.le_refl _ | (dsimp only; omega) | (simp; done)) _)) x1; have Y1 : Ext wB w1 := C1; have q0a1 := (B0.out.ext Y1).c 0 rfl; have q0b1 := (B0.out.ext Y1).c 1 rfl; have l01 := (B0.out.ext Y1).1; have q1a1 := (B1.out.ext Y1).c 0 rfl; have q1b1 := (B1.out.ext Y1).c 1 rfl; have l11 := (B1.out.ext Y1).1; have q2a1 := (B2.out.ext Y1).c 0 rfl; have q2b1 := (B2.out.ext Y1).c 1 rfl; have l21 := (B2.out.ext Y1).1; have q3a1 := (B3.out.ext Y1).c 0 rfl; have q3b1 := (B3.out.ext Y1).c 1 rfl; have l31 := (B3.out.ext Y1).1) | (go_at_call_of 124 (Value.agg #[Value.bool b1, Value.slice a1 l1 k1]); refine (T1.out _ _ _ (J1.out.ext (Y1.trans (by repeat (first | with_reducible assumption | with_reducible exact Ext.refl _ | with_reducible refine Ext.drew ?_ | with_reducible refine Ext.drewN ?_ _ | with_reducible refine Ext.alloc ?_ _ | with_reducible refine Ext.set ?_ (by first | exact Nat.le_refl _ | (dsimp only; omega) | (simp; done)) _)))) (h1.ext (by repeat (first | with_reducible assumption | with_reducible exact Ext.refl _ | with_reducible refine Ext.drew ?_ | with_reducible refine Ext.drewN ?_ _ | with_reducible refine Ext.alloc ?_ _ | with_reducible refine Ext.set ?_ (by first | exact Nat.le_refl _ | (dsimp only; omega) | (simp; done)) _)))).mono ?_; rintro e w2 ⟨⟨r2, rfl, h2⟩, x2⟩; have C2 : Ext w1 w2 := Ext.trans (by repeat (first | with_reducible assumption | with_reducible exact Ext.refl _ | with_reducible refine Ext.drew ?_ | with_reducible refine Ext.drewN ?_ _ | with_reducible refine Ext.alloc ?_ _ | with_reducible refine Ext.set ?_ (by first | exact Nat.le_refl _ | (dsimp only; omega) | (simp; done)) _)) x2; have Y2 : Ext wB w2 := Y1.trans C2; have q0a2 := (B0.out.ext Y2).c 0 rfl; have q0b2 := (B0.out.ext Y2).c 1 rfl; have l02 := (B0.out.ext Y2).1; have q1a2 := (B1.out.ext Y2).c 0 rfl; have q1b2 := (B1.out.ext Y2).c 1 rfl; have l12 := (B1.out.ext Y2).1; have q2a2 := (B2.out.ext Y2).c 0 rfl; have q2b2 := (B2.out.ext Y2).c 1 rfl; have l22 := (B2.out.ext Y2).1; have q3a2 := (B3.out.ext Y2).c 0 rfl; have q3b2 := (B3.out.ext Y2).c 1 rfl; have l32 := (B3.out.ext Y2).1) | (go_at_call_of 118 (Value.agg #[Value.bool b0, Value.slice a0 l0 k0]); refine (P1.out _ _ _ (J0.out.ext (Y2.trans (by repeat (first | with_reducible assumption | with_reducible exact Ext.refl _ | with_reducible refine Ext.drew ?_ | with_reducible refine Ext.drewN ?_ _ | with_reducible refine Ext.alloc ?_ _ | with_reducible refine Ext.set ?_ (by first | exact Nat.le_refl _ | (dsimp only; omega) | (simp; done)) _)))) (h2.ext (by repeat (first | with_reducible assumption | with_reducible exact Ext.refl _ | with_reducible refine Ext.drew ?_ | with_reducible refine Ext.drewN ?_ _ | with_reducible refine Ext.alloc ?_ _ | with_reducible refine Ext.set ?_ (by first | exact Nat.le_refl _ | (dsimp only; omega) | (simp; done)) _)))).mono ?_; rintro e w3 ⟨⟨r3, rfl, h3⟩, x3⟩; have C3 : Ext w2 w3 := Ext.trans (by repeat (first | with_reducible assumption | with_reducible exact Ext.refl _ | with_reducible refine Ext.drew ?_ | with_reducible refine Ext.drewN ?_ _ | with_reducible refine Ext.alloc ?_ _ | with_reducible refine Ext.set ?_ (by first | exact Nat.le_refl _ | (dsimp only; omega) | (simp; done)) _)) x3; have Y3 : Ext wB w3 := Y2.trans C3; have q0a3 := (B0.out.ext Y3).c 0 rfl; have q0b3 := (B0.out.ext Y3).c 1 rfl; have l03 := (B0.out.ext Y3).1; have q1a3 := (B1.out.ext Y3).c 0 rfl; have q1b3 := (B1.out.ext Y3).c 1 rfl; have l13 := (B1.out.ext Y3).1; have q2a3 := (B2.out.ext Y3).c 0 rfl; have q2b3 := (B2.out.ext Y3).c 1 rfl; have l23 := (B2.out.ext Y3).1; have q3a3 := (B3.out.ext Y3).c 0 rfl; have q3b3 := (B3.out.ext Y3).c 1 rfl; have l33 := (B3.out.ext Y3).1) | (go_at_call_of 68 (Value.int IntKind.i64 sc); refine (F2.out _).mono ?_; rintro e w4 ⟨⟨r4, rfl, h4⟩, x4⟩; have C4 : Ext w3 w4 := Ext.trans (by repeat (first | with_reducible assumption | with_reducible exact Ext.refl _ | with_reducible refine Ext.drew ?_ | with_reducible refine Ext.drewN ?_ _ | with_reducible refine Ext.alloc ?_ _ | with_reducible refine Ext.set ?_ (by first | exact Nat.le_refl _ | (dsimp only; omega) | (simp; done)) _)) x4; have Y4 : Ext wB w4 := Y3.trans C4; have q0a4 := (B0.out.ext Y4).c 0 rfl; have q0b4 := (B0.out.ext Y4).c 1 rfl; have l04 := (B0.out.ext Y4).1; have q1a4 := (B1.out.ext Y4).c 0 rfl; have q1b4 := (B1.out.ext Y4).c 1 rfl; have l14 := (B1.out.ext Y4).1; have q2a4 := (B2.out.ext Y4).c 0 rfl; have q2b4 := (B2.out.ext Y4).c 1 rfl; have l24 := (B2.out.ext Y4).1; have q3a4 := (B3.out.ext Y4).c 0 rfl; have q3b4 := (B3.out.ext Y4).c 1 rfl; have l34 := (B3.out.ext Y4).1) | (go_at_call_of 124 (Value.agg #[Value.bool b2, Value.slice a2 l2 k2]); refine (T2.out _ _ _ (J2.out.ext (Y4.trans (by repeat (first | with_reducible assumption | with_reducible exact Ext.refl _ | with_reducible refine Ext.drew ?_ | with_reducible refine Ext.drewN ?_ _ | with_reducible refine Ext.alloc ?_ _ | with_reducible refine Ext.set ?_ (by first | exact Nat.le_refl _ | (dsimp only; omega) | (simp; done)) _)))) (h4.ext (by repeat (first | with_reducible assumption | with_reducible exact Ext.refl _ | with_reducible refine Ext.drew ?_ | with_reducible refine Ext.drewN ?_ _ | with_reducible refine Ext.alloc ?_ _ | with_reducible refine Ext.set ?_ (by first | exact Nat.le_refl _ | (dsimp only; omega) | (simp; done)) _)))).mono ?_; rintro e w5 ⟨⟨r5, rfl, h5⟩, x5⟩; have C5 : Ext w4 w5 := Ext.trans (by repeat (first | with_reducible assumption | with_reducible exact Ext.refl _ | with_reducible refine Ext.drew ?_ | with_reducible refine Ext.drewN ?_ _ | with_reducible refine Ext.alloc ?_ _ | with_reducible refine Ext.set ?_ (by first | exact Nat.le_refl _ | (dsimp only; omega) | (simp; done)) _)) x5; have Y5 : Ext wB w5 := Y4.trans C5; have q0a5 := (B0.out.ext Y5).c 0 rfl; have q0b5 := (B0.out.ext Y5).c 1 rfl; have l05 := (B0.out.ext Y5).1; have q1a5 := (B1.out.ext Y5).c 0 rfl; have q1b5 := (B1.out.ext Y5).c 1 rfl; have l15 := (B1.out.ext Y5).1; have q2a5 := (B2.out.ext Y5).c 0 rfl; have q2b5 := (B2.out.ext Y5).c 1 rfl; have l25 := (B2.out.ext Y5).1; have q3a5 := (B3.out.ext Y5).c 0 rfl; have q3b5 := (B3.out.ext Y5).c 1 rfl; have l35 := (B3.out.ext Y5).1) | (go_at_call_of 68 (Value.int IntKind.i64 sd); refine (F3.out _).mono ?_; rintro e w6 ⟨⟨r6, rfl, h6⟩, x6⟩; have C6 : Ext w5 w6 := Ext.trans (by repeat (first | with_reducible assumption | with_reducible exact Ext.refl _ | with_reducible refine Ext.drew ?_ | with_reducible refine Ext.drewN ?_ _ | with_reducible refine Ext.alloc ?_ _ | with_reducible refine Ext.set ?_ (by first | exact Nat.le_refl _ | (dsimp only; omega) | (simp; done)) _)) x6; have Y6 : Ext wB w6 := Y5.trans C6; have q0a6 := (B0.out.ext Y6).c 0 rfl; have q0b6 := (B0.out.ext Y6).c 1 rfl; have l06 := (B0.out.ext Y6).1; have q1a6 := (B1.out.ext Y6).c 0 rfl; have q1b6 := (B1.out.ext Y6).c 1 rfl; have l16 := (B1.out.ext Y6).1; have q2a6 := (B2.out.ext Y6).c 0 rfl; have q2b6 := (B2.out.ext Y6).c 1 rfl; have l26 := (B2.out.ext Y6).1; have q3a6 := (B3.out.ext Y6).c 0 rfl; have q3b6 := (B3.out.ext Y6).c 1 rfl; have l36 := (B3.out.ext Y6).1) | (go_at_call_of 124 (Value.agg #[Value.bool b3, Value.slice a3 l3 k3]); refine (T3.out _ _ _ (J3.out.ext (Y6.trans (by repeat (first | with_reducible assumption | with_reducible exact Ext.refl _ | with_reducible refine Ext.drew ?_ | with_reducible refine Ext.drewN ?_ _ | with_reducible refine Ext.alloc ?_ _ | with_reducible refine Ext.set ?_ (by first | exact Nat.le_refl _ | (dsimp only; omega) | (simp; done)) _)))) (h6.ext (by repeat (first | with_reducible assumption | with_reducible exact Ext.refl _ | with_reducible refine Ext.drew ?_ | with_reducible refine Ext.drewN ?_ _ | with_reducible refine Ext.alloc ?_ _ | with_reducible refine Ext.set ?_ (by first | exact Nat.le_refl _ | (dsimp only; omega) | (simp; done)) _)))).mono ?_; rintro e w7 ⟨⟨r7, rfl, h7⟩, x7⟩; have C7 : Ext w6 w7 := Ext.trans (by repeat (first | with_reducible assumption | with_reducible exact Ext.refl _ | with_reducible refine Ext.drew ?_ | with_reducible refine Ext.drewN ?_ _ | with_reducible refine Ext.alloc ?_ _ | with_reducible refine Ext.set ?_ (by first | exact Nat.le_refl _ | (dsimp only; omega) | (simp; done)) _)) x7; have Y7 : Ext wB w7 := Y6.trans C7; have q0a7 := (B0.out.ext Y7).c 0 rfl; have q0b7 := (B0.out.ext Y7).c 1 rfl; have l07 := (B0.out.ext Y7).1; have q1a7 := (B1.out.ext Y7).c 0 rfl; have q1b7 := (B1.out.ext Y7).c 1 rfl; have l17 := (B1.out.ext Y7).1; have q2a7 := (B2.out.ext Y7).c 0 rfl; have q2b7 := (B2.out.ext Y7).c 1 rfl; have l27 := (B2.out.ext Y7).1; have q3a7 := (B3.out.ext Y7).c 0 rfl; have q3b7 := (B3.out.ext Y7).c 1 rfl; have l37 := (B3.out.ext Y7).1) | (go_at_call_of 118 (r5); refine (P2.out _ _ _ (h5.ext ((C6.trans C7).trans (by repeat (first | with_reducible assumption | with_reducible exact Ext.refl _ | with_reducible refine Ext.drew ?_ | with_reducible refine Ext.drewN ?_ _ | with_reducible refine Ext.alloc ?_ _ | with_reducible refine Ext.set ?_ (by first | exact Nat.le_refl _ | (dsimp only; omega) | (simp; done)) _)))) (h7.ext (by repeat (first | with_reducible assumption | with_reducible exact Ext.refl _ | with_reducible refine Ext.drew ?_ | with_reducible refine Ext.drewN ?_ _ | with_reducible refine Ext.alloc ?_ _ | with_reducible refine Ext.set ?_ (by first | exact Nat.le_refl _ | (dsimp only; omega) | (simp; done)) _)))).mono ?_; rintro e w8 ⟨⟨r8, rfl, h8⟩, x8⟩; have C8 : Ext w7 w8 := Ext.trans (by repeat (first | with_reducible assumption | with_reducible exact Ext.refl _ | with_reducible refine Ext.drew ?_ | with_reducible refine Ext.drewN ?_ _ | with_reducible refine Ext.alloc ?_ _ | with_reducible refine Ext.set ?_ (by first | exact Nat.le_refl _ | (dsimp only; omega) | (simp; done)) _)) x8; have Y8 : Ext wB w8 := Y7.trans C8; have q0a8 := (B0.out.ext Y8).c 0 rfl; have q0b8 := (B0.out.ext Y8).c 1 rfl; have l08 := (B0.out.ext Y8).1; have q1a8 := (B1.out.ext Y8).c 0 rfl; have q1b8 := (B1.out.ext Y8).c 1 rfl; have l18 := (B1.out.ext Y8).1; have q2a8 := (B2.out.ext Y8).c 0 rfl; have q2b8 := (B2.out.ext Y8).c 1 rfl; have l28 := (B2.out.ext Y8).1; have q3a8 := (B3.out.ext Y8).c 0 rfl; have q3b8 := (B3.out.ext Y8).c 1 rfl; have l38 := (B3.out.ext Y8).1) | (go_at_call_of 118 (r3); refine (P3.out _ _ _ (h3.ext (((((C4.trans C5).trans C6).trans C7).trans C8).trans (by repeat (first | with_reducible assumption | with_reducible exact Ext.refl _ | with_reducible refine Ext.drew ?_ | with_reducible refine Ext.drewN ?_ _ | with_reducible refine Ext.alloc ?_ _ | with_reducible refine Ext.set ?_ (by first | exact Nat.le_refl _ | (dsimp only; omega) | (simp; done)) _)))) (h8.ext (by repeat (first | with_reducible assumption | with_reducible exact Ext.refl _ | with_reducible refine Ext.drew ?_ | with_reducible refine Ext.drewN ?_ _ | with_reducible refine Ext.alloc ?_ _ | with_reducible refine Ext.set ?_ (by first | exact Nat.le_refl _ | (dsimp only; omega) | (simp; done)) _)))).mono ?_; rintro e w9 ⟨⟨r9, rfl, h9⟩, x9⟩; have C9 : Ext w8 w9 := Ext.trans (by repeat (first | with_reducible assumption | with_reducible exact Ext.refl _ | with_reducible refine Ext.drew ?_ | with_reducible refine Ext.drewN ?_ _ | with_reducible refine Ext.alloc ?_ _ | with_reducible refine Ext.set ?_ (by first | exact Nat.le_refl _ | (dsimp only; omega) | (simp; done)) _)) x9; have Y9 : Ext wB w9 := Y8.trans C9; have q0a9 := (B0.out.ext Y9).c 0 rfl; have q0b9 := (B0.out.ext Y9).c 1 rfl; have l09 := (B0.out.ext Y9).1; have q1a9 := (B1.out.ext Y9).c 0 rfl; have q1b9 := (B1.out.ext Y9).c 1 rfl; have l19 := (B1.out.ext Y9).1; have q2a9 := (B2.out.ext Y9).c 0 rfl; have q2b9 := (B2.out.ext Y9).c 1 rfl; have l29 := (B2.out.ext Y9).1; have q3a9 := (B3.out.ext Y9).c 0 rfl; have q3b9 := (B3.out.ext Y9).c 1 rfl; have l39 := (B3.out.ext Y9).1; obtain ⟨bb, ba, bl, bk, rfl⟩ := h9.form; have KR : Hid (IsI w9 (.agg #[.bool bb, .slice ba bl bk]) R) := h9; clear h9; have rz0 := (Br.out.ext Y9).c 0 rfl; have y0 := (Br.out.ext Y9).f 0 rfl; have rz1 := (Br.out.ext Y9).c 1 rfl; have y1 := (Br.out.ext Y9).f 1 rfl; have rl := (Br.out.ext Y9).1))
  all_goals
    have RB := Br.out.ext Y9
    have E1 : Ext w w9 := E0.out.trans Y9
    go_wp2_with fail
    exact bodyPost_ret (v := .agg #[.bool bb, .slice ba bl bk]) (by simp [results, Tryz.results144, go_sem, rz0, rz1]) rfl ⟨⟨_, rfl, KR.out.put2 RB⟩, (E1.set (p := ⟨w.heap.size + 1 + 1 + 1 + 1, 0, none⟩) (by dsimp only; omega) _).set (p := ⟨w.heap.size + 1 + 1 + 1 + 1, 1, none⟩) (by dsimp only; omega) _⟩
end Go.Proofs.YtfmalpnlencmbaaGreat
