/- The reference of layer 1: OverRoot of a whole number by the root of one. gimbalref3: units of vectors. -/
import Derived.Test.YteimgbafclhkpaaMg44
import Derived.Test.YteimgbafclhkpaaV8m
import Derived.Test.YteimgbafclhkpaaR3cm
namespace Go.Proofs.Yteimgbafclhkpaa
open Go.RowKit
theorem rootQ_mul {N d s g : Nat} (hg : 0 < g) (h : RootQ N d s) : RootQ (g * N) (g * d) s := by
  obtain ⟨h1, h2, h3, h4⟩ := h
  have e1 : 4 * (g * N) = g * (4 * N) := by grind
  have e2 : (2 * s + 1) * (2 * s + 1) * (g * d) = g * ((2 * s + 1) * (2 * s + 1) * d) := by grind
  have e3 : (2 * s - 1) * (2 * s - 1) * (g * d) = g * ((2 * s - 1) * (2 * s - 1) * d) := by
    generalize 2 * s - 1 = q
    grind
  unfold RootQ
  rw [e1, e2, e3]
  refine ⟨Nat.mul_le_mul_left g h1, ?_, fun h => h3 (Nat.eq_of_mul_eq_mul_left hg h), fun hs h => h4 hs (Nat.eq_of_mul_eq_mul_left hg h)⟩
  rcases h2 with h2 | h2
  · exact .inl h2
  · exact .inr (Nat.mul_le_mul_left g h2)
theorem rootq_has (p n : Nat) (h0 : 0 < n) : ∃ k, RootQ p n k := by
  obtain ⟨k, k1, k2⟩ := exists_sqrt (p / n)
  have hm : k * k * n ≤ p := by rw [← Nat.le_div_iff_mul_le h0]; exact k1
  have hM : p < (k + 1) * (k + 1) * n := by rw [← Nat.div_lt_iff_lt_mul h0]; exact k2
  by_cases h : (2 * k + 1) * (2 * k + 1) * n < 4 * p ∨ (2 * k + 1) * (2 * k + 1) * n = 4 * p ∧ k % 2 = 1
  · exact ⟨k + 1, rootQ_up hM h⟩
  · exact ⟨k, rootQ_down h0 hm (by omega)⟩
theorem overroot_any (x : Int) (d k : Nat) (r1 r2 : Value) (w : World) (h1 : IsI w r1 x) (h2 : IsI w r2 (d : Int)) (hd : d ≠ 0) (hk : 3 ≤ k) (hk2 : k ≤ 150) (f1 : Fit k x) (f2 : Fit k (d : Int)) :
    Calls Try.prog 22 #[r1, r2] w fun e w' => (∃ (r : Value) (s : Nat), e = .returned r ∧ IsI w' r (if x < 0 then -(s : Int) else (s : Int)) ∧ RootQ (x.natAbs * x.natAbs) d s) ∧ Ext w w' := by
  have fx := f1.mul f1
  have sx : SmallI x := f1.small (by omega)
  have sxx : SmallI (x * x) := fx.small (by omega)
  have fd : Fit (k + k) (d : Int) := f2.le (by omega)
  have ex : x * x = ((x.natAbs * x.natAbs : Nat) : Int) := Int.natAbs_mul_self.symm
  obtain ⟨g, hg⟩ : ∃ g, g = Nat.gcd (x * x).natAbs d := ⟨_, rfl⟩
  have hg0 : 0 < g := by rw [hg]; exact Nat.gcd_pos_of_pos_right _ (by omega)
  have en : (x * x).natAbs = x.natAbs * x.natAbs := Int.natAbs_mul x x
  have dv1 : g ∣ x.natAbs * x.natAbs := by rw [hg, ← en]; exact Nat.gcd_dvd_left _ _
  have dv2 : g ∣ d := by rw [hg]; exact Nat.gcd_dvd_right _ _
  obtain ⟨N', hN⟩ := dv1
  obtain ⟨D', hD⟩ := dv2
  have hD0 : D' ≠ 0 := by rintro rfl; omega
  have eN : x * x / (g : Int) = (N' : Int) := by
    rw [ex, hN]
    have : (((g * N' : Nat) : Int)) = (g : Int) * (N' : Int) := by simp
    rw [this]
    exact Int.mul_ediv_cancel_left _ (by omega)
  have eD : d / g = D' := by rw [hD]; exact Nat.mul_div_cancel_left _ hg0
  have leN : N' ≤ x.natAbs * x.natAbs := by rw [hN]; exact Nat.le_mul_of_pos_left _ hg0
  have leD : D' ≤ d := by
    have := Nat.le_mul_of_pos_left D' hg0
    omega
  have fN : Fit (k + k) (N' : Int) := fx.of_le (by rw [en]; exact leN)
  have fD : Fit (k + k) (D' : Int) := fd.of_le leD
  obtain ⟨s, hs⟩ : ∃ s, RootQ N' D' s := rootq_has N' D' (by omega)
  have hS : RootQ (x.natAbs * x.natAbs) d s := by
    have := rootQ_mul hg0 hs
    rw [← hN, ← hD] at this
    exact this
  obtain ⟨u, rfl, ku⟩ := h1
  obtain ⟨v, rfl, kv⟩ := h2
  obtain ⟨a1, l1, c1, e1⟩ := ku.isSlice
  obtain ⟨a2, l2, c2, e2⟩ := kv.isSlice
  subst e1 e2
  have I1 : IsI w (.agg #[.bool (decide (x < 0)), .slice a1 l1 c1]) x := ⟨_, rfl, ku⟩
  have kv' : IsN w (.slice a2 l2 c2) d := kv
  have R := over_cut (decide (x < 0)) (decide ((d : Int) < 0)) a1 a2 l1 c1 l2 c2 x d s (N' : Int) D' w I1 kv'
    (fun r1 r2 w' i1 i2 => times_isI x x r1 r2 w' i1 i2 sx sx sxx)
    (fun r v w' i1 i2 => by
      have h := make_isQ (x * x) d (k + k) r v w' i1 i2 hd (by omega) fx fd
      rw [← hg, eN, eD] at h
      exact h)
    (fun q w' hq => by
      refine (rootnearq_any N' D' (k + k) q w' hq hD0 (by omega) (by omega) fN fD).mono ?_
      rintro e w'' ⟨⟨r, s', he, hr, hs'⟩, hx⟩
      obtain rfl : s' = s := rootQ_unique (by omega) hs' hs
      exact ⟨⟨r, he, hr⟩, hx⟩)
    (fun r w' hr => neg_isI (s : Int) r w' hr (by
      have : s ≤ x.natAbs := by
        apply Nat.le_of_not_gt
        intro hc
        obtain ⟨_, q, _, _⟩ := hS
        rcases q with q | q
        · omega
        · have m1 : (2 * x.natAbs + 1) * (2 * x.natAbs + 1) ≤ (2 * s - 1) * (2 * s - 1) := Nat.mul_le_mul (by omega) (by omega)
          have m2 : (2 * x.natAbs + 1) * (2 * x.natAbs + 1) * 1 ≤ (2 * s - 1) * (2 * s - 1) * d := Nat.mul_le_mul m1 (by omega)
          have e : (2 * x.natAbs + 1) * (2 * x.natAbs + 1) = 4 * (x.natAbs * x.natAbs) + 4 * x.natAbs + 1 := by grind
          omega
      exact (f1.of_le (y := (s : Int)) (by simpa using this)).small (by omega)))
  refine R.mono ?_
  rintro e w' ⟨⟨r, he, hr⟩, hx⟩
  refine ⟨⟨r, s, he, ?_, hS⟩, hx⟩
  by_cases hx0 : x < 0
  · rw [if_pos hx0]
    rw [decide_eq_true hx0] at hr
    exact hr
  · rw [if_neg hx0]
    rw [decide_eq_false hx0] at hr
    exact hr
end Go.Proofs.Yteimgbafclhkpaa

namespace Go.Proofs.Yteimgbafclhkpaa
open Go.RowKit Go.Shelf
set_option maxRecDepth 20000 in
set_option maxHeartbeats 16000000 in
theorem runit_raw (a b c x0 x1 x2 t0 t1 t2 p0 p1 p2 e0 e1 e2 N s0 s1 s2 es : Int) (w : World) (HD : Hid (∀ w', Calls Try.prog 19 #[.agg #[.int .i64 a, .int .i64 b, .int .i64 c], .agg #[.int .i64 a, .int .i64 b, .int .i64 c]] w' fun e w'' => (∃ r, e = .returned r ∧ IsI w'' r (N)) ∧ Ext w' w'')) (HZ : Hid (∀ r w', IsI w' r N → Calls Try.prog 20 #[r] w' fun e w'' => e = .returned (.bool false) ∧ Ext w' w'')) (F0 : Hid (∀ w', Calls Try.prog 24 #[.int .i64 a] w' fun e w'' => (∃ r, e = .returned r ∧ IsI w'' r (a)) ∧ Ext w' w'')) (L0 : Hid (∀ r w', IsI w' r a → Calls Try.prog 23 #[r, .int .i64 30] w' fun e w'' => (∃ r, e = .returned r ∧ IsI w'' r (x0)) ∧ Ext w' w'')) (O0 : Hid (∀ r1 r2 w', IsI w' r1 x0 → IsI w' r2 N → Calls Try.prog 22 #[r1, r2] w' fun e w'' => (∃ r, e = .returned r ∧ IsI w'' r (t0)) ∧ Ext w' w'')) (W0 : Hid (∀ r w', IsI w' r t0 → Calls Try.prog 21 #[r] w' fun e w'' => e = .returned (.tuple #[.int .i64 p0, .int .i64 e0]) ∧ Ext w' w'')) (F1 : Hid (∀ w', Calls Try.prog 24 #[.int .i64 b] w' fun e w'' => (∃ r, e = .returned r ∧ IsI w'' r (b)) ∧ Ext w' w'')) (L1 : Hid (∀ r w', IsI w' r b → Calls Try.prog 23 #[r, .int .i64 30] w' fun e w'' => (∃ r, e = .returned r ∧ IsI w'' r (x1)) ∧ Ext w' w'')) (O1 : Hid (∀ r1 r2 w', IsI w' r1 x1 → IsI w' r2 N → Calls Try.prog 22 #[r1, r2] w' fun e w'' => (∃ r, e = .returned r ∧ IsI w'' r (t1)) ∧ Ext w' w'')) (W1 : Hid (∀ r w', IsI w' r t1 → Calls Try.prog 21 #[r] w' fun e w'' => e = .returned (.tuple #[.int .i64 p1, .int .i64 e1]) ∧ Ext w' w'')) (F2 : Hid (∀ w', Calls Try.prog 24 #[.int .i64 c] w' fun e w'' => (∃ r, e = .returned r ∧ IsI w'' r (c)) ∧ Ext w' w'')) (L2 : Hid (∀ r w', IsI w' r c → Calls Try.prog 23 #[r, .int .i64 30] w' fun e w'' => (∃ r, e = .returned r ∧ IsI w'' r (x2)) ∧ Ext w' w'')) (O2 : Hid (∀ r1 r2 w', IsI w' r1 x2 → IsI w' r2 N → Calls Try.prog 22 #[r1, r2] w' fun e w'' => (∃ r, e = .returned r ∧ IsI w'' r (t2)) ∧ Ext w' w'')) (W2 : Hid (∀ r w', IsI w' r t2 → Calls Try.prog 21 #[r] w' fun e w'' => e = .returned (.tuple #[.int .i64 p2, .int .i64 e2]) ∧ Ext w' w'')) (HT : Hid (∀ w', Calls Try.prog 25 #[.int .i64 p0, .int .i64 e0, .int .i64 p1, .int .i64 e1, .int .i64 p2, .int .i64 e2] w' fun e w'' => e = .returned (.tuple #[.agg #[.int .i64 s0, .int .i64 s1, .int .i64 s2], .int .i64 es]) ∧ Ext w' w'')) :
    Calls Try.prog 7 #[.agg #[.int .i64 a, .int .i64 b, .int .i64 c]] w fun e w' => e = .returned (.tuple #[.agg #[.int .i64 s0, .int .i64 s1, .int .i64 s2], .int .i64 es]) ∧ Ext w w' := by
  have QB : Hid (HV ((w.alloc (.cells #[.int .i64 a, .int .i64 b, .int .i64 c] 24)).alloc (.cells #[.int .i64 0, .int .i64 0, .int .i64 0] 24)) w.heap.size [.int .i64 a, .int .i64 b, .int .i64 c]) := HV.alloc (hv_at rfl) _
  have RB : Hid (HV ((w.alloc (.cells #[.int .i64 a, .int .i64 b, .int .i64 c] 24)).alloc (.cells #[.int .i64 0, .int .i64 0, .int .i64 0] 24)) (w.heap.size + 1) [.int .i64 0, .int .i64 0, .int .i64 0]) := hv_at (by simp)
  have E0 : Hid (Ext w ((w.alloc (.cells #[.int .i64 a, .int .i64 b, .int .i64 c] 24)).alloc (.cells #[.int .i64 0, .int .i64 0, .int .i64 0] 24))) := ((Ext.refl _).alloc _).alloc _
  go_enter Try.func7, Try.ntmps7
  go_upto_region 1 with fail
  generalize ((w.alloc (.cells #[.int .i64 a, .int .i64 b, .int .i64 c] 24)).alloc (.cells #[.int .i64 0, .int .i64 0, .int .i64 0] 24)) = wB at *
  have q0 := QB.out.c 0 rfl
  have q1 := QB.out.c 1 rfl
  have q2 := QB.out.c 2 rfl
  go_wp2_with fail
  refine (HD.out _).mono ?_
  rintro e w1 ⟨⟨r, rfl, hr⟩, x1⟩
  obtain ⟨u, hu, hk⟩ := hr
  obtain ⟨an, ln, cn, hau⟩ := hk.isSlice
  subst hau; subst hu
  have IN : Hid (IsI w1 (.agg #[.bool (decide (N < 0)), .slice an ln cn]) N) := ⟨_, rfl, hk⟩
  have QB : Hid (HV w1 w.heap.size [.int .i64 a, .int .i64 b, .int .i64 c]) := QB.out.ext x1
  have RB : Hid (HV w1 (w.heap.size + 1) [.int .i64 0, .int .i64 0, .int .i64 0]) := RB.out.ext x1
  have E0 : Hid (Ext w w1) := E0.out.trans x1
  clear hk x1 HD q0 q1 q2
  generalize decide (N < 0) = bn at *
  go_upto_region 2 with fail
  have NB : Hid (HV (w1.alloc (.cells #[.bool bn, .slice an ln cn] 53)) w1.heap.size [.bool bn, .slice an ln cn]) := hv_at rfl
  have lr : w.heap.size + 1 < w1.heap.size := RB.out.1
  have lq : w.heap.size < w1.heap.size := QB.out.1
  have IN : Hid (IsI (w1.alloc (.cells #[.bool bn, .slice an ln cn] 53)) (.agg #[.bool bn, .slice an ln cn]) N) := IN.out.ext ((Ext.refl _).alloc _)
  have QB : Hid (HV (w1.alloc (.cells #[.bool bn, .slice an ln cn] 53)) w.heap.size [.int .i64 a, .int .i64 b, .int .i64 c]) := QB.out.alloc _
  have RB : Hid (HV (w1.alloc (.cells #[.bool bn, .slice an ln cn] 53)) (w.heap.size + 1) [.int .i64 0, .int .i64 0, .int .i64 0]) := RB.out.alloc _
  have E0 : Hid (Ext w (w1.alloc (.cells #[.bool bn, .slice an ln cn] 53))) := E0.out.alloc _
  generalize w1.alloc (.cells #[.bool bn, .slice an ln cn] 53) = w2 at *
  generalize w1.heap.size = nn at *
  have n0 := NB.out.c 0 rfl
  have n1 := NB.out.c 1 rfl
  go_upto_region 4 with (go_at_call 20; refine (HZ.out _ _ IN.out).mono ?_; rintro e w3 ⟨rfl, x3⟩)
  have IN : Hid (IsI w3 (.agg #[.bool bn, .slice an ln cn]) N) := IN.out.ext x3
  have NB : Hid (HV w3 nn [.bool bn, .slice an ln cn]) := NB.out.ext x3
  have QB : Hid (HV w3 w.heap.size [.int .i64 a, .int .i64 b, .int .i64 c]) := QB.out.ext x3
  have RB : Hid (HV w3 (w.heap.size + 1) [.int .i64 0, .int .i64 0, .int .i64 0]) := RB.out.ext x3
  have E0 : Hid (Ext w w3) := E0.out.trans x3
  clear x3 n0 n1 HZ
  go_upto_region 4 with fail
  go_cut [5, 6] (fun v5 v6 wx => v5 = .int .i64 p0 ∧ v6 = .int .i64 e0 ∧ Hid (Ext w3 wx))
  case first =>
    have q0 := QB.out.c 0 rfl
    have n0 := NB.out.c 0 rfl
    have n1 := NB.out.c 1 rfl
    have lq1 := QB.out.1
    have ln1 := NB.out.1
    go_region_held3 (fun w' => w'.cell? ⟨w.heap.size, 0, none⟩ = some (.int .i64 a) ∧ w'.cell? ⟨nn, 0, none⟩ = some (.bool bn) ∧ w'.cell? ⟨nn, 1, none⟩ = some (.slice an ln cn)) (first | (go_keep; done) | skip) (first | (go_at_call 24; refine (F0.out _).mono ?_; rintro e wf0 ⟨⟨rf, rfl, hf⟩, xf⟩; have Yf : Ext w3 wf0 := Ext.trans (by repeat (first | with_reducible assumption | with_reducible exact Ext.refl _ | with_reducible refine Ext.drew ?_ | with_reducible refine Ext.drewN ?_ _ | with_reducible refine Ext.alloc ?_ _ | with_reducible refine Ext.set ?_ (by first | exact Nat.le_refl _ | (dsimp only; omega) | (simp; done)) _)) xf; have kf0 := (QB.out.ext Yf).c 0 rfl; have kf1 := (NB.out.ext Yf).c 0 rfl; have kf2 := (NB.out.ext Yf).c 1 rfl; have lf0 := (QB.out.ext Yf).1; have lf1 := (NB.out.ext Yf).1) | (go_at_call 23; refine (L0.out _ _ (hf.ext (by repeat (first | with_reducible assumption | with_reducible exact Ext.refl _ | with_reducible refine Ext.drew ?_ | with_reducible refine Ext.drewN ?_ _ | with_reducible refine Ext.alloc ?_ _ | with_reducible refine Ext.set ?_ (by first | exact Nat.le_refl _ | (dsimp only; omega) | (simp; done)) _)))).mono ?_; rintro e wl0 ⟨⟨rl, rfl, hl⟩, xl⟩; have Yl : Ext w3 wl0 := Ext.trans (by repeat (first | with_reducible assumption | with_reducible exact Ext.refl _ | with_reducible refine Ext.drew ?_ | with_reducible refine Ext.drewN ?_ _ | with_reducible refine Ext.alloc ?_ _ | with_reducible refine Ext.set ?_ (by first | exact Nat.le_refl _ | (dsimp only; omega) | (simp; done)) _)) xl; have kl0 := (QB.out.ext Yl).c 0 rfl; have kl1 := (NB.out.ext Yl).c 0 rfl; have kl2 := (NB.out.ext Yl).c 1 rfl; have ll0 := (QB.out.ext Yl).1; have ll1 := (NB.out.ext Yl).1) | (go_at_call 22; refine (O0.out _ _ _ (hl.ext (by repeat (first | with_reducible assumption | with_reducible exact Ext.refl _ | with_reducible refine Ext.drew ?_ | with_reducible refine Ext.drewN ?_ _ | with_reducible refine Ext.alloc ?_ _ | with_reducible refine Ext.set ?_ (by first | exact Nat.le_refl _ | (dsimp only; omega) | (simp; done)) _))) (IN.out.ext (Ext.trans Yl (by repeat (first | with_reducible assumption | with_reducible exact Ext.refl _ | with_reducible refine Ext.drew ?_ | with_reducible refine Ext.drewN ?_ _ | with_reducible refine Ext.alloc ?_ _ | with_reducible refine Ext.set ?_ (by first | exact Nat.le_refl _ | (dsimp only; omega) | (simp; done)) _))))).mono ?_; rintro e wo0 ⟨⟨ro, rfl, ho⟩, xo⟩; have Yo : Ext w3 wo0 := Ext.trans (by repeat (first | with_reducible assumption | with_reducible exact Ext.refl _ | with_reducible refine Ext.drew ?_ | with_reducible refine Ext.drewN ?_ _ | with_reducible refine Ext.alloc ?_ _ | with_reducible refine Ext.set ?_ (by first | exact Nat.le_refl _ | (dsimp only; omega) | (simp; done)) _)) xo; have ko0 := (QB.out.ext Yo).c 0 rfl; have ko1 := (NB.out.ext Yo).c 0 rfl; have ko2 := (NB.out.ext Yo).c 1 rfl; have lo0 := (QB.out.ext Yo).1; have lo1 := (NB.out.ext Yo).1) | (go_at_call 21; refine (W0.out _ _ (ho.ext (by repeat (first | with_reducible assumption | with_reducible exact Ext.refl _ | with_reducible refine Ext.drew ?_ | with_reducible refine Ext.drewN ?_ _ | with_reducible refine Ext.alloc ?_ _ | with_reducible refine Ext.set ?_ (by first | exact Nat.le_refl _ | (dsimp only; omega) | (simp; done)) _)))).mono ?_; rintro e wd0 ⟨rfl, xd⟩; have Yd : Ext w3 wd0 := Ext.trans (by repeat (first | with_reducible assumption | with_reducible exact Ext.refl _ | with_reducible refine Ext.drew ?_ | with_reducible refine Ext.drewN ?_ _ | with_reducible refine Ext.alloc ?_ _ | with_reducible refine Ext.set ?_ (by first | exact Nat.le_refl _ | (dsimp only; omega) | (simp; done)) _)) xd; have kd0 := (QB.out.ext Yd).c 0 rfl; have kd1 := (NB.out.ext Yd).c 0 rfl; have kd2 := (NB.out.ext Yd).c 1 rfl; have ld0 := (QB.out.ext Yd).1; have ld1 := (NB.out.ext Yd).1))
    all_goals
      go_wp2_with fail
      go_meet
      first | exact ⟨rfl, rfl, Yd⟩ | exact ⟨rfl, rfl, Yd.drew⟩
  case rest =>
    obtain ⟨rfl, rfl, hx⟩ := hcut
    have IN : Hid (IsI wc (.agg #[.bool bn, .slice an ln cn]) N) := IN.out.ext hx.out
    have NB : Hid (HV wc nn [.bool bn, .slice an ln cn]) := NB.out.ext hx.out
    have QB : Hid (HV wc w.heap.size [.int .i64 a, .int .i64 b, .int .i64 c]) := QB.out.ext hx.out
    have RB : Hid (HV wc (w.heap.size + 1) [.int .i64 0, .int .i64 0, .int .i64 0]) := RB.out.ext hx.out
    have E0 : Hid (Ext w wc) := E0.out.trans hx.out
    clear hx F0 L0 O0 W0
    generalize wc = wk0 at *
    go_upto_region 5 with fail
    go_cut [7, 8] (fun v5 v6 wx => v5 = .int .i64 p1 ∧ v6 = .int .i64 e1 ∧ Hid (Ext wk0 wx))
    case first =>
      have q0 := QB.out.c 1 rfl
      have n0 := NB.out.c 0 rfl
      have n1 := NB.out.c 1 rfl
      have lq1 := QB.out.1
      have ln1 := NB.out.1
      go_region_held3 (fun w' => w'.cell? ⟨w.heap.size, 1, none⟩ = some (.int .i64 b) ∧ w'.cell? ⟨nn, 0, none⟩ = some (.bool bn) ∧ w'.cell? ⟨nn, 1, none⟩ = some (.slice an ln cn)) (first | (go_keep; done) | skip) (first | (go_at_call 24; refine (F1.out _).mono ?_; rintro e wf1 ⟨⟨rf, rfl, hf⟩, xf⟩; have Yf : Ext wk0 wf1 := Ext.trans (by repeat (first | with_reducible assumption | with_reducible exact Ext.refl _ | with_reducible refine Ext.drew ?_ | with_reducible refine Ext.drewN ?_ _ | with_reducible refine Ext.alloc ?_ _ | with_reducible refine Ext.set ?_ (by first | exact Nat.le_refl _ | (dsimp only; omega) | (simp; done)) _)) xf; have kf0 := (QB.out.ext Yf).c 1 rfl; have kf1 := (NB.out.ext Yf).c 0 rfl; have kf2 := (NB.out.ext Yf).c 1 rfl; have lf0 := (QB.out.ext Yf).1; have lf1 := (NB.out.ext Yf).1) | (go_at_call 23; refine (L1.out _ _ (hf.ext (by repeat (first | with_reducible assumption | with_reducible exact Ext.refl _ | with_reducible refine Ext.drew ?_ | with_reducible refine Ext.drewN ?_ _ | with_reducible refine Ext.alloc ?_ _ | with_reducible refine Ext.set ?_ (by first | exact Nat.le_refl _ | (dsimp only; omega) | (simp; done)) _)))).mono ?_; rintro e wl1 ⟨⟨rl, rfl, hl⟩, xl⟩; have Yl : Ext wk0 wl1 := Ext.trans (by repeat (first | with_reducible assumption | with_reducible exact Ext.refl _ | with_reducible refine Ext.drew ?_ | with_reducible refine Ext.drewN ?_ _ | with_reducible refine Ext.alloc ?_ _ | with_reducible refine Ext.set ?_ (by first | exact Nat.le_refl _ | (dsimp only; omega) | (simp; done)) _)) xl; have kl0 := (QB.out.ext Yl).c 1 rfl; have kl1 := (NB.out.ext Yl).c 0 rfl; have kl2 := (NB.out.ext Yl).c 1 rfl; have ll0 := (QB.out.ext Yl).1; have ll1 := (NB.out.ext Yl).1) | (go_at_call 22; refine (O1.out _ _ _ (hl.ext (by repeat (first | with_reducible assumption | with_reducible exact Ext.refl _ | with_reducible refine Ext.drew ?_ | with_reducible refine Ext.drewN ?_ _ | with_reducible refine Ext.alloc ?_ _ | with_reducible refine Ext.set ?_ (by first | exact Nat.le_refl _ | (dsimp only; omega) | (simp; done)) _))) (IN.out.ext (Ext.trans Yl (by repeat (first | with_reducible assumption | with_reducible exact Ext.refl _ | with_reducible refine Ext.drew ?_ | with_reducible refine Ext.drewN ?_ _ | with_reducible refine Ext.alloc ?_ _ | with_reducible refine Ext.set ?_ (by first | exact Nat.le_refl _ | (dsimp only; omega) | (simp; done)) _))))).mono ?_; rintro e wo1 ⟨⟨ro, rfl, ho⟩, xo⟩; have Yo : Ext wk0 wo1 := Ext.trans (by repeat (first | with_reducible assumption | with_reducible exact Ext.refl _ | with_reducible refine Ext.drew ?_ | with_reducible refine Ext.drewN ?_ _ | with_reducible refine Ext.alloc ?_ _ | with_reducible refine Ext.set ?_ (by first | exact Nat.le_refl _ | (dsimp only; omega) | (simp; done)) _)) xo; have ko0 := (QB.out.ext Yo).c 1 rfl; have ko1 := (NB.out.ext Yo).c 0 rfl; have ko2 := (NB.out.ext Yo).c 1 rfl; have lo0 := (QB.out.ext Yo).1; have lo1 := (NB.out.ext Yo).1) | (go_at_call 21; refine (W1.out _ _ (ho.ext (by repeat (first | with_reducible assumption | with_reducible exact Ext.refl _ | with_reducible refine Ext.drew ?_ | with_reducible refine Ext.drewN ?_ _ | with_reducible refine Ext.alloc ?_ _ | with_reducible refine Ext.set ?_ (by first | exact Nat.le_refl _ | (dsimp only; omega) | (simp; done)) _)))).mono ?_; rintro e wd1 ⟨rfl, xd⟩; have Yd : Ext wk0 wd1 := Ext.trans (by repeat (first | with_reducible assumption | with_reducible exact Ext.refl _ | with_reducible refine Ext.drew ?_ | with_reducible refine Ext.drewN ?_ _ | with_reducible refine Ext.alloc ?_ _ | with_reducible refine Ext.set ?_ (by first | exact Nat.le_refl _ | (dsimp only; omega) | (simp; done)) _)) xd; have kd0 := (QB.out.ext Yd).c 1 rfl; have kd1 := (NB.out.ext Yd).c 0 rfl; have kd2 := (NB.out.ext Yd).c 1 rfl; have ld0 := (QB.out.ext Yd).1; have ld1 := (NB.out.ext Yd).1))
      all_goals
        go_wp2_with fail
        go_meet
        first | exact ⟨rfl, rfl, Yd⟩ | exact ⟨rfl, rfl, Yd.drew⟩
    case rest =>
      obtain ⟨rfl, rfl, hx⟩ := hcut
      have IN : Hid (IsI wc (.agg #[.bool bn, .slice an ln cn]) N) := IN.out.ext hx.out
      have NB : Hid (HV wc nn [.bool bn, .slice an ln cn]) := NB.out.ext hx.out
      have QB : Hid (HV wc w.heap.size [.int .i64 a, .int .i64 b, .int .i64 c]) := QB.out.ext hx.out
      have RB : Hid (HV wc (w.heap.size + 1) [.int .i64 0, .int .i64 0, .int .i64 0]) := RB.out.ext hx.out
      have E0 : Hid (Ext w wc) := E0.out.trans hx.out
      clear hx F1 L1 O1 W1
      generalize wc = wk1 at *
      go_upto_region 6 with fail
      go_cut [9, 10] (fun v5 v6 wx => v5 = .int .i64 p2 ∧ v6 = .int .i64 e2 ∧ Hid (Ext wk1 wx))
      case first =>
        have q0 := QB.out.c 2 rfl
        have n0 := NB.out.c 0 rfl
        have n1 := NB.out.c 1 rfl
        have lq1 := QB.out.1
        have ln1 := NB.out.1
        go_region_held3 (fun w' => w'.cell? ⟨w.heap.size, 2, none⟩ = some (.int .i64 c) ∧ w'.cell? ⟨nn, 0, none⟩ = some (.bool bn) ∧ w'.cell? ⟨nn, 1, none⟩ = some (.slice an ln cn)) (first | (go_keep; done) | skip) (first | (go_at_call 24; refine (F2.out _).mono ?_; rintro e wf2 ⟨⟨rf, rfl, hf⟩, xf⟩; have Yf : Ext wk1 wf2 := Ext.trans (by repeat (first | with_reducible assumption | with_reducible exact Ext.refl _ | with_reducible refine Ext.drew ?_ | with_reducible refine Ext.drewN ?_ _ | with_reducible refine Ext.alloc ?_ _ | with_reducible refine Ext.set ?_ (by first | exact Nat.le_refl _ | (dsimp only; omega) | (simp; done)) _)) xf; have kf0 := (QB.out.ext Yf).c 2 rfl; have kf1 := (NB.out.ext Yf).c 0 rfl; have kf2 := (NB.out.ext Yf).c 1 rfl; have lf0 := (QB.out.ext Yf).1; have lf1 := (NB.out.ext Yf).1) | (go_at_call 23; refine (L2.out _ _ (hf.ext (by repeat (first | with_reducible assumption | with_reducible exact Ext.refl _ | with_reducible refine Ext.drew ?_ | with_reducible refine Ext.drewN ?_ _ | with_reducible refine Ext.alloc ?_ _ | with_reducible refine Ext.set ?_ (by first | exact Nat.le_refl _ | (dsimp only; omega) | (simp; done)) _)))).mono ?_; rintro e wl2 ⟨⟨rl, rfl, hl⟩, xl⟩; have Yl : Ext wk1 wl2 := Ext.trans (by repeat (first | with_reducible assumption | with_reducible exact Ext.refl _ | with_reducible refine Ext.drew ?_ | with_reducible refine Ext.drewN ?_ _ | with_reducible refine Ext.alloc ?_ _ | with_reducible refine Ext.set ?_ (by first | exact Nat.le_refl _ | (dsimp only; omega) | (simp; done)) _)) xl; have kl0 := (QB.out.ext Yl).c 2 rfl; have kl1 := (NB.out.ext Yl).c 0 rfl; have kl2 := (NB.out.ext Yl).c 1 rfl; have ll0 := (QB.out.ext Yl).1; have ll1 := (NB.out.ext Yl).1) | (go_at_call 22; refine (O2.out _ _ _ (hl.ext (by repeat (first | with_reducible assumption | with_reducible exact Ext.refl _ | with_reducible refine Ext.drew ?_ | with_reducible refine Ext.drewN ?_ _ | with_reducible refine Ext.alloc ?_ _ | with_reducible refine Ext.set ?_ (by first | exact Nat.le_refl _ | (dsimp only; omega) | (simp; done)) _))) (IN.out.ext (Ext.trans Yl (by repeat (first | with_reducible assumption | with_reducible exact Ext.refl _ | with_reducible refine Ext.drew ?_ | with_reducible refine Ext.drewN ?_ _ | with_reducible refine Ext.alloc ?_ _ | with_reducible refine Ext.set ?_ (by first | exact Nat.le_refl _ | (dsimp only; omega) | (simp; done)) _))))).mono ?_; rintro e wo2 ⟨⟨ro, rfl, ho⟩, xo⟩; have Yo : Ext wk1 wo2 := Ext.trans (by repeat (first | with_reducible assumption | with_reducible exact Ext.refl _ | with_reducible refine Ext.drew ?_ | with_reducible refine Ext.drewN ?_ _ | with_reducible refine Ext.alloc ?_ _ | with_reducible refine Ext.set ?_ (by first | exact Nat.le_refl _ | (dsimp only; omega) | (simp; done)) _)) xo; have ko0 := (QB.out.ext Yo).c 2 rfl; have ko1 := (NB.out.ext Yo).c 0 rfl; have ko2 := (NB.out.ext Yo).c 1 rfl; have lo0 := (QB.out.ext Yo).1; have lo1 := (NB.out.ext Yo).1) | (go_at_call 21; refine (W2.out _ _ (ho.ext (by repeat (first | with_reducible assumption | with_reducible exact Ext.refl _ | with_reducible refine Ext.drew ?_ | with_reducible refine Ext.drewN ?_ _ | with_reducible refine Ext.alloc ?_ _ | with_reducible refine Ext.set ?_ (by first | exact Nat.le_refl _ | (dsimp only; omega) | (simp; done)) _)))).mono ?_; rintro e wd2 ⟨rfl, xd⟩; have Yd : Ext wk1 wd2 := Ext.trans (by repeat (first | with_reducible assumption | with_reducible exact Ext.refl _ | with_reducible refine Ext.drew ?_ | with_reducible refine Ext.drewN ?_ _ | with_reducible refine Ext.alloc ?_ _ | with_reducible refine Ext.set ?_ (by first | exact Nat.le_refl _ | (dsimp only; omega) | (simp; done)) _)) xd; have kd0 := (QB.out.ext Yd).c 2 rfl; have kd1 := (NB.out.ext Yd).c 0 rfl; have kd2 := (NB.out.ext Yd).c 1 rfl; have ld0 := (QB.out.ext Yd).1; have ld1 := (NB.out.ext Yd).1))
        all_goals
          go_wp2_with fail
          go_meet
          first | exact ⟨rfl, rfl, Yd⟩ | exact ⟨rfl, rfl, Yd.drew⟩
      case rest =>
        obtain ⟨rfl, rfl, hx⟩ := hcut
        have IN : Hid (IsI wc (.agg #[.bool bn, .slice an ln cn]) N) := IN.out.ext hx.out
        have NB : Hid (HV wc nn [.bool bn, .slice an ln cn]) := NB.out.ext hx.out
        have QB : Hid (HV wc w.heap.size [.int .i64 a, .int .i64 b, .int .i64 c]) := QB.out.ext hx.out
        have RB : Hid (HV wc (w.heap.size + 1) [.int .i64 0, .int .i64 0, .int .i64 0]) := RB.out.ext hx.out
        have E0 : Hid (Ext w wc) := E0.out.trans hx.out
        clear hx F2 L2 O2 W2
        generalize wc = wk2 at *
        go_wp2_with fail
        refine (HT.out _).mono ?_
        rintro e w8 ⟨rfl, x8⟩
        have RB : Hid (HV w8 (w.heap.size + 1) [.int .i64 0, .int .i64 0, .int .i64 0]) := RB.out.ext x8
        have E0 : Hid (Ext w w8) := E0.out.trans x8
        clear x8
        have z0 := RB.out.c 0 rfl
        have y0 := RB.out.f 0 rfl
        have z1 := RB.out.c 1 rfl
        have y1 := RB.out.f 1 rfl
        have z2 := RB.out.c 2 rfl
        have y2 := RB.out.f 2 rfl
        have rl := RB.out.1
        go_wp2_with fail
        exact bodyPost_ret (v := .tuple #[.agg #[.int .i64 s0, .int .i64 s1, .int .i64 s2], .int .i64 es]) (by simp [results, Try.results7, go_sem, z0, z1, z2]) rfl ⟨rfl, (((E0.out.set (p := ⟨w.heap.size + 1, 0, none⟩) (Nat.le_succ _) _).set (p := ⟨w.heap.size + 1, 1, none⟩) (Nat.le_succ _) _).set (p := ⟨w.heap.size + 1, 2, none⟩) (Nat.le_succ _) _)⟩
end Go.Proofs.Yteimgbafclhkpaa
