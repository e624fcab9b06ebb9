/- The reference of layer 1: OverRoot. The reference of layer 1: OverRoot of a whole number by the root of one. The reference of layer 3: three, Add, Neg, Sub, Scale. The reference of layer 3: less, Cross, dot, Dot, Apply. The reference of layer 3: dot, Dot, Apply. -/
import Derived.Test.YtoeecldhbabmbaaGreatMg40
import Derived.Test.YtoeecldhbabmbaaGreatMg0
import Derived.Deep.RegionHeld3
import Derived.Deep.DeepCutAuto
import Derived.Test.YtoeecldhbabmbaaGreatMg20
import Derived.Test.YtoeecldhbabmbaaGreatMg16
import Derived.Test.YtoeecldhbabmbaaGreatMg39
import Derived.Test.YtoeecldhbabmbaaGreatV9m
import Derived.Deep.RegionHeld
open Go.Value renaming int → J, agg → zG
open Go.IntKind renaming i64 → zq
open Go.Ending renaming returned → zR
open Go.Proofs.Tryz renaming prog → zP
namespace Go.Proofs.YtoeecldhbabmbaaGreat
open Go.RowKit
theorem IsI.put2 {w : World} {g : Nat} {v x0 x1 : Value} {z : Int} (h : IsI w v z) (hV : HV w g [.bool false, .slice none 0 0]) : IsI ((w.setCell ⟨g, 0, none⟩ x0).setCell ⟨g, 1, none⟩ x1) v z :=
  (h.set (hV.c 0 rfl) (by simp)).set ((hV.set 0 x0).c 1 rfl) (by simp)
set_option maxHeartbeats 16000000 in
theorem over_cut (ba bc : Bool) (aa ac : Option Addr) (la ka lc kc : Nat) (x : Int) (d s : Nat) (N' : Int) (D' : Nat) (w : World)
    (IA : Hid (IsI w (zG #[.bool ba, .slice aa la ka]) x)) (IC : Hid (IsN w (.slice ac lc kc) d))
    (HT : Hid (∀ r1 r2 w', IsI w' r1 x → IsI w' r2 x → Calls zP 55 #[r1, r2] w' fun e w'' => (∃ r, e = zR r ∧ IsI w'' r (x * x)) ∧ Ext w' w''))
    (HM : Hid (∀ r v w', IsI w' r (x * x) → IsN w' v d → Calls zP 99 #[r, v] w' fun e w'' => (∃ q, e = zR q ∧ IsQ w'' q N' D') ∧ Ext w' w''))
    (HR : Hid (∀ q w', IsQ w' q N' D' → Calls zP 102 #[q] w' fun e w'' => (∃ r, e = zR r ∧ IsI w'' r (s : Int)) ∧ Ext w' w''))
    (HN : Hid (∀ r w', IsI w' r (s : Int) → Calls zP 94 #[r] w' fun e w'' => (∃ r', e = zR r' ∧ IsI w'' r' (-(s : Int))) ∧ Ext w' w'')) :
    Calls zP 70 #[zG #[.bool ba, .slice aa la ka], zG #[.bool bc, .slice ac lc kc]] w fun e w' => (∃ r, e = zR r ∧ IsI w' r (if ba then -(s : Int) else (s : Int))) ∧ Ext w w' := by
  have GA : Hid (HV (((w.alloc (.cells #[.bool ba, .slice aa la ka] 50)).alloc (.cells #[.bool bc, .slice ac lc kc] 50)).alloc (.cells #[.bool false, .slice none 0 0] 50)) w.heap.size [.bool ba, .slice aa la ka]) := HV.alloc (HV.alloc (hv_at rfl) _) _
  have GC : Hid (HV (((w.alloc (.cells #[.bool ba, .slice aa la ka] 50)).alloc (.cells #[.bool bc, .slice ac lc kc] 50)).alloc (.cells #[.bool false, .slice none 0 0] 50)) (w.heap.size + 1) [.bool bc, .slice ac lc kc]) := HV.alloc (hv_at (by simp)) _
  have GR : Hid (HV (((w.alloc (.cells #[.bool ba, .slice aa la ka] 50)).alloc (.cells #[.bool bc, .slice ac lc kc] 50)).alloc (.cells #[.bool false, .slice none 0 0] 50)) (w.heap.size + 1 + 1) [.bool false, .slice none 0 0]) := hv_at (by simp)
  have E0 : Hid (Ext w (((w.alloc (.cells #[.bool ba, .slice aa la ka] 50)).alloc (.cells #[.bool bc, .slice ac lc kc] 50)).alloc (.cells #[.bool false, .slice none 0 0] 50))) := (((Ext.refl _).alloc _).alloc _).alloc _
  have IA : Hid (IsI (((w.alloc (.cells #[.bool ba, .slice aa la ka] 50)).alloc (.cells #[.bool bc, .slice ac lc kc] 50)).alloc (.cells #[.bool false, .slice none 0 0] 50)) (zG #[.bool ba, .slice aa la ka]) x) := IA.out.ext E0.out
  have IC : Hid (IsN (((w.alloc (.cells #[.bool ba, .slice aa la ka] 50)).alloc (.cells #[.bool bc, .slice ac lc kc] 50)).alloc (.cells #[.bool false, .slice none 0 0] 50)) (.slice ac lc kc) d) := IC.out.ext E0.out
  go_enter Tryz.func70, Tryz.ntmps70
  go_upto_region 1 with fail
  generalize (((w.alloc (.cells #[.bool ba, .slice aa la ka] 50)).alloc (.cells #[.bool bc, .slice ac lc kc] 50)).alloc (.cells #[.bool false, .slice none 0 0] 50)) = wB at *
  go_cut [5] (fun v5 wx => ∃ (g : Nat) (b : Bool) (a : Option Addr) (l c : Nat), v5 = .pointer (some ⟨g, 0, none⟩) ∧ Hid (wB.heap.size ≤ g) ∧ Hid (HV wx g [.bool b, .slice a l c]) ∧ Hid (IsI wx (zG #[.bool b, .slice a l c]) (s : Int)) ∧ Hid (Ext wB wx))
  case first =>
    have ga := GA.out.c 0 rfl
    have gb := GA.out.c 1 rfl
    have gc := GC.out.c 0 rfl
    have gd := GC.out.c 1 rfl
    have la' := GA.out.1
    have lb' := GC.out.1
    have na := Nat.ne_of_lt la'
    have nb := Nat.ne_of_gt la'
    have nc := Nat.ne_of_lt lb'
    have nd := Nat.ne_of_gt lb'
    go_region_held3 (fun w' => w'.cell? ⟨w.heap.size, 0, none⟩ = some (.bool ba) ∧ w'.cell? ⟨w.heap.size, 1, none⟩ = some (.slice aa la ka) ∧ w'.cell? ⟨w.heap.size + 1, 0, none⟩ = some (.bool bc) ∧ w'.cell? ⟨w.heap.size + 1, 1, none⟩ = some (.slice ac lc kc)) (first | (go_keep; done) | (refine ⟨?_, ?_, ?_, ?_⟩ <;> (rw [World.cell?_setCell_far _ _ _ _ (by dsimp only; omega), World.cell?_setCell_far _ _ _ _ (by dsimp only; omega)]; with_reducible assumption)) | skip) (first | (go_at_call 55; refine (HT.out _ _ _ (IA.out.ext xa) (IA.out.ext xa)).mono ?_; rintro e wP ⟨⟨rP, rfl, hP⟩, xP⟩; have YP : Ext wB wP := Ext.trans xa xP; have gaP := (GA.out.ext YP).c 0 rfl; have gbP := (GA.out.ext YP).c 1 rfl; have gcP := (GC.out.ext YP).c 0 rfl; have gdP := (GC.out.ext YP).c 1 rfl; have laP := (GA.out.ext YP).1; have lbP := (GC.out.ext YP).1; have naP := Nat.ne_of_lt laP; have nbP := Nat.ne_of_gt laP; have ncP := Nat.ne_of_lt lbP; have ndP := Nat.ne_of_gt lbP; (first | (have N : Hid (HV wP _ [.bool false, .slice none 0 0]) := N.out.ext xP) | (have N : Hid (HV wP _ [.bool false, .slice none 0 0]) := (hv_at rfl).ext xP) | (have N : Hid (HV wP _ [.bool false, .slice none 0 0]) := (HV.drew (hv_at rfl)).ext xP) | (have N : Hid (HV wP _ [.bool false, .slice none 0 0]) := (HV.alloc N.out _).ext xP) | skip)) | (go_at_call 99; refine (HM.out _ _ _ (hP.ext xa) (IC.out.ext (Ext.trans YP xa))).mono ?_; rintro e wT ⟨⟨rT, rfl, hT⟩, xT⟩; have YT : Ext wB wT := Ext.trans xa xT; have gaT := (GA.out.ext YT).c 0 rfl; have gbT := (GA.out.ext YT).c 1 rfl; have gcT := (GC.out.ext YT).c 0 rfl; have gdT := (GC.out.ext YT).c 1 rfl; have laT := (GA.out.ext YT).1; have lbT := (GC.out.ext YT).1; have naT := Nat.ne_of_lt laT; have nbT := Nat.ne_of_gt laT; have ncT := Nat.ne_of_lt lbT; have ndT := Nat.ne_of_gt lbT; (first | (have N : Hid (HV wT _ [.bool false, .slice none 0 0]) := N.out.ext xT) | (have N : Hid (HV wT _ [.bool false, .slice none 0 0]) := (hv_at rfl).ext xT) | (have N : Hid (HV wT _ [.bool false, .slice none 0 0]) := (HV.drew (hv_at rfl)).ext xT) | (have N : Hid (HV wT _ [.bool false, .slice none 0 0]) := (HV.alloc N.out _).ext xT) | skip)) | (go_at_call 102; refine (HR.out _ _ (hT.ext xa)).mono ?_; rintro e wR ⟨⟨rR, rfl, hR⟩, xR⟩; have YR : Ext wB wR := Ext.trans xa xR; have gaR := (GA.out.ext YR).c 0 rfl; have gbR := (GA.out.ext YR).c 1 rfl; have gcR := (GC.out.ext YR).c 0 rfl; have gdR := (GC.out.ext YR).c 1 rfl; have laR := (GA.out.ext YR).1; have lbR := (GC.out.ext YR).1; have naR := Nat.ne_of_lt laR; have nbR := Nat.ne_of_gt laR; have ncR := Nat.ne_of_lt lbR; have ndR := Nat.ne_of_gt lbR; (first | (have N : Hid (HV wR _ [.bool false, .slice none 0 0]) := N.out.ext xR) | (have N : Hid (HV wR _ [.bool false, .slice none 0 0]) := (hv_at rfl).ext xR) | (have N : Hid (HV wR _ [.bool false, .slice none 0 0]) := (HV.drew (hv_at rfl)).ext xR) | (have N : Hid (HV wR _ [.bool false, .slice none 0 0]) := (HV.alloc N.out _).ext xR) | skip); obtain ⟨uu, huu, hkk⟩ := hR; obtain ⟨au, lu, cu, hau⟩ := hkk.isSlice; subst hau; subst huu; have HI : Hid (IsI wR (zG #[.bool (decide ((s : Int) < 0)), .slice au lu cu]) (s : Int)) := ⟨_, rfl, hkk⟩; clear hkk; generalize decide ((s : Int) < 0) = bs at *; (first | (have n0 := N.out.c 0 rfl; have n1 := N.out.c 1 rfl; have f0 := N.out.f 0 rfl; have f1 := N.out.f 1 rfl) | skip)))
    all_goals
      go_wp2_with fail
      go_meet
      first
        | exact ⟨wR.heap.size, _, _, _, _, rfl, YR.size, hv_at rfl, HI.out.ext ((Ext.refl _).alloc _), YR.alloc _⟩
        | exact (have hg : wB.heap.size ≤ wB.heap.size := Nat.le_refl _; ⟨wB.heap.size, _, _, _, _, rfl, hg, (N.out.set 0 _).set 1 _, HI.out.put2 N.out, (YR.set (p := ⟨_, 0, none⟩) hg _).set (p := ⟨_, 1, none⟩) hg _⟩)
        | exact (have hg : wB.heap.size ≤ wP.heap.size := YP.size; ⟨wP.heap.size, _, _, _, _, rfl, hg, (N.out.set 0 _).set 1 _, HI.out.put2 N.out, (YR.set (p := ⟨_, 0, none⟩) hg _).set (p := ⟨_, 1, none⟩) hg _⟩)
        | exact (have hg : wB.heap.size ≤ wT.heap.size := YT.size; ⟨wT.heap.size, _, _, _, _, rfl, hg, (N.out.set 0 _).set 1 _, HI.out.put2 N.out, (YR.set (p := ⟨_, 0, none⟩) hg _).set (p := ⟨_, 1, none⟩) hg _⟩)
  case rest =>
    obtain ⟨gp, b, a, l, c, rfl, hG0, hH, HI, hE⟩ := hcut
    have EE : Hid (Ext w wc) := E0.out.trans hE.out
    have GA := GA.out.ext hE.out
    have GR := GR.out.ext hE.out
    clear GC IC HT HM HR IA
    have q0 := hH.out.c 0 rfl
    have q1 := hH.out.c 1 rfl
    have g0 := GA.c 0 rfl
    have m0 := GR.c 0 rfl
    have m1 := GR.c 1 rfl
    have m2 := GR.f 0 rfl
    have m3 := GR.f 1 rfl
    have ml := GR.1
    cases ba
    · go_wp2_with fail
      exact bodyPost_ret (v := zG #[.bool b, .slice a l c]) (by simp [results, Tryz.results70, go_sem, m0, m1]) rfl ⟨⟨_, rfl, HI.out.put2 GR⟩, (EE.out.set (p := ⟨w.heap.size + 1 + 1, 0, none⟩) (by dsimp only; omega) _).set (p := ⟨w.heap.size + 1 + 1, 1, none⟩) (by dsimp only; omega) _⟩
    · go_wp2_with fail
      refine (HN.out _ _ HI.out).mono ?_
      rintro e wN ⟨⟨rN, rfl, hN⟩, xN⟩
      obtain ⟨uu, huu, hkk⟩ := hN
      obtain ⟨au, lu, cu, hau⟩ := hkk.isSlice
      subst hau
      subst huu
      have HJ : Hid (IsI wN (zG #[.bool (decide (-(s : Int) < 0)), .slice au lu cu]) (-(s : Int))) := ⟨_, rfl, hkk⟩
      clear hkk m0 m1 m2 m3 ml q0 q1 g0
      generalize decide (-(s : Int) < 0) = bs at *
      have GR := GR.ext xN
      have m0 := GR.c 0 rfl
      have m1 := GR.c 1 rfl
      have m2 := GR.f 0 rfl
      have m3 := GR.f 1 rfl
      have ml := GR.1
      have EE := EE.out.trans xN
      go_wp2_with fail
      exact bodyPost_ret (v := zG #[.bool bs, .slice au lu cu]) (by simp [results, Tryz.results70, go_sem, m0, m1]) rfl ⟨⟨_, rfl, HJ.out.put2 GR⟩, (EE.set (p := ⟨w.heap.size + 1 + 1, 0, none⟩) (by dsimp only; omega) _).set (p := ⟨w.heap.size + 1 + 1, 1, none⟩) (by dsimp only; omega) _⟩
theorem rootQ_mul {N d s g : Nat} (hg : 0 < g) (h : RootQ N d s) : RootQ (g * N) (g * d) s := by
  obtain ⟨h1, h2, h3, h4⟩ := h
  have e1 : 4 * (g * N) = g * (4 * N) := by grind
  have e2 : (2 * s + 1) * (2 * s + 1) * (g * d) = g * ((2 * s + 1) * (2 * s + 1) * d) := by grind
  have e3 : (2 * s - 1) * (2 * s - 1) * (g * d) = g * ((2 * s - 1) * (2 * s - 1) * d) := by
    generalize 2 * s - 1 = q
    grind
  unfold RootQ
  rw [e1, e2, e3]
  refine ⟨Nat.mul_le_mul_left g h1, ?_, fun h => h3 (Nat.eq_of_mul_eq_mul_left hg h), fun hs h => h4 hs (Nat.eq_of_mul_eq_mul_left hg h)⟩
  rcases h2 with h2 | h2
  · exact .inl h2
  · exact .inr (Nat.mul_le_mul_left g h2)
theorem rootq_has (p n : Nat) (h0 : 0 < n) : ∃ k, RootQ p n k := by
  obtain ⟨k, k1, k2⟩ := exists_sqrt (p / n)
  have hm : k * k * n ≤ p := by rw [← Nat.le_div_iff_mul_le h0]; exact k1
  have hM : p < (k + 1) * (k + 1) * n := by rw [← Nat.div_lt_iff_lt_mul h0]; exact k2
  by_cases h : (2 * k + 1) * (2 * k + 1) * n < 4 * p ∨ (2 * k + 1) * (2 * k + 1) * n = 4 * p ∧ k % 2 = 1
  · exact ⟨k + 1, rootQ_up hM h⟩
  · exact ⟨k, rootQ_down h0 hm (by omega)⟩
theorem overroot_any (x : Int) (d k : Nat) (r1 r2 : Value) (w : World) (h1 : IsI w r1 x) (h2 : IsI w r2 (d : Int)) (hd : d ≠ 0) (hk : 3 ≤ k) (hk2 : k ≤ 150) (f1 : Fit k x) (f2 : Fit k (d : Int)) :
    Calls zP 70 #[r1, r2] w fun e w' => (∃ (r : Value) (s : Nat), e = zR r ∧ IsI w' r (if x < 0 then -(s : Int) else (s : Int)) ∧ RootQ (x.natAbs * x.natAbs) d s) ∧ Ext w w' := by
  have fx := f1.mul f1
  have sx : SmallI x := f1.small (by omega)
  have sxx : SmallI (x * x) := fx.small (by omega)
  have fd : Fit (k + k) (d : Int) := f2.le (by omega)
  have ex : x * x = ((x.natAbs * x.natAbs : Nat) : Int) := Int.natAbs_mul_self.symm
  obtain ⟨g, hg⟩ : ∃ g, g = Nat.gcd (x * x).natAbs d := ⟨_, rfl⟩
  have hg0 : 0 < g := by rw [hg]; exact Nat.gcd_pos_of_pos_right _ (by omega)
  have en : (x * x).natAbs = x.natAbs * x.natAbs := Int.natAbs_mul x x
  have dv1 : g ∣ x.natAbs * x.natAbs := by rw [hg, ← en]; exact Nat.gcd_dvd_left _ _
  have dv2 : g ∣ d := by rw [hg]; exact Nat.gcd_dvd_right _ _
  obtain ⟨N', hN⟩ := dv1
  obtain ⟨D', hD⟩ := dv2
  have hD0 : D' ≠ 0 := by rintro rfl; omega
  have eN : x * x / (g : Int) = (N' : Int) := by
    rw [ex, hN]
    have : (((g * N' : Nat) : Int)) = (g : Int) * (N' : Int) := by simp
    rw [this]
    exact Int.mul_ediv_cancel_left _ (by omega)
  have eD : d / g = D' := by rw [hD]; exact Nat.mul_div_cancel_left _ hg0
  have leN : N' ≤ x.natAbs * x.natAbs := by rw [hN]; exact Nat.le_mul_of_pos_left _ hg0
  have leD : D' ≤ d := by
    have := Nat.le_mul_of_pos_left D' hg0
    omega
  have fN : Fit (k + k) (N' : Int) := fx.of_le (by rw [en]; exact leN)
  have fD : Fit (k + k) (D' : Int) := fd.of_le leD
  obtain ⟨s, hs⟩ : ∃ s, RootQ N' D' s := rootq_has N' D' (by omega)
  have hS : RootQ (x.natAbs * x.natAbs) d s := by
    have := rootQ_mul hg0 hs
    rw [← hN, ← hD] at this
    exact this
  obtain ⟨u, rfl, ku⟩ := h1
  obtain ⟨v, rfl, kv⟩ := h2
  obtain ⟨a1, l1, c1, e1⟩ := ku.isSlice
  obtain ⟨a2, l2, c2, e2⟩ := kv.isSlice
  subst e1 e2
  have I1 : IsI w (zG #[.bool (decide (x < 0)), .slice a1 l1 c1]) x := ⟨_, rfl, ku⟩
  have kv' : IsN w (.slice a2 l2 c2) d := kv
  have R := over_cut (decide (x < 0)) (decide ((d : Int) < 0)) a1 a2 l1 c1 l2 c2 x d s (N' : Int) D' w I1 kv'
    (fun r1 r2 w' i1 i2 => times_isI x x r1 r2 w' i1 i2 sx sx sxx)
    (fun r v w' i1 i2 => by
      have h := make_isQ (x * x) d (k + k) r v w' i1 i2 hd (by omega) fx fd
      rw [← hg, eN, eD] at h
      exact h)
    (fun q w' hq => by
      refine (rootnearq_any N' D' (k + k) q w' hq hD0 (by omega) (by omega) fN fD).mono ?_
      rintro e w'' ⟨⟨r, s', he, hr, hs'⟩, hx⟩
      obtain rfl : s' = s := rootQ_unique (by omega) hs' hs
      exact ⟨⟨r, he, hr⟩, hx⟩)
    (fun r w' hr => neg_isI (s : Int) r w' hr (by
      have : s ≤ x.natAbs := by
        apply Nat.le_of_not_gt
        intro hc
        obtain ⟨_, q, _, _⟩ := hS
        rcases q with q | q
        · omega
        · have m1 : (2 * x.natAbs + 1) * (2 * x.natAbs + 1) ≤ (2 * s - 1) * (2 * s - 1) := Nat.mul_le_mul (by omega) (by omega)
          have m2 : (2 * x.natAbs + 1) * (2 * x.natAbs + 1) * 1 ≤ (2 * s - 1) * (2 * s - 1) * d := Nat.mul_le_mul m1 (by omega)
          have e : (2 * x.natAbs + 1) * (2 * x.natAbs + 1) = 4 * (x.natAbs * x.natAbs) + 4 * x.natAbs + 1 := by grind
          omega
      exact (f1.of_le (y := (s : Int)) (by simpa using this)).small (by omega)))
  refine R.mono ?_
  rintro e w' ⟨⟨r, he, hr⟩, hx⟩
  refine ⟨⟨r, s, he, ?_, hS⟩, hx⟩
  by_cases hx0 : x < 0
  · rw [if_pos hx0]
    rw [decide_eq_true hx0] at hr
    exact hr
  · rw [if_neg hx0]
    rw [decide_eq_false hx0] at hr
    exact hr
open Go.Shelf
theorem word_fit (z : Int) : wordR z = fitR z := rfl
theorem fit_two (z : Int) : (fitR z).2 = 0 ∧ okW z = true ∧ (fitR z).1 = z ∨ (fitR z).2 = 2 ∧ okW z = false ∧ (fitR z).1 = 0 := by
  cases h : okW z
  · rw [fit_no' h]; exact .inr ⟨rfl, rfl, rfl⟩
  · rw [fit_yes' h]; exact .inl ⟨rfl, rfl, rfl⟩
set_option maxHeartbeats 2000000 in
theorem three_any (z0 z1 z2 : Int) (w : World) :
    Calls zP 62 #[J zq (fitR z0).1, J zq (fitR z0).2, J zq (fitR z1).1, J zq (fitR z1).2, J zq (fitR z2).1, J zq (fitR z2).2] w fun e w' => e = zR (vres z0 z1 z2) ∧ Ext w w' := by
  rcases fit_two z0 with ⟨e0, k0, f0⟩ | ⟨e0, k0, f0⟩
  · rcases fit_two z1 with ⟨e1, k1, f1⟩ | ⟨e1, k1, f1⟩
    · rcases fit_two z2 with ⟨e2, k2, f2⟩ | ⟨e2, k2, f2⟩
      · have hv : Hid (vres z0 z1 z2 = .tuple #[zG #[J zq z0, J zq z1, J zq z2], J zq 0]) := by show _ = _; unfold vres ok3; rw [k0, k1, k2]; rfl
        rw [e0, e1, e2, f0, f1, f2, hv.out]
        clear e0 e1 e2 f0 f1 f2 k0 k1 k2 hv
        go_enter Tryz.func62, Tryz.ntmps62
        go_wp2_with fail
        exact bodyPost_ret (v := .tuple #[zG #[J zq z0, J zq z1, J zq z2], J zq 0]) (by simp [results, Tryz.results62, go_sem]) rfl ⟨rfl, xa⟩
      · have hv : Hid (vres z0 z1 z2 = .tuple #[zG #[J zq 0, J zq 0, J zq 0], J zq 2]) := by show _ = _; unfold vres ok3; rw [k0, k1, k2]; rfl
        rw [e0, e1, e2, f0, f1, f2, hv.out]
        clear e0 e1 e2 f0 f1 f2 k0 k1 k2 hv
        go_enter Tryz.func62, Tryz.ntmps62
        go_wp2_with fail
        exact bodyPost_ret (v := .tuple #[zG #[J zq 0, J zq 0, J zq 0], J zq 2]) (by simp [results, Tryz.results62, go_sem]) rfl ⟨rfl, xa⟩
    · have hv : Hid (vres z0 z1 z2 = .tuple #[zG #[J zq 0, J zq 0, J zq 0], J zq 2]) := by show _ = _; unfold vres ok3; rw [k0, k1]; rfl
      rw [e0, e1, f0, f1, hv.out]
      clear e0 e1 f0 f1 k0 k1 hv
      generalize (fitR z2).1 = c1
      generalize (fitR z2).2 = c2
      go_enter Tryz.func62, Tryz.ntmps62
      go_wp2_with fail
      exact bodyPost_ret (v := .tuple #[zG #[J zq 0, J zq 0, J zq 0], J zq 2]) (by simp [results, Tryz.results62, go_sem]) rfl ⟨rfl, xa⟩
  · have hv : Hid (vres z0 z1 z2 = .tuple #[zG #[J zq 0, J zq 0, J zq 0], J zq 2]) := by show _ = _; unfold vres ok3; rw [k0]; rfl
    rw [e0, f0, hv.out]
    clear e0 f0 k0 hv
    generalize (fitR z2).1 = c1
    generalize (fitR z2).2 = c2
    generalize (fitR z1).1 = c3
    generalize (fitR z1).2 = c4
    go_enter Tryz.func62, Tryz.ntmps62
    go_wp2_with fail
    exact bodyPost_ret (v := .tuple #[zG #[J zq 0, J zq 0, J zq 0], J zq 2]) (by simp [results, Tryz.results62, go_sem]) rfl ⟨rfl, xa⟩
theorem fit_i64 {a : Int} (h : okW a = true) : Fit 64 a := fit_word a (word64 h).1 (word64 h).2
set_option maxHeartbeats 2000000 in
theorem rless_any (a b c d : Int) (w : World) (ha : okW a = true) (hb : okW b = true) (hc : okW c = true) (hd : okW d = true) :
    Calls zP 72 #[J zq a, J zq b, J zq c, J zq d] w fun e w' => (∃ r, e = zR r ∧ IsI w' r (a * b - c * d)) ∧ Ext w w' := by
  have fab : Fit 128 (a * b) := (fit_i64 ha).mul (fit_i64 hb)
  have fcd : Fit 128 (c * d) := (fit_i64 hc).mul (fit_i64 hd)
  have p1 := prod_abs ha hb
  have p2 := prod_abs hc hd
  have fs : Fit 129 (a * b - c * d) := by
    unfold Fit
    have e : (2 : Nat) ^ 129 = 680564733841876926926749214863536422912 := by decide
    omega
  have HA : Hid (∀ w', Calls zP 21 #[J zq a, J zq b] w' fun e w'' => (∃ r, e = zR r ∧ IsI w'' r (a * b)) ∧ Ext w' w'') := fun w' => prod_any a b w' (word64 ha).1 (word64 ha).2 (word64 hb).1 (word64 hb).2
  have HB : Hid (∀ w', Calls zP 21 #[J zq c, J zq d] w' fun e w'' => (∃ r, e = zR r ∧ IsI w'' r (c * d)) ∧ Ext w' w'') := fun w' => prod_any c d w' (word64 hc).1 (word64 hc).2 (word64 hd).1 (word64 hd).2
  have HT : Hid (∀ r1 r2 w', IsI w' r1 (a * b) → IsI w' r2 (c * d) → Calls zP 54 #[r1, r2] w' fun e w'' => (∃ r', e = zR r' ∧ IsI w'' r' (a * b - c * d)) ∧ Ext w' w'') := fun r1 r2 w' hr1 hr2 => less_isI _ _ r1 r2 w' hr1 hr2 (fab.small (by omega)) (fcd.small (by omega)) (fs.small (by omega))
  clear fab fcd fs p1 p2 ha hb hc hd
  generalize a * b = P1 at *
  generalize c * d = P2 at *
  generalize P1 - P2 = P at *
  have XS : Hid (Ext w (w.alloc (.cells #[.bool false, .slice none 0 0] 50))) := (Ext.refl _).alloc _
  have BS : Hid (Has (w.alloc (.cells #[.bool false, .slice none 0 0] 50)) w.heap.size (.bool false) (.slice none 0 0)) := ext_new1 (Ext.refl _)
  go_enter Tryz.func72, Tryz.ntmps72
  go_wp2_with fail
  generalize w.alloc (.cells #[.bool false, .slice none 0 0] 50) = W at *
  refine (HA.out _).mono ?_
  rintro e w1 ⟨⟨r1, rfl, hr1⟩, x1⟩
  go_wp2_with fail
  refine (HB.out _).mono ?_
  rintro e w2 ⟨⟨r2, rfl, hr2⟩, x2⟩
  go_wp2_with fail
  refine (HT.out _ _ _ (hr1.ext x2) hr2).mono ?_
  rintro e w3 ⟨⟨r3, rfl, hr3⟩, x3⟩
  obtain ⟨t0, t1, t2, t3⟩ := BS.out.ext ((x1.trans x2).trans x3)
  obtain ⟨u, hu, hk⟩ := hr3
  obtain ⟨au, lu, cu, hau⟩ := hk.isSlice
  subst hau
  subst hu
  have X3 : Hid (Ext w w3) := XS.out.trans ((x1.trans x2).trans x3)
  have HI : Hid (IsI w3 (zG #[.bool (decide (P < 0)), .slice au lu cu]) P) := ⟨_, rfl, hk⟩
  clear hk x1 x2 x3 hr1 hr2
  go_wp2_with fail
  exact bodyPost_ret (v := zG #[.bool (decide (P < 0)), .slice au lu cu]) (by simp [results, Tryz.results72, go_sem, t0, t1]) rfl ⟨⟨_, rfl, HI.out.set2 t0 t1⟩, (X3.out.setCell (Nat.le_refl _) _).setCell (Nat.le_refl _) _⟩
theorem nearQ_word (x : Int) (r : Value) (w : World) (h : IsI w r x) (f : Fit 200 x) :
    Calls zP 71 #[r] w fun e w' => e = zR (.tuple #[J zq (fitR (nearQ x)).1, J zq (fitR (nearQ x)).2]) ∧ Ext w w' := nearq_any x (nearQ x) 200 r w h (by omega) (by omega) f (nearQ_spec x)
set_option maxHeartbeats 8000000 in
theorem rcross_raw (a0 a1 a2 b0 b1 b2 d0 d1 d2 z0 z1 z2 : Int) (w : World)
    (L0 : Hid (∀ w', Calls zP 72 #[J zq a1, J zq b2, J zq a2, J zq b1] w' fun e w'' => (∃ r, e = zR r ∧ IsI w'' r d0) ∧ Ext w' w''))
    (N0 : Hid (∀ r w', IsI w' r d0 → Calls zP 71 #[r] w' fun e w'' => e = zR (.tuple #[J zq (fitR z0).1, J zq (fitR z0).2]) ∧ Ext w' w''))
    (L1 : Hid (∀ w', Calls zP 72 #[J zq a2, J zq b0, J zq a0, J zq b2] w' fun e w'' => (∃ r, e = zR r ∧ IsI w'' r d1) ∧ Ext w' w''))
    (N1 : Hid (∀ r w', IsI w' r d1 → Calls zP 71 #[r] w' fun e w'' => e = zR (.tuple #[J zq (fitR z1).1, J zq (fitR z1).2]) ∧ Ext w' w''))
    (L2 : Hid (∀ w', Calls zP 72 #[J zq a0, J zq b1, J zq a1, J zq b0] w' fun e w'' => (∃ r, e = zR r ∧ IsI w'' r d2) ∧ Ext w' w''))
    (N2 : Hid (∀ r w', IsI w' r d2 → Calls zP 71 #[r] w' fun e w'' => e = zR (.tuple #[J zq (fitR z2).1, J zq (fitR z2).2]) ∧ Ext w' w'')) :
    Calls zP 31 #[zG #[J zq a0, J zq a1, J zq a2], zG #[J zq b0, J zq b1, J zq b2]] w fun e w' => e = zR (vres z0 z1 z2) ∧ Ext w w' := by
  have HT : Hid (∀ w', Calls zP 62 #[J zq (fitR z0).1, J zq (fitR z0).2, J zq (fitR z1).1, J zq (fitR z1).2, J zq (fitR z2).1, J zq (fitR z2).2] w' fun e w'' => e = zR (vres z0 z1 z2) ∧ Ext w' w'') := three_any z0 z1 z2
  obtain ⟨x, y, z, e, hr⟩ := vres_shape z0 z1 z2
  rw [hr] at HT ⊢
  clear hr
  generalize (fitR z0).1 = o0 at *
  generalize (fitR z0).2 = c0 at *
  generalize (fitR z1).1 = o1 at *
  generalize (fitR z1).2 = c1 at *
  generalize (fitR z2).1 = o2 at *
  generalize (fitR z2).2 = c2 at *
  go_enter Tryz.func31, Tryz.ntmps31
  go_wp2_with fail
  refine (L0.out _).mono ?_
  rintro e1 w1 ⟨⟨u1, rfl, hu1⟩, x1⟩
  have E1 : Ext w w1 := Ext.trans (Ext.alloc (Ext.alloc (Ext.alloc (Ext.refl _) _) _) _) x1
  have F0_1 : Hid (H3 w1 (w.heap.size) (J zq a0) (J zq a1) (J zq a2)) := (H3.alloc (H3.alloc (h3_at rfl) _) _).ext x1
  obtain ⟨q00, q01, q02, q03, q04, q05, q06⟩ := F0_1.out
  have F1_1 : Hid (H3 w1 (w.heap.size + 1) (J zq b0) (J zq b1) (J zq b2)) := (H3.alloc (h3_at (by simp)) _).ext x1
  obtain ⟨q10, q11, q12, q13, q14, q15, q16⟩ := F1_1.out
  have F2_1 : Hid (H3 w1 (w.heap.size + 1 + 1) (J zq 0) (J zq 0) (J zq 0)) := (h3_at (by simp)).ext x1
  obtain ⟨q20, q21, q22, q23, q24, q25, q26⟩ := F2_1.out
  go_wp2_with fail
  refine (N0.out _ _ hu1).mono ?_
  rintro e2 w2 ⟨rfl, x2⟩
  have E2 : Ext w w2 := Ext.trans (E1) x2
  have F0_2 : Hid (H3 w2 (w.heap.size) (J zq a0) (J zq a1) (J zq a2)) := (F0_1.out).ext x2
  obtain ⟨q00, q01, q02, q03, q04, q05, q06⟩ := F0_2.out
  have F1_2 : Hid (H3 w2 (w.heap.size + 1) (J zq b0) (J zq b1) (J zq b2)) := (F1_1.out).ext x2
  obtain ⟨q10, q11, q12, q13, q14, q15, q16⟩ := F1_2.out
  have F2_2 : Hid (H3 w2 (w.heap.size + 1 + 1) (J zq 0) (J zq 0) (J zq 0)) := (F2_1.out).ext x2
  obtain ⟨q20, q21, q22, q23, q24, q25, q26⟩ := F2_2.out
  go_wp2_with fail
  refine (L1.out _).mono ?_
  rintro e3 w3 ⟨⟨u3, rfl, hu3⟩, x3⟩
  have E3 : Ext w w3 := Ext.trans (E2) x3
  have F0_3 : Hid (H3 w3 (w.heap.size) (J zq a0) (J zq a1) (J zq a2)) := (F0_2.out).ext x3
  obtain ⟨q00, q01, q02, q03, q04, q05, q06⟩ := F0_3.out
  have F1_3 : Hid (H3 w3 (w.heap.size + 1) (J zq b0) (J zq b1) (J zq b2)) := (F1_2.out).ext x3
  obtain ⟨q10, q11, q12, q13, q14, q15, q16⟩ := F1_3.out
  have F2_3 : Hid (H3 w3 (w.heap.size + 1 + 1) (J zq 0) (J zq 0) (J zq 0)) := (F2_2.out).ext x3
  obtain ⟨q20, q21, q22, q23, q24, q25, q26⟩ := F2_3.out
  go_wp2_with fail
  refine (N1.out _ _ hu3).mono ?_
  rintro e4 w4 ⟨rfl, x4⟩
  have E4 : Ext w w4 := Ext.trans (E3) x4
  have F0_4 : Hid (H3 w4 (w.heap.size) (J zq a0) (J zq a1) (J zq a2)) := (F0_3.out).ext x4
  obtain ⟨q00, q01, q02, q03, q04, q05, q06⟩ := F0_4.out
  have F1_4 : Hid (H3 w4 (w.heap.size + 1) (J zq b0) (J zq b1) (J zq b2)) := (F1_3.out).ext x4
  obtain ⟨q10, q11, q12, q13, q14, q15, q16⟩ := F1_4.out
  have F2_4 : Hid (H3 w4 (w.heap.size + 1 + 1) (J zq 0) (J zq 0) (J zq 0)) := (F2_3.out).ext x4
  obtain ⟨q20, q21, q22, q23, q24, q25, q26⟩ := F2_4.out
  go_wp2_with fail
  refine (L2.out _).mono ?_
  rintro e5 w5 ⟨⟨u5, rfl, hu5⟩, x5⟩
  have E5 : Ext w w5 := Ext.trans (E4) x5
  have F0_5 : Hid (H3 w5 (w.heap.size) (J zq a0) (J zq a1) (J zq a2)) := (F0_4.out).ext x5
  obtain ⟨q00, q01, q02, q03, q04, q05, q06⟩ := F0_5.out
  have F1_5 : Hid (H3 w5 (w.heap.size + 1) (J zq b0) (J zq b1) (J zq b2)) := (F1_4.out).ext x5
  obtain ⟨q10, q11, q12, q13, q14, q15, q16⟩ := F1_5.out
  have F2_5 : Hid (H3 w5 (w.heap.size + 1 + 1) (J zq 0) (J zq 0) (J zq 0)) := (F2_4.out).ext x5
  obtain ⟨q20, q21, q22, q23, q24, q25, q26⟩ := F2_5.out
  go_wp2_with fail
  refine (N2.out _ _ hu5).mono ?_
  rintro e6 w6 ⟨rfl, x6⟩
  have E6 : Ext w w6 := Ext.trans (E5) x6
  have F0_6 : Hid (H3 w6 (w.heap.size) (J zq a0) (J zq a1) (J zq a2)) := (F0_5.out).ext x6
  obtain ⟨q00, q01, q02, q03, q04, q05, q06⟩ := F0_6.out
  have F1_6 : Hid (H3 w6 (w.heap.size + 1) (J zq b0) (J zq b1) (J zq b2)) := (F1_5.out).ext x6
  obtain ⟨q10, q11, q12, q13, q14, q15, q16⟩ := F1_6.out
  have F2_6 : Hid (H3 w6 (w.heap.size + 1 + 1) (J zq 0) (J zq 0) (J zq 0)) := (F2_5.out).ext x6
  obtain ⟨q20, q21, q22, q23, q24, q25, q26⟩ := F2_6.out
  go_wp2_with fail
  refine (HT.out _).mono ?_
  rintro e7 w7 ⟨rfl, x7⟩
  have E7 : Ext w w7 := Ext.trans (E6) x7
  have F0_7 : Hid (H3 w7 (w.heap.size) (J zq a0) (J zq a1) (J zq a2)) := (F0_6.out).ext x7
  obtain ⟨q00, q01, q02, q03, q04, q05, q06⟩ := F0_7.out
  have F1_7 : Hid (H3 w7 (w.heap.size + 1) (J zq b0) (J zq b1) (J zq b2)) := (F1_6.out).ext x7
  obtain ⟨q10, q11, q12, q13, q14, q15, q16⟩ := F1_7.out
  have F2_7 : Hid (H3 w7 (w.heap.size + 1 + 1) (J zq 0) (J zq 0) (J zq 0)) := (F2_6.out).ext x7
  obtain ⟨q20, q21, q22, q23, q24, q25, q26⟩ := F2_7.out
  go_wp2_with fail
  exact bodyPost_ret (v := .tuple #[zG #[J zq x, J zq y, J zq z], J zq e]) (by simp [results, Tryz.results31, go_sem, q20, q21, q22]) rfl ⟨rfl, xa⟩
theorem rcross_any (a0 a1 a2 b0 b1 b2 : Int) (w : World) (h1 : ok3 a0 a1 a2 = true) (h2 : ok3 b0 b1 b2 = true) :
    Calls zP 31 #[zG #[J zq a0, J zq a1, J zq a2], zG #[J zq b0, J zq b1, J zq b2]] w fun e w' => e = zR (vres (nearQ (a1 * b2 - a2 * b1)) (nearQ (a2 * b0 - a0 * b2)) (nearQ (a0 * b1 - a1 * b0))) ∧ Ext w w' := by
  obtain ⟨g0, g1, g2⟩ := ok3_parts h1
  obtain ⟨k0, k1, k2⟩ := ok3_parts h2
  have f : ∀ a b c d : Int, okW a = true → okW b = true → okW c = true → okW d = true → Fit 200 (a * b - c * d) := fun a b c d ha hb hc hd => by
    have p1 := prod_abs ha hb
    have p2 := prod_abs hc hd
    unfold Fit
    have e : (2 : Nat) ^ 200 = 1606938044258990275541962092341162602522202993782792835301376 := by decide
    omega
  exact rcross_raw a0 a1 a2 b0 b1 b2 _ _ _ _ _ _ w (fun w' => rless_any a1 b2 a2 b1 w' g1 k2 g2 k1) (fun r w' hr => nearQ_word _ r w' hr (f _ _ _ _ g1 k2 g2 k1)) (fun w' => rless_any a2 b0 a0 b2 w' g2 k0 g0 k2) (fun r w' hr => nearQ_word _ r w' hr (f _ _ _ _ g2 k0 g0 k2)) (fun w' => rless_any a0 b1 a1 b0 w' g0 k1 g1 k0) (fun r w' hr => nearQ_word _ r w' hr (f _ _ _ _ g0 k1 g1 k0))
set_option maxHeartbeats 8000000 in
theorem rdot_raw (a0 a1 a2 b0 b1 b2 p q s t D : Int) (w : World)
    (P0 : Hid (∀ w', Calls zP 21 #[J zq a0, J zq b0] w' fun e w'' => (∃ r, e = zR r ∧ IsI w'' r p) ∧ Ext w' w''))
    (P1 : Hid (∀ w', Calls zP 21 #[J zq a1, J zq b1] w' fun e w'' => (∃ r, e = zR r ∧ IsI w'' r q) ∧ Ext w' w''))
    (P2 : Hid (∀ w', Calls zP 21 #[J zq a2, J zq b2] w' fun e w'' => (∃ r, e = zR r ∧ IsI w'' r s) ∧ Ext w' w''))
    (L1 : Hid (∀ r1 r2 w', IsI w' r1 p → IsI w' r2 q → Calls zP 51 #[r1, r2] w' fun e w'' => (∃ r, e = zR r ∧ IsI w'' r t) ∧ Ext w' w''))
    (L2 : Hid (∀ r1 r2 w', IsI w' r1 t → IsI w' r2 s → Calls zP 51 #[r1, r2] w' fun e w'' => (∃ r, e = zR r ∧ IsI w'' r D) ∧ Ext w' w'')) :
    Calls zP 52 #[zG #[J zq a0, J zq a1, J zq a2], zG #[J zq b0, J zq b1, J zq b2]] w fun e w' => (∃ r, e = zR r ∧ IsI w' r D) ∧ Ext w w' := by
  have PB : Hid (H3 (((w.alloc (.cells #[J zq a0, J zq a1, J zq a2] 28)).alloc (.cells #[J zq b0, J zq b1, J zq b2] 28)).alloc (.cells #[.bool false, .slice none 0 0] 50)).drew w.heap.size (J zq a0) (J zq a1) (J zq a2)) := H3.drew (H3.alloc (H3.alloc (h3_at rfl) _) _)
  have NB : Hid (H3 (((w.alloc (.cells #[J zq a0, J zq a1, J zq a2] 28)).alloc (.cells #[J zq b0, J zq b1, J zq b2] 28)).alloc (.cells #[.bool false, .slice none 0 0] 50)).drew (w.heap.size + 1) (J zq b0) (J zq b1) (J zq b2)) := H3.drew (H3.alloc (h3_at (by simp)) _)
  have RB : Hid (Has (((w.alloc (.cells #[J zq a0, J zq a1, J zq a2] 28)).alloc (.cells #[J zq b0, J zq b1, J zq b2] 28)).alloc (.cells #[.bool false, .slice none 0 0] 50)).drew (w.heap.size + 1 + 1) (.bool false) (.slice none 0 0)) := by
    have h : Has (((w.alloc (.cells #[J zq a0, J zq a1, J zq a2] 28)).alloc (.cells #[J zq b0, J zq b1, J zq b2] 28)).alloc (.cells #[.bool false, .slice none 0 0] 50)) _ _ _ := ext_new1 (Ext.refl _)
    have h2 := h.ext (Ext.refl _).drew
    rw [World.size_alloc, World.size_alloc] at h2
    exact h2
  have E0 : Ext w (((w.alloc (.cells #[J zq a0, J zq a1, J zq a2] 28)).alloc (.cells #[J zq b0, J zq b1, J zq b2] 28)).alloc (.cells #[.bool false, .slice none 0 0] 50)).drew := ((((Ext.refl _).alloc _).alloc _).alloc _).drew
  have ne1 : w.heap.size ≠ w.heap.size + 1 + 1 := by omega
  have ne2 : w.heap.size + 1 ≠ w.heap.size + 1 + 1 := by omega
  go_enter Tryz.func52, Tryz.ntmps52
  go_wp2_with fail
  go_region_held (fun w' => w'.cell? ⟨w.heap.size, 0, none⟩ = some (J zq a0) ∧ w'.cell? ⟨w.heap.size, 1, none⟩ = some (J zq a1) ∧ w'.cell? ⟨w.heap.size, 2, none⟩ = some (J zq a2) ∧ w'.cell? ⟨w.heap.size + 1, 0, none⟩ = some (J zq b0) ∧ w'.cell? ⟨w.heap.size + 1, 1, none⟩ = some (J zq b1) ∧ w'.cell? ⟨w.heap.size + 1, 2, none⟩ = some (J zq b2)) (first | (go_keep; done) | (simp only [far2 _ _ _ _ _ ne1, far2 _ _ _ _ _ ne2]; exact ⟨by assumption, by assumption, by assumption, by assumption, by assumption, by assumption⟩)) (first | (go_at_call_of 21 (Value.int IntKind.i64 a0); refine (P0.out _).mono ?_; rintro e wA ⟨⟨rA, rfl, hA⟩, xA⟩; have yA : Ext (((w.alloc (.cells #[J zq a0, J zq a1, J zq a2] 28)).alloc (.cells #[J zq b0, J zq b1, J zq b2] 28)).alloc (.cells #[.bool false, .slice none 0 0] 50)).drew wA := Ext.trans (Ext.refl _) xA; obtain ⟨p0, p1, p2, p3, p4, p5, p6⟩ := PB.out.ext yA; obtain ⟨n0, n1, n2, n3, n4, n5, n6⟩ := NB.out.ext yA; obtain ⟨m0, m1, m2, m3⟩ := RB.out.ext yA) | (go_at_call_of 21 (Value.int IntKind.i64 a1); refine (P1.out _).mono ?_; rintro e wB ⟨⟨rB, rfl, hB⟩, xB⟩; have yB : Ext (((w.alloc (.cells #[J zq a0, J zq a1, J zq a2] 28)).alloc (.cells #[J zq b0, J zq b1, J zq b2] 28)).alloc (.cells #[.bool false, .slice none 0 0] 50)).drew wB := Ext.trans yA xB; obtain ⟨p0, p1, p2, p3, p4, p5, p6⟩ := PB.out.ext yB; obtain ⟨n0, n1, n2, n3, n4, n5, n6⟩ := NB.out.ext yB; obtain ⟨m0, m1, m2, m3⟩ := RB.out.ext yB) | (go_at_call_of 51 rA; refine (L1.out _ _ _ (hA.ext xB) hB).mono ?_; rintro e wC ⟨⟨rC, rfl, hC⟩, xC⟩; have yC : Ext (((w.alloc (.cells #[J zq a0, J zq a1, J zq a2] 28)).alloc (.cells #[J zq b0, J zq b1, J zq b2] 28)).alloc (.cells #[.bool false, .slice none 0 0] 50)).drew wC := Ext.trans yB xC; obtain ⟨p0, p1, p2, p3, p4, p5, p6⟩ := PB.out.ext yC; obtain ⟨n0, n1, n2, n3, n4, n5, n6⟩ := NB.out.ext yC; obtain ⟨m0, m1, m2, m3⟩ := RB.out.ext yC) | (go_at_call_of 21 (Value.int IntKind.i64 a2); refine (P2.out _).mono ?_; rintro e wD ⟨⟨rD, rfl, hD⟩, xD⟩; have yD : Ext (((w.alloc (.cells #[J zq a0, J zq a1, J zq a2] 28)).alloc (.cells #[J zq b0, J zq b1, J zq b2] 28)).alloc (.cells #[.bool false, .slice none 0 0] 50)).drew wD := Ext.trans yC xD; obtain ⟨p0, p1, p2, p3, p4, p5, p6⟩ := PB.out.ext yD; obtain ⟨n0, n1, n2, n3, n4, n5, n6⟩ := NB.out.ext yD; obtain ⟨m0, m1, m2, m3⟩ := RB.out.ext yD) | (go_at_call_of 51 rC; refine (L2.out _ _ _ (hC.ext xD) hD).mono ?_; rintro e wE ⟨⟨rE, rfl, hE⟩, xE⟩; have yE : Ext (((w.alloc (.cells #[J zq a0, J zq a1, J zq a2] 28)).alloc (.cells #[J zq b0, J zq b1, J zq b2] 28)).alloc (.cells #[.bool false, .slice none 0 0] 50)).drew wE := Ext.trans yD xE; obtain ⟨p0, p1, p2, p3, p4, p5, p6⟩ := PB.out.ext yE; obtain ⟨n0, n1, n2, n3, n4, n5, n6⟩ := NB.out.ext yE; obtain ⟨m0, m1, m2, m3⟩ := RB.out.ext yE; obtain ⟨u, hu, hk⟩ := hE; obtain ⟨au, lu, cu, hau⟩ := hk.isSlice; subst hau; subst hu; have HI : Hid (IsI wE (zG #[.bool (decide (D < 0)), .slice au lu cu]) D) := ⟨_, rfl, hk⟩; clear hk))
  all_goals
    have X3 : Hid (Ext w wE) := E0.trans yE
    clear E0 yA yB yC yD yE xA xB xC xD xE hA hB hC hD
    go_wp2_with fail
    exact bodyPost_ret (v := zG #[.bool (decide (D < 0)), .slice au lu cu]) (by simp [results, Tryz.results52, go_sem, m0, m1]) rfl ⟨⟨_, rfl, HI.out.set2 m0 m1⟩, by have SZ := X3.out.size; exact (X3.out.set (by dsimp only; omega) _).set (by dsimp only; omega) _⟩
theorem rdot_any (a0 a1 a2 b0 b1 b2 : Int) (w : World) (h1 : ok3 a0 a1 a2 = true) (h2 : ok3 b0 b1 b2 = true) :
    Calls zP 52 #[zG #[J zq a0, J zq a1, J zq a2], zG #[J zq b0, J zq b1, J zq b2]] w fun e w' => (∃ r, e = zR r ∧ IsI w' r (dot3 a0 a1 a2 b0 b1 b2)) ∧ Ext w w' := by
  obtain ⟨g0, g1, g2⟩ := ok3_parts h1
  obtain ⟨k0, k1, k2⟩ := ok3_parts h2
  have q0 := prod_abs g0 k0
  have q1 := prod_abs g1 k1
  have q2 := prod_abs g2 k2
  have e : (2 : Nat) ^ 200 = 1606938044258990275541962092341162602522202993782792835301376 := by decide
  have f0 : Fit 200 (a0 * b0) := by unfold Fit; omega
  have f1 : Fit 200 (a1 * b1) := by unfold Fit; omega
  have f2 : Fit 200 (a2 * b2) := by unfold Fit; omega
  have f3 : Fit 200 (a0 * b0 + a1 * b1) := by unfold Fit; omega
  have f4 : Fit 200 (a0 * b0 + a1 * b1 + a2 * b2) := by unfold Fit; omega
  exact rdot_raw a0 a1 a2 b0 b1 b2 _ _ _ _ _ w (fun w' => prod_any a0 b0 w' (word64 g0).1 (word64 g0).2 (word64 k0).1 (word64 k0).2) (fun w' => prod_any a1 b1 w' (word64 g1).1 (word64 g1).2 (word64 k1).1 (word64 k1).2) (fun w' => prod_any a2 b2 w' (word64 g2).1 (word64 g2).2 (word64 k2).1 (word64 k2).2) (fun r1 r2 w' i1 i2 => plus_isI _ _ r1 r2 w' i1 i2 (f0.small (by omega)) (f1.small (by omega)) (f3.small (by omega))) (fun r1 r2 w' i1 i2 => plus_isI _ _ r1 r2 w' i1 i2 (f3.small (by omega)) (f2.small (by omega)) (f4.small (by omega)))
end Go.Proofs.YtoeecldhbabmbaaGreat
