/- The reference of layer 1: OverRoot. The reference of layer 1: OverRoot of a whole number by the root of one. The reference of layer 3: three, Add, Neg, Sub, Scale. The reference of layer 3: less, Cross, dot, Dot, Apply. -/
import Derived.Test.YtfmalpnlencmbaaGreatMg40p
import Derived.Test.YtfmalpnlencmbaaGreatMg0p
import Derived.Deep.RegionHeld3
import Derived.Deep.DeepCutAuto
import Derived.Test.YtfmalpnlencmbaaGreatV1mp
import Derived.Test.YtfmalpnlencmbaaGreatMg16p
import Derived.Test.YtfmalpnlencmbaaGreatW9mp
import Derived.Test.YtfmalpnlencmbaaGreatMg10p
import Derived.Test.YtfmalpnlencmbaaGreatMg39p
namespace Go.Proofs.YtfmalpnlencmbaaGreat
open Go.RowKit
theorem IsI.put2 {w : World} {g : Nat} {v x0 x1 : Value} {z : Int} (h : IsI w v z) (hV : HV w g [.bool false, .slice none 0 0]) : IsI ((w.setCell ⟨g, 0, none⟩ x0).setCell ⟨g, 1, none⟩ x1) v z :=
  (h.set (hV.c 0 rfl) (by simp)).set ((hV.set 0 x0).c 1 rfl) (by simp)
set_option maxHeartbeats 16000000 in
theorem over_cut (ba bc : Bool) (aa ac : Option Addr) (la ka lc kc : Nat) (x : Int) (d s : Nat) (N' : Int) (D' : Nat) (w : World)
    (IA : Hid (IsI w (.agg #[.bool ba, .slice aa la ka]) x)) (IC : Hid (IsN w (.slice ac lc kc) d))
    (HT : Hid (∀ r1 r2 w', IsI w' r1 x → IsI w' r2 x → Calls Tryz.prog 124 #[r1, r2] w' fun e w'' => (∃ r, e = .returned r ∧ IsI w'' r (x * x)) ∧ Ext w' w''))
    (HM : Hid (∀ r v w', IsI w' r (x * x) → IsN w' v d → Calls Tryz.prog 119 #[r, v] w' fun e w'' => (∃ q, e = .returned q ∧ IsQ w'' q N' D') ∧ Ext w' w''))
    (HR : Hid (∀ q w', IsQ w' q N' D' → Calls Tryz.prog 123 #[q] w' fun e w'' => (∃ r, e = .returned r ∧ IsI w'' r (s : Int)) ∧ Ext w' w''))
    (HN : Hid (∀ r w', IsI w' r (s : Int) → Calls Tryz.prog 125 #[r] w' fun e w'' => (∃ r', e = .returned r' ∧ IsI w'' r' (-(s : Int))) ∧ Ext w' w'')) :
    Calls Tryz.prog 66 #[.agg #[.bool ba, .slice aa la ka], .agg #[.bool bc, .slice ac lc kc]] w fun e w' => (∃ r, e = .returned r ∧ IsI w' r (if ba then -(s : Int) else (s : Int))) ∧ Ext w w' := by
  have GA : Hid (HV (((w.alloc (.cells #[.bool ba, .slice aa la ka] 61)).alloc (.cells #[.bool bc, .slice ac lc kc] 61)).alloc (.cells #[.bool false, .slice none 0 0] 61)) w.heap.size [.bool ba, .slice aa la ka]) := HV.alloc (HV.alloc (hv_at rfl) _) _
  have GC : Hid (HV (((w.alloc (.cells #[.bool ba, .slice aa la ka] 61)).alloc (.cells #[.bool bc, .slice ac lc kc] 61)).alloc (.cells #[.bool false, .slice none 0 0] 61)) (w.heap.size + 1) [.bool bc, .slice ac lc kc]) := HV.alloc (hv_at (by simp)) _
  have GR : Hid (HV (((w.alloc (.cells #[.bool ba, .slice aa la ka] 61)).alloc (.cells #[.bool bc, .slice ac lc kc] 61)).alloc (.cells #[.bool false, .slice none 0 0] 61)) (w.heap.size + 1 + 1) [.bool false, .slice none 0 0]) := hv_at (by simp)
  have E0 : Hid (Ext w (((w.alloc (.cells #[.bool ba, .slice aa la ka] 61)).alloc (.cells #[.bool bc, .slice ac lc kc] 61)).alloc (.cells #[.bool false, .slice none 0 0] 61))) := (((Ext.refl _).alloc _).alloc _).alloc _
  have IA : Hid (IsI (((w.alloc (.cells #[.bool ba, .slice aa la ka] 61)).alloc (.cells #[.bool bc, .slice ac lc kc] 61)).alloc (.cells #[.bool false, .slice none 0 0] 61)) (.agg #[.bool ba, .slice aa la ka]) x) := IA.out.ext E0.out
  have IC : Hid (IsN (((w.alloc (.cells #[.bool ba, .slice aa la ka] 61)).alloc (.cells #[.bool bc, .slice ac lc kc] 61)).alloc (.cells #[.bool false, .slice none 0 0] 61)) (.slice ac lc kc) d) := IC.out.ext E0.out
  go_enter Tryz.func66, Tryz.ntmps66
  go_upto_region 1 with fail
  generalize (((w.alloc (.cells #[.bool ba, .slice aa la ka] 61)).alloc (.cells #[.bool bc, .slice ac lc kc] 61)).alloc (.cells #[.bool false, .slice none 0 0] 61)) = wB at *
  go_cut [5] (fun v5 wx => ∃ (g : Nat) (b : Bool) (a : Option Addr) (l c : Nat), v5 = .pointer (some ⟨g, 0, none⟩) ∧ Hid (wB.heap.size ≤ g) ∧ Hid (HV wx g [.bool b, .slice a l c]) ∧ Hid (IsI wx (.agg #[.bool b, .slice a l c]) (s : Int)) ∧ Hid (Ext wB wx))
  case first =>
    have ga := GA.out.c 0 rfl
    have gb := GA.out.c 1 rfl
    have gc := GC.out.c 0 rfl
    have gd := GC.out.c 1 rfl
    have la' := GA.out.1
    have lb' := GC.out.1
    have na := Nat.ne_of_lt la'
    have nb := Nat.ne_of_gt la'
    have nc := Nat.ne_of_lt lb'
    have nd := Nat.ne_of_gt lb'
    go_region_held3 (fun w' => w'.cell? ⟨w.heap.size, 0, none⟩ = some (.bool ba) ∧ w'.cell? ⟨w.heap.size, 1, none⟩ = some (.slice aa la ka) ∧ w'.cell? ⟨w.heap.size + 1, 0, none⟩ = some (.bool bc) ∧ w'.cell? ⟨w.heap.size + 1, 1, none⟩ = some (.slice ac lc kc)) (first | (go_keep; done) | (refine ⟨?_, ?_, ?_, ?_⟩ <;> (rw [World.cell?_setCell_far _ _ _ _ (by dsimp only; omega), World.cell?_setCell_far _ _ _ _ (by dsimp only; omega)]; with_reducible assumption)) | skip) (first | (go_at_call 124; refine (HT.out _ _ _ (IA.out.ext (by repeat (first | with_reducible assumption | with_reducible exact Ext.refl _ | with_reducible refine Ext.drew ?_ | with_reducible refine Ext.drewN ?_ _ | with_reducible refine Ext.alloc ?_ _ | with_reducible refine Ext.set ?_ (by first | exact Nat.le_refl _ | (dsimp only; omega) | (simp; done)) _))) (IA.out.ext (by repeat (first | with_reducible assumption | with_reducible exact Ext.refl _ | with_reducible refine Ext.drew ?_ | with_reducible refine Ext.drewN ?_ _ | with_reducible refine Ext.alloc ?_ _ | with_reducible refine Ext.set ?_ (by first | exact Nat.le_refl _ | (dsimp only; omega) | (simp; done)) _)))).mono ?_; rintro e wP ⟨⟨rP, rfl, hP⟩, xP⟩; have YP : Ext wB wP := Ext.trans (by repeat (first | with_reducible assumption | with_reducible exact Ext.refl _ | with_reducible refine Ext.drew ?_ | with_reducible refine Ext.drewN ?_ _ | with_reducible refine Ext.alloc ?_ _ | with_reducible refine Ext.set ?_ (by first | exact Nat.le_refl _ | (dsimp only; omega) | (simp; done)) _)) xP; have gaP := (GA.out.ext YP).c 0 rfl; have gbP := (GA.out.ext YP).c 1 rfl; have gcP := (GC.out.ext YP).c 0 rfl; have gdP := (GC.out.ext YP).c 1 rfl; have laP := (GA.out.ext YP).1; have lbP := (GC.out.ext YP).1; have naP := Nat.ne_of_lt laP; have nbP := Nat.ne_of_gt laP; have ncP := Nat.ne_of_lt lbP; have ndP := Nat.ne_of_gt lbP; (first | (have N : Hid (HV wP _ [.bool false, .slice none 0 0]) := N.out.ext xP) | (have N : Hid (HV wP _ [.bool false, .slice none 0 0]) := (hv_at rfl).ext xP) | (have N : Hid (HV wP _ [.bool false, .slice none 0 0]) := (HV.drew (hv_at rfl)).ext xP) | (have N : Hid (HV wP _ [.bool false, .slice none 0 0]) := (HV.alloc N.out _).ext xP) | skip)) | (go_at_call 119; refine (HM.out _ _ _ (hP.ext (by repeat (first | with_reducible assumption | with_reducible exact Ext.refl _ | with_reducible refine Ext.drew ?_ | with_reducible refine Ext.drewN ?_ _ | with_reducible refine Ext.alloc ?_ _ | with_reducible refine Ext.set ?_ (by first | exact Nat.le_refl _ | (dsimp only; omega) | (simp; done)) _))) (IC.out.ext (Ext.trans YP (by repeat (first | with_reducible assumption | with_reducible exact Ext.refl _ | with_reducible refine Ext.drew ?_ | with_reducible refine Ext.drewN ?_ _ | with_reducible refine Ext.alloc ?_ _ | with_reducible refine Ext.set ?_ (by first | exact Nat.le_refl _ | (dsimp only; omega) | (simp; done)) _))))).mono ?_; rintro e wT ⟨⟨rT, rfl, hT⟩, xT⟩; have YT : Ext wB wT := Ext.trans (by repeat (first | with_reducible assumption | with_reducible exact Ext.refl _ | with_reducible refine Ext.drew ?_ | with_reducible refine Ext.drewN ?_ _ | with_reducible refine Ext.alloc ?_ _ | with_reducible refine Ext.set ?_ (by first | exact Nat.le_refl _ | (dsimp only; omega) | (simp; done)) _)) xT; have gaT := (GA.out.ext YT).c 0 rfl; have gbT := (GA.out.ext YT).c 1 rfl; have gcT := (GC.out.ext YT).c 0 rfl; have gdT := (GC.out.ext YT).c 1 rfl; have laT := (GA.out.ext YT).1; have lbT := (GC.out.ext YT).1; have naT := Nat.ne_of_lt laT; have nbT := Nat.ne_of_gt laT; have ncT := Nat.ne_of_lt lbT; have ndT := Nat.ne_of_gt lbT; (first | (have N : Hid (HV wT _ [.bool false, .slice none 0 0]) := N.out.ext xT) | (have N : Hid (HV wT _ [.bool false, .slice none 0 0]) := (hv_at rfl).ext xT) | (have N : Hid (HV wT _ [.bool false, .slice none 0 0]) := (HV.drew (hv_at rfl)).ext xT) | (have N : Hid (HV wT _ [.bool false, .slice none 0 0]) := (HV.alloc N.out _).ext xT) | skip)) | (go_at_call 123; refine (HR.out _ _ (hT.ext (by repeat (first | with_reducible assumption | with_reducible exact Ext.refl _ | with_reducible refine Ext.drew ?_ | with_reducible refine Ext.drewN ?_ _ | with_reducible refine Ext.alloc ?_ _ | with_reducible refine Ext.set ?_ (by first | exact Nat.le_refl _ | (dsimp only; omega) | (simp; done)) _)))).mono ?_; rintro e wR ⟨⟨rR, rfl, hR⟩, xR⟩; have YR : Ext wB wR := Ext.trans (by repeat (first | with_reducible assumption | with_reducible exact Ext.refl _ | with_reducible refine Ext.drew ?_ | with_reducible refine Ext.drewN ?_ _ | with_reducible refine Ext.alloc ?_ _ | with_reducible refine Ext.set ?_ (by first | exact Nat.le_refl _ | (dsimp only; omega) | (simp; done)) _)) xR; have gaR := (GA.out.ext YR).c 0 rfl; have gbR := (GA.out.ext YR).c 1 rfl; have gcR := (GC.out.ext YR).c 0 rfl; have gdR := (GC.out.ext YR).c 1 rfl; have laR := (GA.out.ext YR).1; have lbR := (GC.out.ext YR).1; have naR := Nat.ne_of_lt laR; have nbR := Nat.ne_of_gt laR; have ncR := Nat.ne_of_lt lbR; have ndR := Nat.ne_of_gt lbR; (first | (have N : Hid (HV wR _ [.bool false, .slice none 0 0]) := N.out.ext xR) | (have N : Hid (HV wR _ [.bool false, .slice none 0 0]) := (hv_at rfl).ext xR) | (have N : Hid (HV wR _ [.bool false, .slice none 0 0]) := (HV.drew (hv_at rfl)).ext xR) | (have N : Hid (HV wR _ [.bool false, .slice none 0 0]) := (HV.alloc N.out _).ext xR) | skip); obtain ⟨uu, huu, hkk⟩ := hR; obtain ⟨au, lu, cu, hau⟩ := hkk.isSlice; subst hau; subst huu; have HI : Hid (IsI wR (.agg #[.bool (decide ((s : Int) < 0)), .slice au lu cu]) (s : Int)) := ⟨_, rfl, hkk⟩; clear hkk; generalize decide ((s : Int) < 0) = bs at *; (first | (have n0 := N.out.c 0 rfl; have n1 := N.out.c 1 rfl; have f0 := N.out.f 0 rfl; have f1 := N.out.f 1 rfl) | skip)))
    all_goals
      go_wp2_with fail
      go_meet
      first
        | exact ⟨wR.heap.size, _, _, _, _, rfl, YR.size, hv_at rfl, HI.out.ext ((Ext.refl _).alloc _), YR.alloc _⟩
        | exact (have hg : wB.heap.size ≤ wB.heap.size := Nat.le_refl _; ⟨wB.heap.size, _, _, _, _, rfl, hg, (N.out.set 0 _).set 1 _, HI.out.put2 N.out, (YR.set (p := ⟨_, 0, none⟩) hg _).set (p := ⟨_, 1, none⟩) hg _⟩)
        | exact (have hg : wB.heap.size ≤ wP.heap.size := YP.size; ⟨wP.heap.size, _, _, _, _, rfl, hg, (N.out.set 0 _).set 1 _, HI.out.put2 N.out, (YR.set (p := ⟨_, 0, none⟩) hg _).set (p := ⟨_, 1, none⟩) hg _⟩)
        | exact (have hg : wB.heap.size ≤ wT.heap.size := YT.size; ⟨wT.heap.size, _, _, _, _, rfl, hg, (N.out.set 0 _).set 1 _, HI.out.put2 N.out, (YR.set (p := ⟨_, 0, none⟩) hg _).set (p := ⟨_, 1, none⟩) hg _⟩)
  case rest =>
    obtain ⟨gp, b, a, l, c, rfl, hG0, hH, HI, hE⟩ := hcut
    have EE : Hid (Ext w wc) := E0.out.trans hE.out
    have GA := GA.out.ext hE.out
    have GR := GR.out.ext hE.out
    clear GC IC HT HM HR IA
    have q0 := hH.out.c 0 rfl
    have q1 := hH.out.c 1 rfl
    have g0 := GA.c 0 rfl
    have m0 := GR.c 0 rfl
    have m1 := GR.c 1 rfl
    have m2 := GR.f 0 rfl
    have m3 := GR.f 1 rfl
    have ml := GR.1
    cases ba
    · go_wp2_with fail
      exact bodyPost_ret (v := .agg #[.bool b, .slice a l c]) (by simp [results, Tryz.results66, go_sem, m0, m1]) rfl ⟨⟨_, rfl, HI.out.put2 GR⟩, (EE.out.set (p := ⟨w.heap.size + 1 + 1, 0, none⟩) (by dsimp only; omega) _).set (p := ⟨w.heap.size + 1 + 1, 1, none⟩) (by dsimp only; omega) _⟩
    · go_wp2_with fail
      refine (HN.out _ _ HI.out).mono ?_
      rintro e wN ⟨⟨rN, rfl, hN⟩, xN⟩
      obtain ⟨uu, huu, hkk⟩ := hN
      obtain ⟨au, lu, cu, hau⟩ := hkk.isSlice
      subst hau
      subst huu
      have HJ : Hid (IsI wN (.agg #[.bool (decide (-(s : Int) < 0)), .slice au lu cu]) (-(s : Int))) := ⟨_, rfl, hkk⟩
      clear hkk m0 m1 m2 m3 ml q0 q1 g0
      generalize decide (-(s : Int) < 0) = bs at *
      have GR := GR.ext xN
      have m0 := GR.c 0 rfl
      have m1 := GR.c 1 rfl
      have m2 := GR.f 0 rfl
      have m3 := GR.f 1 rfl
      have ml := GR.1
      have EE := EE.out.trans xN
      go_wp2_with fail
      exact bodyPost_ret (v := .agg #[.bool bs, .slice au lu cu]) (by simp [results, Tryz.results66, go_sem, m0, m1]) rfl ⟨⟨_, rfl, HJ.out.put2 GR⟩, (EE.set (p := ⟨w.heap.size + 1 + 1, 0, none⟩) (by dsimp only; omega) _).set (p := ⟨w.heap.size + 1 + 1, 1, none⟩) (by dsimp only; omega) _⟩
end Go.Proofs.YtfmalpnlencmbaaGreat

namespace Go.Proofs.YtfmalpnlencmbaaGreat
open Go.RowKit
theorem rootQ_mul {N d s g : Nat} (hg : 0 < g) (h : RootQ N d s) : RootQ (g * N) (g * d) s := by
  obtain ⟨h1, h2, h3, h4⟩ := h
  have e1 : 4 * (g * N) = g * (4 * N) := by grind
  have e2 : (2 * s + 1) * (2 * s + 1) * (g * d) = g * ((2 * s + 1) * (2 * s + 1) * d) := by grind
  have e3 : (2 * s - 1) * (2 * s - 1) * (g * d) = g * ((2 * s - 1) * (2 * s - 1) * d) := by
    generalize 2 * s - 1 = q
    grind
  unfold RootQ
  rw [e1, e2, e3]
  refine ⟨Nat.mul_le_mul_left g h1, ?_, fun h => h3 (Nat.eq_of_mul_eq_mul_left hg h), fun hs h => h4 hs (Nat.eq_of_mul_eq_mul_left hg h)⟩
  rcases h2 with h2 | h2
  · exact .inl h2
  · exact .inr (Nat.mul_le_mul_left g h2)
theorem rootq_has (p n : Nat) (h0 : 0 < n) : ∃ k, RootQ p n k := by
  obtain ⟨k, k1, k2⟩ := exists_sqrt (p / n)
  have hm : k * k * n ≤ p := by rw [← Nat.le_div_iff_mul_le h0]; exact k1
  have hM : p < (k + 1) * (k + 1) * n := by rw [← Nat.div_lt_iff_lt_mul h0]; exact k2
  by_cases h : (2 * k + 1) * (2 * k + 1) * n < 4 * p ∨ (2 * k + 1) * (2 * k + 1) * n = 4 * p ∧ k % 2 = 1
  · exact ⟨k + 1, rootQ_up hM h⟩
  · exact ⟨k, rootQ_down h0 hm (by omega)⟩
theorem overroot_any (x : Int) (d k : Nat) (r1 r2 : Value) (w : World) (h1 : IsI w r1 x) (h2 : IsI w r2 (d : Int)) (hd : d ≠ 0) (hk : 3 ≤ k) (hk2 : k ≤ 150) (f1 : Fit k x) (f2 : Fit k (d : Int)) :
    Calls Tryz.prog 66 #[r1, r2] w fun e w' => (∃ (r : Value) (s : Nat), e = .returned r ∧ IsI w' r (if x < 0 then -(s : Int) else (s : Int)) ∧ RootQ (x.natAbs * x.natAbs) d s) ∧ Ext w w' := by
  have fx := f1.mul f1
  have sx : SmallI x := f1.small (by omega)
  have sxx : SmallI (x * x) := fx.small (by omega)
  have fd : Fit (k + k) (d : Int) := f2.le (by omega)
  have ex : x * x = ((x.natAbs * x.natAbs : Nat) : Int) := Int.natAbs_mul_self.symm
  obtain ⟨g, hg⟩ : ∃ g, g = Nat.gcd (x * x).natAbs d := ⟨_, rfl⟩
  have hg0 : 0 < g := by rw [hg]; exact Nat.gcd_pos_of_pos_right _ (by omega)
  have en : (x * x).natAbs = x.natAbs * x.natAbs := Int.natAbs_mul x x
  have dv1 : g ∣ x.natAbs * x.natAbs := by rw [hg, ← en]; exact Nat.gcd_dvd_left _ _
  have dv2 : g ∣ d := by rw [hg]; exact Nat.gcd_dvd_right _ _
  obtain ⟨N', hN⟩ := dv1
  obtain ⟨D', hD⟩ := dv2
  have hD0 : D' ≠ 0 := by rintro rfl; omega
  have eN : x * x / (g : Int) = (N' : Int) := by
    rw [ex, hN]
    have : (((g * N' : Nat) : Int)) = (g : Int) * (N' : Int) := by simp
    rw [this]
    exact Int.mul_ediv_cancel_left _ (by omega)
  have eD : d / g = D' := by rw [hD]; exact Nat.mul_div_cancel_left _ hg0
  have leN : N' ≤ x.natAbs * x.natAbs := by rw [hN]; exact Nat.le_mul_of_pos_left _ hg0
  have leD : D' ≤ d := by
    have := Nat.le_mul_of_pos_left D' hg0
    omega
  have fN : Fit (k + k) (N' : Int) := fx.of_le (by rw [en]; exact leN)
  have fD : Fit (k + k) (D' : Int) := fd.of_le leD
  obtain ⟨s, hs⟩ : ∃ s, RootQ N' D' s := rootq_has N' D' (by omega)
  have hS : RootQ (x.natAbs * x.natAbs) d s := by
    have := rootQ_mul hg0 hs
    rw [← hN, ← hD] at this
    exact this
  obtain ⟨u, rfl, ku⟩ := h1
  obtain ⟨v, rfl, kv⟩ := h2
  obtain ⟨a1, l1, c1, e1⟩ := ku.isSlice
  obtain ⟨a2, l2, c2, e2⟩ := kv.isSlice
  subst e1 e2
  have I1 : IsI w (.agg #[.bool (decide (x < 0)), .slice a1 l1 c1]) x := ⟨_, rfl, ku⟩
  have kv' : IsN w (.slice a2 l2 c2) d := kv
  have R := over_cut (decide (x < 0)) (decide ((d : Int) < 0)) a1 a2 l1 c1 l2 c2 x d s (N' : Int) D' w I1 kv'
    (fun r1 r2 w' i1 i2 => times_isI x x r1 r2 w' i1 i2 sx sx sxx)
    (fun r v w' i1 i2 => by
      have h := make_isQ (x * x) d (k + k) r v w' i1 i2 hd (by omega) fx fd
      rw [← hg, eN, eD] at h
      exact h)
    (fun q w' hq => by
      refine (rootnearq_any N' D' (k + k) q w' hq hD0 (by omega) (by omega) fN fD).mono ?_
      rintro e w'' ⟨⟨r, s', he, hr, hs'⟩, hx⟩
      obtain rfl : s' = s := rootQ_unique (by omega) hs' hs
      exact ⟨⟨r, he, hr⟩, hx⟩)
    (fun r w' hr => neg_isI (s : Int) r w' hr (by
      have : s ≤ x.natAbs := by
        apply Nat.le_of_not_gt
        intro hc
        obtain ⟨_, q, _, _⟩ := hS
        rcases q with q | q
        · omega
        · have m1 : (2 * x.natAbs + 1) * (2 * x.natAbs + 1) ≤ (2 * s - 1) * (2 * s - 1) := Nat.mul_le_mul (by omega) (by omega)
          have m2 : (2 * x.natAbs + 1) * (2 * x.natAbs + 1) * 1 ≤ (2 * s - 1) * (2 * s - 1) * d := Nat.mul_le_mul m1 (by omega)
          have e : (2 * x.natAbs + 1) * (2 * x.natAbs + 1) = 4 * (x.natAbs * x.natAbs) + 4 * x.natAbs + 1 := by grind
          omega
      exact (f1.of_le (y := (s : Int)) (by simpa using this)).small (by omega)))
  refine R.mono ?_
  rintro e w' ⟨⟨r, he, hr⟩, hx⟩
  refine ⟨⟨r, s, he, ?_, hS⟩, hx⟩
  by_cases hx0 : x < 0
  · rw [if_pos hx0]
    rw [decide_eq_true hx0] at hr
    exact hr
  · rw [if_neg hx0]
    rw [decide_eq_false hx0] at hr
    exact hr
end Go.Proofs.YtfmalpnlencmbaaGreat

namespace Go.Proofs.YtfmalpnlencmbaaGreat
open Go.RowKit Go.Shelf

theorem word_fit (z : Int) : wordR z = fitR z := rfl
theorem fit_two (z : Int) : (fitR z).2 = 0 ∧ okW z = true ∧ (fitR z).1 = z ∨ (fitR z).2 = 2 ∧ okW z = false ∧ (fitR z).1 = 0 := by
  cases h : okW z
  · rw [fit_no' h]; exact .inr ⟨rfl, rfl, rfl⟩
  · rw [fit_yes' h]; exact .inl ⟨rfl, rfl, rfl⟩
set_option maxHeartbeats 2000000 in
theorem three_any (z0 z1 z2 : Int) (w : World) :
    Calls Tryz.prog 59 #[.int .i64 (fitR z0).1, .int .i64 (fitR z0).2, .int .i64 (fitR z1).1, .int .i64 (fitR z1).2, .int .i64 (fitR z2).1, .int .i64 (fitR z2).2] w fun e w' => e = .returned (vres z0 z1 z2) ∧ Ext w w' := by
  rcases fit_two z0 with ⟨e0, k0, f0⟩ | ⟨e0, k0, f0⟩
  · rcases fit_two z1 with ⟨e1, k1, f1⟩ | ⟨e1, k1, f1⟩
    · rcases fit_two z2 with ⟨e2, k2, f2⟩ | ⟨e2, k2, f2⟩
      · have hv : Hid (vres z0 z1 z2 = .tuple #[.agg #[.int .i64 z0, .int .i64 z1, .int .i64 z2], .int .i64 0]) := by show _ = _; unfold vres ok3; rw [k0, k1, k2]; rfl
        rw [e0, e1, e2, f0, f1, f2, hv.out]
        clear e0 e1 e2 f0 f1 f2 k0 k1 k2 hv
        go_enter Tryz.func59, Tryz.ntmps59
        go_wp2_with fail
        exact bodyPost_ret (v := .tuple #[.agg #[.int .i64 z0, .int .i64 z1, .int .i64 z2], .int .i64 0]) (by simp [results, Tryz.results59, go_sem]) rfl ⟨rfl, by repeat (first | with_reducible assumption | with_reducible exact Ext.refl _ | with_reducible refine Ext.drew ?_ | with_reducible refine Ext.drewN ?_ _ | with_reducible refine Ext.alloc ?_ _ | with_reducible refine Ext.set ?_ (by first | exact Nat.le_refl _ | (dsimp only; omega) | (simp; done)) _)⟩
      · have hv : Hid (vres z0 z1 z2 = .tuple #[.agg #[.int .i64 0, .int .i64 0, .int .i64 0], .int .i64 2]) := by show _ = _; unfold vres ok3; rw [k0, k1, k2]; rfl
        rw [e0, e1, e2, f0, f1, f2, hv.out]
        clear e0 e1 e2 f0 f1 f2 k0 k1 k2 hv
        go_enter Tryz.func59, Tryz.ntmps59
        go_wp2_with fail
        exact bodyPost_ret (v := .tuple #[.agg #[.int .i64 0, .int .i64 0, .int .i64 0], .int .i64 2]) (by simp [results, Tryz.results59, go_sem]) rfl ⟨rfl, by repeat (first | with_reducible assumption | with_reducible exact Ext.refl _ | with_reducible refine Ext.drew ?_ | with_reducible refine Ext.drewN ?_ _ | with_reducible refine Ext.alloc ?_ _ | with_reducible refine Ext.set ?_ (by first | exact Nat.le_refl _ | (dsimp only; omega) | (simp; done)) _)⟩
    · have hv : Hid (vres z0 z1 z2 = .tuple #[.agg #[.int .i64 0, .int .i64 0, .int .i64 0], .int .i64 2]) := by show _ = _; unfold vres ok3; rw [k0, k1]; rfl
      rw [e0, e1, f0, f1, hv.out]
      clear e0 e1 f0 f1 k0 k1 hv
      generalize (fitR z2).1 = c1
      generalize (fitR z2).2 = c2
      go_enter Tryz.func59, Tryz.ntmps59
      go_wp2_with fail
      exact bodyPost_ret (v := .tuple #[.agg #[.int .i64 0, .int .i64 0, .int .i64 0], .int .i64 2]) (by simp [results, Tryz.results59, go_sem]) rfl ⟨rfl, by repeat (first | with_reducible assumption | with_reducible exact Ext.refl _ | with_reducible refine Ext.drew ?_ | with_reducible refine Ext.drewN ?_ _ | with_reducible refine Ext.alloc ?_ _ | with_reducible refine Ext.set ?_ (by first | exact Nat.le_refl _ | (dsimp only; omega) | (simp; done)) _)⟩
  · have hv : Hid (vres z0 z1 z2 = .tuple #[.agg #[.int .i64 0, .int .i64 0, .int .i64 0], .int .i64 2]) := by show _ = _; unfold vres ok3; rw [k0]; rfl
    rw [e0, f0, hv.out]
    clear e0 f0 k0 hv
    generalize (fitR z2).1 = c1
    generalize (fitR z2).2 = c2
    generalize (fitR z1).1 = c3
    generalize (fitR z1).2 = c4
    go_enter Tryz.func59, Tryz.ntmps59
    go_wp2_with fail
    exact bodyPost_ret (v := .tuple #[.agg #[.int .i64 0, .int .i64 0, .int .i64 0], .int .i64 2]) (by simp [results, Tryz.results59, go_sem]) rfl ⟨rfl, by repeat (first | with_reducible assumption | with_reducible exact Ext.refl _ | with_reducible refine Ext.drew ?_ | with_reducible refine Ext.drewN ?_ _ | with_reducible refine Ext.alloc ?_ _ | with_reducible refine Ext.set ?_ (by first | exact Nat.le_refl _ | (dsimp only; omega) | (simp; done)) _)⟩
end Go.Proofs.YtfmalpnlencmbaaGreat

namespace Go.Proofs.YtfmalpnlencmbaaGreat
open Go.RowKit Go.Shelf

end Go.Proofs.YtfmalpnlencmbaaGreat
