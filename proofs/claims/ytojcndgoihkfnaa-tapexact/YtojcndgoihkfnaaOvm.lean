/- The reference of layer 1: OverRoot. -/
import Derived.Test.YtojcndgoihkfnaaRootNearQ2m
import Derived.Test.YtojcndgoihkfnaaMg8
import Derived.Deep.RegionHeld3
import Derived.Deep.DeepCutAuto
namespace Go.Proofs.Ytojcndgoihkfnaa
open Go.RowKit
theorem IsI.put2 {w : World} {g : Nat} {v x0 x1 : Value} {z : Int} (h : IsI w v z) (hV : HV w g [.bool false, .slice none 0 0]) : IsI ((w.setCell ⟨g, 0, none⟩ x0).setCell ⟨g, 1, none⟩ x1) v z :=
  (h.set (hV.c 0 rfl) (by simp)).set ((hV.set 0 x0).c 1 rfl) (by simp)
set_option maxHeartbeats 16000000 in
theorem over_cut (ba bc : Bool) (aa ac : Option Addr) (la ka lc kc : Nat) (x : Int) (d s : Nat) (N' : Int) (D' : Nat) (w : World)
    (IA : Hid (IsI w (.agg #[.bool ba, .slice aa la ka]) x)) (IC : Hid (IsN w (.slice ac lc kc) d))
    (HT : Hid (∀ r1 r2 w', IsI w' r1 x → IsI w' r2 x → Calls Try.prog 46 #[r1, r2] w' fun e w'' => (∃ r, e = .returned r ∧ IsI w'' r (x * x)) ∧ Ext w' w''))
    (HM : Hid (∀ r v w', IsI w' r (x * x) → IsN w' v d → Calls Try.prog 45 #[r, v] w' fun e w'' => (∃ q, e = .returned q ∧ IsQ w'' q N' D') ∧ Ext w' w''))
    (HR : Hid (∀ q w', IsQ w' q N' D' → Calls Try.prog 44 #[q] w' fun e w'' => (∃ r, e = .returned r ∧ IsI w'' r (s : Int)) ∧ Ext w' w''))
    (HN : Hid (∀ r w', IsI w' r (s : Int) → Calls Try.prog 47 #[r] w' fun e w'' => (∃ r', e = .returned r' ∧ IsI w'' r' (-(s : Int))) ∧ Ext w' w'')) :
    Calls Try.prog 34 #[.agg #[.bool ba, .slice aa la ka], .agg #[.bool bc, .slice ac lc kc]] w fun e w' => (∃ r, e = .returned r ∧ IsI w' r (if ba then -(s : Int) else (s : Int))) ∧ Ext w w' := by
  have GA : Hid (HV (((w.alloc (.cells #[.bool ba, .slice aa la ka] 72)).alloc (.cells #[.bool bc, .slice ac lc kc] 72)).alloc (.cells #[.bool false, .slice none 0 0] 72)) w.heap.size [.bool ba, .slice aa la ka]) := HV.alloc (HV.alloc (hv_at rfl) _) _
  have GC : Hid (HV (((w.alloc (.cells #[.bool ba, .slice aa la ka] 72)).alloc (.cells #[.bool bc, .slice ac lc kc] 72)).alloc (.cells #[.bool false, .slice none 0 0] 72)) (w.heap.size + 1) [.bool bc, .slice ac lc kc]) := HV.alloc (hv_at (by simp)) _
  have GR : Hid (HV (((w.alloc (.cells #[.bool ba, .slice aa la ka] 72)).alloc (.cells #[.bool bc, .slice ac lc kc] 72)).alloc (.cells #[.bool false, .slice none 0 0] 72)) (w.heap.size + 1 + 1) [.bool false, .slice none 0 0]) := hv_at (by simp)
  have E0 : Hid (Ext w (((w.alloc (.cells #[.bool ba, .slice aa la ka] 72)).alloc (.cells #[.bool bc, .slice ac lc kc] 72)).alloc (.cells #[.bool false, .slice none 0 0] 72))) := (((Ext.refl _).alloc _).alloc _).alloc _
  have IA : Hid (IsI (((w.alloc (.cells #[.bool ba, .slice aa la ka] 72)).alloc (.cells #[.bool bc, .slice ac lc kc] 72)).alloc (.cells #[.bool false, .slice none 0 0] 72)) (.agg #[.bool ba, .slice aa la ka]) x) := IA.out.ext E0.out
  have IC : Hid (IsN (((w.alloc (.cells #[.bool ba, .slice aa la ka] 72)).alloc (.cells #[.bool bc, .slice ac lc kc] 72)).alloc (.cells #[.bool false, .slice none 0 0] 72)) (.slice ac lc kc) d) := IC.out.ext E0.out
  go_enter Try.func34, Try.ntmps34
  go_upto_region 1 with fail
  generalize (((w.alloc (.cells #[.bool ba, .slice aa la ka] 72)).alloc (.cells #[.bool bc, .slice ac lc kc] 72)).alloc (.cells #[.bool false, .slice none 0 0] 72)) = wB at *
  go_cut [5] (fun v5 wx => ∃ (g : Nat) (b : Bool) (a : Option Addr) (l c : Nat), v5 = .pointer (some ⟨g, 0, none⟩) ∧ Hid (wB.heap.size ≤ g) ∧ Hid (HV wx g [.bool b, .slice a l c]) ∧ Hid (IsI wx (.agg #[.bool b, .slice a l c]) (s : Int)) ∧ Hid (Ext wB wx))
  case first =>
    have ga := GA.out.c 0 rfl
    have gb := GA.out.c 1 rfl
    have gc := GC.out.c 0 rfl
    have gd := GC.out.c 1 rfl
    have la' := GA.out.1
    have lb' := GC.out.1
    have na := Nat.ne_of_lt la'
    have nb := Nat.ne_of_gt la'
    have nc := Nat.ne_of_lt lb'
    have nd := Nat.ne_of_gt lb'
    go_region_held3 (fun w' => w'.cell? ⟨w.heap.size, 0, none⟩ = some (.bool ba) ∧ w'.cell? ⟨w.heap.size, 1, none⟩ = some (.slice aa la ka) ∧ w'.cell? ⟨w.heap.size + 1, 0, none⟩ = some (.bool bc) ∧ w'.cell? ⟨w.heap.size + 1, 1, none⟩ = some (.slice ac lc kc)) (first | (go_keep; done) | (refine ⟨?_, ?_, ?_, ?_⟩ <;> (rw [World.cell?_setCell_far _ _ _ _ (by dsimp only; omega), World.cell?_setCell_far _ _ _ _ (by dsimp only; omega)]; with_reducible assumption)) | skip) (first | (go_at_call 46; refine (HT.out _ _ _ (IA.out.ext (by repeat (first | with_reducible assumption | with_reducible exact Ext.refl _ | with_reducible refine Ext.drew ?_ | with_reducible refine Ext.drewN ?_ _ | with_reducible refine Ext.alloc ?_ _ | with_reducible refine Ext.set ?_ (by first | exact Nat.le_refl _ | (dsimp only; omega) | (simp; done)) _))) (IA.out.ext (by repeat (first | with_reducible assumption | with_reducible exact Ext.refl _ | with_reducible refine Ext.drew ?_ | with_reducible refine Ext.drewN ?_ _ | with_reducible refine Ext.alloc ?_ _ | with_reducible refine Ext.set ?_ (by first | exact Nat.le_refl _ | (dsimp only; omega) | (simp; done)) _)))).mono ?_; rintro e wP ⟨⟨rP, rfl, hP⟩, xP⟩; have YP : Ext wB wP := Ext.trans (by repeat (first | with_reducible assumption | with_reducible exact Ext.refl _ | with_reducible refine Ext.drew ?_ | with_reducible refine Ext.drewN ?_ _ | with_reducible refine Ext.alloc ?_ _ | with_reducible refine Ext.set ?_ (by first | exact Nat.le_refl _ | (dsimp only; omega) | (simp; done)) _)) xP; have gaP := (GA.out.ext YP).c 0 rfl; have gbP := (GA.out.ext YP).c 1 rfl; have gcP := (GC.out.ext YP).c 0 rfl; have gdP := (GC.out.ext YP).c 1 rfl; have laP := (GA.out.ext YP).1; have lbP := (GC.out.ext YP).1; have naP := Nat.ne_of_lt laP; have nbP := Nat.ne_of_gt laP; have ncP := Nat.ne_of_lt lbP; have ndP := Nat.ne_of_gt lbP; (first | (have N : Hid (HV wP _ [.bool false, .slice none 0 0]) := N.out.ext xP) | (have N : Hid (HV wP _ [.bool false, .slice none 0 0]) := (hv_at rfl).ext xP) | (have N : Hid (HV wP _ [.bool false, .slice none 0 0]) := (HV.drew (hv_at rfl)).ext xP) | (have N : Hid (HV wP _ [.bool false, .slice none 0 0]) := (HV.alloc N.out _).ext xP) | skip)) | (go_at_call 45; refine (HM.out _ _ _ (hP.ext (by repeat (first | with_reducible assumption | with_reducible exact Ext.refl _ | with_reducible refine Ext.drew ?_ | with_reducible refine Ext.drewN ?_ _ | with_reducible refine Ext.alloc ?_ _ | with_reducible refine Ext.set ?_ (by first | exact Nat.le_refl _ | (dsimp only; omega) | (simp; done)) _))) (IC.out.ext (Ext.trans YP (by repeat (first | with_reducible assumption | with_reducible exact Ext.refl _ | with_reducible refine Ext.drew ?_ | with_reducible refine Ext.drewN ?_ _ | with_reducible refine Ext.alloc ?_ _ | with_reducible refine Ext.set ?_ (by first | exact Nat.le_refl _ | (dsimp only; omega) | (simp; done)) _))))).mono ?_; rintro e wT ⟨⟨rT, rfl, hT⟩, xT⟩; have YT : Ext wB wT := Ext.trans (by repeat (first | with_reducible assumption | with_reducible exact Ext.refl _ | with_reducible refine Ext.drew ?_ | with_reducible refine Ext.drewN ?_ _ | with_reducible refine Ext.alloc ?_ _ | with_reducible refine Ext.set ?_ (by first | exact Nat.le_refl _ | (dsimp only; omega) | (simp; done)) _)) xT; have gaT := (GA.out.ext YT).c 0 rfl; have gbT := (GA.out.ext YT).c 1 rfl; have gcT := (GC.out.ext YT).c 0 rfl; have gdT := (GC.out.ext YT).c 1 rfl; have laT := (GA.out.ext YT).1; have lbT := (GC.out.ext YT).1; have naT := Nat.ne_of_lt laT; have nbT := Nat.ne_of_gt laT; have ncT := Nat.ne_of_lt lbT; have ndT := Nat.ne_of_gt lbT; (first | (have N : Hid (HV wT _ [.bool false, .slice none 0 0]) := N.out.ext xT) | (have N : Hid (HV wT _ [.bool false, .slice none 0 0]) := (hv_at rfl).ext xT) | (have N : Hid (HV wT _ [.bool false, .slice none 0 0]) := (HV.drew (hv_at rfl)).ext xT) | (have N : Hid (HV wT _ [.bool false, .slice none 0 0]) := (HV.alloc N.out _).ext xT) | skip)) | (go_at_call 44; refine (HR.out _ _ (hT.ext (by repeat (first | with_reducible assumption | with_reducible exact Ext.refl _ | with_reducible refine Ext.drew ?_ | with_reducible refine Ext.drewN ?_ _ | with_reducible refine Ext.alloc ?_ _ | with_reducible refine Ext.set ?_ (by first | exact Nat.le_refl _ | (dsimp only; omega) | (simp; done)) _)))).mono ?_; rintro e wR ⟨⟨rR, rfl, hR⟩, xR⟩; have YR : Ext wB wR := Ext.trans (by repeat (first | with_reducible assumption | with_reducible exact Ext.refl _ | with_reducible refine Ext.drew ?_ | with_reducible refine Ext.drewN ?_ _ | with_reducible refine Ext.alloc ?_ _ | with_reducible refine Ext.set ?_ (by first | exact Nat.le_refl _ | (dsimp only; omega) | (simp; done)) _)) xR; have gaR := (GA.out.ext YR).c 0 rfl; have gbR := (GA.out.ext YR).c 1 rfl; have gcR := (GC.out.ext YR).c 0 rfl; have gdR := (GC.out.ext YR).c 1 rfl; have laR := (GA.out.ext YR).1; have lbR := (GC.out.ext YR).1; have naR := Nat.ne_of_lt laR; have nbR := Nat.ne_of_gt laR; have ncR := Nat.ne_of_lt lbR; have ndR := Nat.ne_of_gt lbR; (first | (have N : Hid (HV wR _ [.bool false, .slice none 0 0]) := N.out.ext xR) | (have N : Hid (HV wR _ [.bool false, .slice none 0 0]) := (hv_at rfl).ext xR) | (have N : Hid (HV wR _ [.bool false, .slice none 0 0]) := (HV.drew (hv_at rfl)).ext xR) | (have N : Hid (HV wR _ [.bool false, .slice none 0 0]) := (HV.alloc N.out _).ext xR) | skip); obtain ⟨uu, huu, hkk⟩ := hR; obtain ⟨au, lu, cu, hau⟩ := hkk.isSlice; subst hau; subst huu; have HI : Hid (IsI wR (.agg #[.bool (decide ((s : Int) < 0)), .slice au lu cu]) (s : Int)) := ⟨_, rfl, hkk⟩; clear hkk; generalize decide ((s : Int) < 0) = bs at *; (first | (have n0 := N.out.c 0 rfl; have n1 := N.out.c 1 rfl; have f0 := N.out.f 0 rfl; have f1 := N.out.f 1 rfl) | skip)))
    all_goals
      go_wp2_with fail
      go_meet
      first
        | exact ⟨wR.heap.size, _, _, _, _, rfl, YR.size, hv_at rfl, HI.out.ext ((Ext.refl _).alloc _), YR.alloc _⟩
        | exact (have hg : wB.heap.size ≤ wB.heap.size := Nat.le_refl _; ⟨wB.heap.size, _, _, _, _, rfl, hg, (N.out.set 0 _).set 1 _, HI.out.put2 N.out, (YR.set (p := ⟨_, 0, none⟩) hg _).set (p := ⟨_, 1, none⟩) hg _⟩)
        | exact (have hg : wB.heap.size ≤ wP.heap.size := YP.size; ⟨wP.heap.size, _, _, _, _, rfl, hg, (N.out.set 0 _).set 1 _, HI.out.put2 N.out, (YR.set (p := ⟨_, 0, none⟩) hg _).set (p := ⟨_, 1, none⟩) hg _⟩)
        | exact (have hg : wB.heap.size ≤ wT.heap.size := YT.size; ⟨wT.heap.size, _, _, _, _, rfl, hg, (N.out.set 0 _).set 1 _, HI.out.put2 N.out, (YR.set (p := ⟨_, 0, none⟩) hg _).set (p := ⟨_, 1, none⟩) hg _⟩)
  case rest =>
    obtain ⟨gp, b, a, l, c, rfl, hG0, hH, HI, hE⟩ := hcut
    have EE : Hid (Ext w wc) := E0.out.trans hE.out
    have GA := GA.out.ext hE.out
    have GR := GR.out.ext hE.out
    clear GC IC HT HM HR IA
    have q0 := hH.out.c 0 rfl
    have q1 := hH.out.c 1 rfl
    have g0 := GA.c 0 rfl
    have m0 := GR.c 0 rfl
    have m1 := GR.c 1 rfl
    have m2 := GR.f 0 rfl
    have m3 := GR.f 1 rfl
    have ml := GR.1
    cases ba
    · go_wp2_with fail
      exact bodyPost_ret (v := .agg #[.bool b, .slice a l c]) (by simp [results, Try.results34, go_sem, m0, m1]) rfl ⟨⟨_, rfl, HI.out.put2 GR⟩, (EE.out.set (p := ⟨w.heap.size + 1 + 1, 0, none⟩) (by dsimp only; omega) _).set (p := ⟨w.heap.size + 1 + 1, 1, none⟩) (by dsimp only; omega) _⟩
    · go_wp2_with fail
      refine (HN.out _ _ HI.out).mono ?_
      rintro e wN ⟨⟨rN, rfl, hN⟩, xN⟩
      obtain ⟨uu, huu, hkk⟩ := hN
      obtain ⟨au, lu, cu, hau⟩ := hkk.isSlice
      subst hau
      subst huu
      have HJ : Hid (IsI wN (.agg #[.bool (decide (-(s : Int) < 0)), .slice au lu cu]) (-(s : Int))) := ⟨_, rfl, hkk⟩
      clear hkk m0 m1 m2 m3 ml q0 q1 g0
      generalize decide (-(s : Int) < 0) = bs at *
      have GR := GR.ext xN
      have m0 := GR.c 0 rfl
      have m1 := GR.c 1 rfl
      have m2 := GR.f 0 rfl
      have m3 := GR.f 1 rfl
      have ml := GR.1
      have EE := EE.out.trans xN
      go_wp2_with fail
      exact bodyPost_ret (v := .agg #[.bool bs, .slice au lu cu]) (by simp [results, Try.results34, go_sem, m0, m1]) rfl ⟨⟨_, rfl, HJ.out.put2 GR⟩, (EE.set (p := ⟨w.heap.size + 1 + 1, 0, none⟩) (by dsimp only; omega) _).set (p := ⟨w.heap.size + 1 + 1, 1, none⟩) (by dsimp only; omega) _⟩
end Go.Proofs.Ytojcndgoihkfnaa
