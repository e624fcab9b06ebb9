/- vec: unit$1. -/
import Derived.Test.YtcnpjpkmmooedabV8
import Derived.Test.YtcnpjpkmmooedabV3u
import Derived.Deep.DeepCutAuto
namespace Go.Proofs.Ytcnpjpkmmooedab
open Go.RowKit Go.Shelf

theorem hid_ext {w w' : World} {b : Nat} {u v x : Value} (h : Hid (H3 w b u v x)) (hx : Ext w w') : Hid (H3 w' b u v x) := h.out.ext hx
theorem ext_newA {X w' : World} {u v x : Value} {T : TypeId} (h : Ext (X.alloc (.cells #[u, v, x] T)) w') : Hid (H3 w' X.heap.size u v x) := (h3_at rfl).ext h
theorem ext_newD {X w' : World} {u v x : Value} {T : TypeId} (h : Ext (X.alloc (.cells #[u, v, x] T)).drew w') : Hid (H3 w' X.heap.size u v x) := (H3.drew (h3_at rfl)).ext h
theorem H3.set3u {w : World} {b : Nat} {u v x : Value} (h : H3 w b u v x) (u' v' x' : Value) : H3 (((w.setCell ⟨b, 0, none⟩ u').setCell ⟨b, 1, none⟩ v').setCell ⟨b, 2, none⟩ x') b u' v' x' := by
  obtain ⟨h0, h1, h2, f0, f1, f2, hb⟩ := h
  refine ⟨?_, ?_, ?_, ?_, ?_, ?_, ?_⟩ <;> simp [go_sem, h0, h1, h2, f0, f1, f2, hb]
/-- the variable part, behind its region -/
def Part (w wx : World) (g : Nat) (k : Int) : Prop := ∃ s0 s1 s2 : Int, H3 wx g (.int .u64 s0) (.int .u64 s1) (.int .u64 s2) ∧ IsW (.agg #[.int .u64 s0, .int .u64 s1, .int .u64 s2]) k ∧ Ext w wx ∧ w.heap.size ≤ g
theorem part_a {w wR : World} {s0 s1 s2 k : Int} {T : TypeId} (hR : Hid (s0 = l0 k ∧ s1 = l1 k ∧ s2 = l2 k)) (y : Ext w wR) : Hid (Part w (wR.alloc (.cells #[.int .u64 s0, .int .u64 s1, .int .u64 s2] T)) wR.heap.size k) :=
  ⟨s0, s1, s2, h3_at rfl, ⟨_, _, _, rfl, hR.out⟩, y.alloc _, y.size⟩
theorem part_b {w wR : World} {g : Nat} {u v x : Value} {s0 s1 s2 k : Int} (hN : Hid (H3 wR g u v x)) (hR : Hid (s0 = l0 k ∧ s1 = l1 k ∧ s2 = l2 k)) (y : Ext w wR) (hg : w.heap.size ≤ g) :
    Hid (Part w (((wR.setCell ⟨g, 0, none⟩ (.int .u64 s0)).setCell ⟨g, 1, none⟩ (.int .u64 s1)).setCell ⟨g, 2, none⟩ (.int .u64 s2)) g k) :=
  ⟨s0, s1, s2, hN.out.set3u _ _ _, ⟨_, _, _, rfl, hR.out⟩, ((y.set hg _).set hg _).set hg _, hg⟩

set_option maxHeartbeats 8000000 in
theorem unit1_pos (v b0 b1 b2 r s z1 z2 : Int) (k : Nat) (g : Nat) (w : World) (hv : ¬ v < 0) (GB : Hid (H3 w g (.int .u64 b0) (.int .u64 b1) (.int .u64 b2)))
    (HP : Hid (∀ w', Calls Try.prog 59 #[.int .i64 v, .int .i64 v] w' fun e w'' => (∃ r, e = .returned r ∧ IsW r z1) ∧ Ext w' w''))
    (HT : Hid (∀ t w', IsW t z1 → Calls Try.prog 60 #[t, .int .u64 1152921504606846976] w' fun e w'' => (∃ r, e = .returned r ∧ IsW r z2) ∧ Ext w' w''))
    (HR : Hid (∀ t w', IsW t z2 → Calls Try.prog 58 #[t, .agg #[.int .u64 b0, .int .u64 b1, .int .u64 b2]] w' fun e w'' => (∃ r, e = .returned r ∧ IsW r (k : Int)) ∧ Ext w' w''))
    (HW : Hid (∀ t w', IsW t (k : Int) → Calls Try.prog 49 #[t] w' fun e w'' => e = .returned (.tuple #[.int .i64 r, .int .i64 s]) ∧ Ext w' w'')) :
    Calls Try.prog 57 #[.int .i64 v, .pointer (some ⟨g, 0, none⟩)] w fun e w' => e = .returned (.tuple #[.int .i64 r, .int .i64 s]) ∧ Ext w w' := by
  obtain ⟨g0, g1, g2, g3, g4, g5, g6⟩ := GB.out
  have d0 := fun o => (GB.out.alloc o).1
  have d1 := fun o => (GB.out.alloc o).2.1
  have d2 := fun o => (GB.out.alloc o).2.2.1
  go_enter Try.func57, Try.ntmps57
  go_upto_region 1 with fail
  go_cut [5] (fun s5 wx => ∃ gp, s5 = .pointer (some ⟨gp, 0, none⟩) ∧ Hid (Part w wx gp (k : Int)))
  case first =>
    go_region_with (first | (go_at_call 59; refine (HP.out _).mono ?_; rintro e wP ⟨⟨uP, rfl, hP⟩, xP⟩; have yP : Ext w wP := Ext.trans (by repeat (first | with_reducible assumption | with_reducible exact Ext.refl _ | with_reducible refine Ext.drew ?_ | with_reducible refine Ext.drewN ?_ _ | with_reducible refine Ext.alloc ?_ _ | with_reducible refine Ext.set ?_ (by first | exact Nat.le_refl _ | (dsimp only; omega) | (simp; done)) _)) xP; obtain ⟨g0, g1, g2, g3, g4, g5, g6⟩ := GB.out.ext yP; have d0 := fun o => (GB.out.ext (yP.alloc o)).1; have d1 := fun o => (GB.out.ext (yP.alloc o)).2.1; have d2 := fun o => (GB.out.ext (yP.alloc o)).2.2.1; first | ((with_reducible have hNP := ext_newD xP); obtain ⟨n0, n1, n2, n3, n4, n5, n6⟩ := hNP.out) | ((with_reducible have hNP := ext_newA xP); obtain ⟨n0, n1, n2, n3, n4, n5, n6⟩ := hNP.out) | skip) | (go_at_call 60; refine (HT.out _ _ hP).mono ?_; rintro e wT ⟨⟨uT, rfl, hT⟩, xT⟩; have yT : Ext w wT := Ext.trans (by repeat (first | with_reducible assumption | with_reducible exact Ext.refl _ | with_reducible refine Ext.drew ?_ | with_reducible refine Ext.drewN ?_ _ | with_reducible refine Ext.alloc ?_ _ | with_reducible refine Ext.set ?_ (by first | exact Nat.le_refl _ | (dsimp only; omega) | (simp; done)) _)) xT; obtain ⟨g0, g1, g2, g3, g4, g5, g6⟩ := GB.out.ext yT; have d0 := fun o => (GB.out.ext (yT.alloc o)).1; have d1 := fun o => (GB.out.ext (yT.alloc o)).2.1; have d2 := fun o => (GB.out.ext (yT.alloc o)).2.2.1; first | ((with_reducible have hNT := hid_ext hNP xT); obtain ⟨n0, n1, n2, n3, n4, n5, n6⟩ := hNT.out) | ((with_reducible have hNT := ext_newD xT); obtain ⟨n0, n1, n2, n3, n4, n5, n6⟩ := hNT.out) | ((with_reducible have hNT := ext_newA xT); obtain ⟨n0, n1, n2, n3, n4, n5, n6⟩ := hNT.out) | skip) | (go_at_call 58; refine (HR.out _ _ hT).mono ?_; rintro e wR ⟨⟨uR, rfl, s0, s1, s2, rfl, hR⟩, xR⟩; have HRh : Hid _ := hR; clear hR; have yR : Ext w wR := Ext.trans (by repeat (first | with_reducible assumption | with_reducible exact Ext.refl _ | with_reducible refine Ext.drew ?_ | with_reducible refine Ext.drewN ?_ _ | with_reducible refine Ext.alloc ?_ _ | with_reducible refine Ext.set ?_ (by first | exact Nat.le_refl _ | (dsimp only; omega) | (simp; done)) _)) xR; obtain ⟨g0, g1, g2, g3, g4, g5, g6⟩ := GB.out.ext yR; have d0 := fun o => (GB.out.ext (yR.alloc o)).1; have d1 := fun o => (GB.out.ext (yR.alloc o)).2.1; have d2 := fun o => (GB.out.ext (yR.alloc o)).2.2.1; first | ((with_reducible have hNR := hid_ext hNT xR); obtain ⟨n0, n1, n2, n3, n4, n5, n6⟩ := hNR.out) | ((with_reducible have hNR := ext_newD xR); obtain ⟨n0, n1, n2, n3, n4, n5, n6⟩ := hNR.out) | ((with_reducible have hNR := ext_newA xR); obtain ⟨n0, n1, n2, n3, n4, n5, n6⟩ := hNR.out) | skip))
    all_goals
      go_wp2_with fail
      go_meet
      first
        | with_reducible exact ⟨_, rfl, part_a HRh yR⟩
        | ((with_reducible refine ⟨_, rfl, part_b hNR HRh yR ?_⟩) <;> (have s1 := yP.size; have s2 := yT.size; omega))
  case rest =>
    obtain ⟨gp, rfl, hO⟩ := hcut
    obtain ⟨s0, s1, s2, hH, hI, hE, _⟩ := hO.out
    have HRR : Hid (IsW (.agg #[.int .u64 s0, .int .u64 s1, .int .u64 s2]) (k : Int)) := hI
    have HH : Hid (H3 wc gp (.int .u64 s0) (.int .u64 s1) (.int .u64 s2)) := hH
    clear hI hO g0 g1 g2 g3 g4 g5 g6 d0 d1 d2 GB
    obtain ⟨q0, q1, q2, q3, q4, q5, q6⟩ := hH
    go_wp2_with fail
    refine (HW.out _ _ HRR.out).mono ?_
    rintro e wW ⟨rfl, xW⟩
    have yW : Ext w wW := Ext.trans (by repeat (first | with_reducible assumption | with_reducible exact Ext.refl _ | with_reducible refine Ext.drew ?_ | with_reducible refine Ext.drewN ?_ _ | with_reducible refine Ext.alloc ?_ _ | with_reducible refine Ext.set ?_ (by first | exact Nat.le_refl _ | (dsimp only; omega) | (simp; done)) _)) xW
    go_wp2_with fail
    go_ret2
    exact ⟨rfl, yW⟩

set_option maxHeartbeats 8000000 in
theorem unit1_neg (v b0 b1 b2 r s z1 z2 : Int) (k : Nat) (g : Nat) (w : World) (hv : v < 0) (GB : Hid (H3 w g (.int .u64 b0) (.int .u64 b1) (.int .u64 b2)))
    (HP : Hid (∀ w', Calls Try.prog 59 #[.int .i64 v, .int .i64 v] w' fun e w'' => (∃ r, e = .returned r ∧ IsW r z1) ∧ Ext w' w''))
    (HT : Hid (∀ t w', IsW t z1 → Calls Try.prog 60 #[t, .int .u64 1152921504606846976] w' fun e w'' => (∃ r, e = .returned r ∧ IsW r z2) ∧ Ext w' w''))
    (HR : Hid (∀ t w', IsW t z2 → Calls Try.prog 58 #[t, .agg #[.int .u64 b0, .int .u64 b1, .int .u64 b2]] w' fun e w'' => (∃ r, e = .returned r ∧ IsW r (k : Int)) ∧ Ext w' w''))
    (HN : Hid (∀ t w', IsW t (k : Int) → Calls Try.prog 61 #[t] w' fun e w'' => (∃ r, e = .returned r ∧ IsW r (-(k : Int))) ∧ Ext w' w''))
    (HW : Hid (∀ t w', IsW t (-(k : Int)) → Calls Try.prog 49 #[t] w' fun e w'' => e = .returned (.tuple #[.int .i64 r, .int .i64 s]) ∧ Ext w' w'')) :
    Calls Try.prog 57 #[.int .i64 v, .pointer (some ⟨g, 0, none⟩)] w fun e w' => e = .returned (.tuple #[.int .i64 r, .int .i64 s]) ∧ Ext w w' := by
  obtain ⟨g0, g1, g2, g3, g4, g5, g6⟩ := GB.out
  have d0 := fun o => (GB.out.alloc o).1
  have d1 := fun o => (GB.out.alloc o).2.1
  have d2 := fun o => (GB.out.alloc o).2.2.1
  go_enter Try.func57, Try.ntmps57
  go_upto_region 1 with fail
  go_cut [5] (fun s5 wx => ∃ gp, s5 = .pointer (some ⟨gp, 0, none⟩) ∧ Hid (Part w wx gp (k : Int)))
  case first =>
    go_region_with (first | (go_at_call 59; refine (HP.out _).mono ?_; rintro e wP ⟨⟨uP, rfl, hP⟩, xP⟩; have yP : Ext w wP := Ext.trans (by repeat (first | with_reducible assumption | with_reducible exact Ext.refl _ | with_reducible refine Ext.drew ?_ | with_reducible refine Ext.drewN ?_ _ | with_reducible refine Ext.alloc ?_ _ | with_reducible refine Ext.set ?_ (by first | exact Nat.le_refl _ | (dsimp only; omega) | (simp; done)) _)) xP; obtain ⟨g0, g1, g2, g3, g4, g5, g6⟩ := GB.out.ext yP; have d0 := fun o => (GB.out.ext (yP.alloc o)).1; have d1 := fun o => (GB.out.ext (yP.alloc o)).2.1; have d2 := fun o => (GB.out.ext (yP.alloc o)).2.2.1; first | ((with_reducible have hNP := ext_newD xP); obtain ⟨n0, n1, n2, n3, n4, n5, n6⟩ := hNP.out) | ((with_reducible have hNP := ext_newA xP); obtain ⟨n0, n1, n2, n3, n4, n5, n6⟩ := hNP.out) | skip) | (go_at_call 60; refine (HT.out _ _ hP).mono ?_; rintro e wT ⟨⟨uT, rfl, hT⟩, xT⟩; have yT : Ext w wT := Ext.trans (by repeat (first | with_reducible assumption | with_reducible exact Ext.refl _ | with_reducible refine Ext.drew ?_ | with_reducible refine Ext.drewN ?_ _ | with_reducible refine Ext.alloc ?_ _ | with_reducible refine Ext.set ?_ (by first | exact Nat.le_refl _ | (dsimp only; omega) | (simp; done)) _)) xT; obtain ⟨g0, g1, g2, g3, g4, g5, g6⟩ := GB.out.ext yT; have d0 := fun o => (GB.out.ext (yT.alloc o)).1; have d1 := fun o => (GB.out.ext (yT.alloc o)).2.1; have d2 := fun o => (GB.out.ext (yT.alloc o)).2.2.1; first | ((with_reducible have hNT := hid_ext hNP xT); obtain ⟨n0, n1, n2, n3, n4, n5, n6⟩ := hNT.out) | ((with_reducible have hNT := ext_newD xT); obtain ⟨n0, n1, n2, n3, n4, n5, n6⟩ := hNT.out) | ((with_reducible have hNT := ext_newA xT); obtain ⟨n0, n1, n2, n3, n4, n5, n6⟩ := hNT.out) | skip) | (go_at_call 58; refine (HR.out _ _ hT).mono ?_; rintro e wR ⟨⟨uR, rfl, s0, s1, s2, rfl, hR⟩, xR⟩; have HRh : Hid _ := hR; clear hR; have yR : Ext w wR := Ext.trans (by repeat (first | with_reducible assumption | with_reducible exact Ext.refl _ | with_reducible refine Ext.drew ?_ | with_reducible refine Ext.drewN ?_ _ | with_reducible refine Ext.alloc ?_ _ | with_reducible refine Ext.set ?_ (by first | exact Nat.le_refl _ | (dsimp only; omega) | (simp; done)) _)) xR; obtain ⟨g0, g1, g2, g3, g4, g5, g6⟩ := GB.out.ext yR; have d0 := fun o => (GB.out.ext (yR.alloc o)).1; have d1 := fun o => (GB.out.ext (yR.alloc o)).2.1; have d2 := fun o => (GB.out.ext (yR.alloc o)).2.2.1; first | ((with_reducible have hNR := hid_ext hNT xR); obtain ⟨n0, n1, n2, n3, n4, n5, n6⟩ := hNR.out) | ((with_reducible have hNR := ext_newD xR); obtain ⟨n0, n1, n2, n3, n4, n5, n6⟩ := hNR.out) | ((with_reducible have hNR := ext_newA xR); obtain ⟨n0, n1, n2, n3, n4, n5, n6⟩ := hNR.out) | skip))
    all_goals
      go_wp2_with fail
      go_meet
      first
        | with_reducible exact ⟨_, rfl, part_a HRh yR⟩
        | ((with_reducible refine ⟨_, rfl, part_b hNR HRh yR ?_⟩) <;> (have s1 := yP.size; have s2 := yT.size; omega))
  case rest =>
    obtain ⟨gp, rfl, hO⟩ := hcut
    obtain ⟨s0, s1, s2, hH, hI, hE, hG0⟩ := hO.out
    have hG : Hid (w.heap.size ≤ gp) := hG0
    clear hG0
    have HRR : Hid (IsW (.agg #[.int .u64 s0, .int .u64 s1, .int .u64 s2]) (k : Int)) := hI
    have HH : Hid (H3 wc gp (.int .u64 s0) (.int .u64 s1) (.int .u64 s2)) := hH
    clear hI hO g0 g1 g2 g3 g4 g5 g6 d0 d1 d2 GB
    obtain ⟨q0, q1, q2, q3, q4, q5, q6⟩ := hH
    go_wp2_with fail
    refine (HN.out _ _ HRR.out).mono ?_
    rintro e wN ⟨⟨uN, rfl, t0, t1, t2, rfl, hNN⟩, xN⟩
    have HNR : Hid (IsW (.agg #[.int .u64 t0, .int .u64 t1, .int .u64 t2]) (-(k : Int))) := ⟨_, _, _, rfl, hNN⟩
    clear hNN q0 q1 q2 q3 q4 q5 q6
    have yN : Ext w wN := hE.trans xN
    obtain ⟨q0, q1, q2, q3, q4, q5, q6⟩ := HH.out.ext xN
    have SG : w.heap.size ≤ gp := hG.out
    go_wp2_with fail
    refine (HW.out _ _ HNR.out).mono ?_
    rintro e wW ⟨rfl, xW⟩
    have yW : Ext w wW := Ext.trans (by repeat (first | with_reducible assumption | with_reducible exact Ext.refl _ | with_reducible refine Ext.drew ?_ | with_reducible refine Ext.drewN ?_ _ | with_reducible refine Ext.alloc ?_ _ | with_reducible refine Ext.set ?_ (by first | exact Nat.le_refl _ | (dsimp only; omega) | (simp; done)) _)) xW
    go_wp2_with fail
    go_ret2
    exact ⟨rfl, yW⟩
end Go.Proofs.Ytcnpjpkmmooedab
