/- gimbalref15: Up, North. -/
import Derived.Test.YtoeecldhbabmbaaGreatMg46
import Derived.Deep.Cut
import Derived.Deep.DeepCutAuto
open Go.Value renaming int → J, agg → zG
open Go.IntKind renaming i64 → zq
open Go.Ending renaming returned → zR
open Go.Proofs.Tryz renaming prog → zP
namespace Go.Proofs.YtoeecldhbabmbaaGreat
open Go.RowKit Go.Shelf
set_option maxRecDepth 20000 in
set_option maxHeartbeats 8000000 in
theorem rup_stays (f0 f1 f2 f3 x y z : Int) (w : World) (HG : Hid (∀ w', Calls zP 29 #[zG #[J zq x, J zq y, J zq z]] w' fun e w'' => e = zR (.bool false) ∧ Ext w' w'')) :
    Calls zP 7 #[zG #[J zq f0, J zq f1, J zq f2, J zq f3], zG #[J zq x, J zq y, J zq z]] w fun e w' => e = zR (.tuple #[zG #[J zq f0, J zq f1, J zq f2, J zq f3], J zq 0]) ∧ Ext w w' := by
  have Ff : Hid (HV (((w.alloc (.cells #[J zq f0, J zq f1, J zq f2, J zq f3] 26)).alloc (.cells #[J zq x, J zq y, J zq z] 28)).alloc (.cells #[J zq 0, J zq 0, J zq 0, J zq 0] 26)) (w.heap.size) [J zq f0, J zq f1, J zq f2, J zq f3]) := (HV.alloc (HV.alloc (hv_at rfl) _) _)
  have Lf : Hid (w.heap.size ≤ w.heap.size) := Nat.le_refl _
  have Fa : Hid (HV (((w.alloc (.cells #[J zq f0, J zq f1, J zq f2, J zq f3] 26)).alloc (.cells #[J zq x, J zq y, J zq z] 28)).alloc (.cells #[J zq 0, J zq 0, J zq 0, J zq 0] 26)) ((w.heap.size + 1)) [J zq x, J zq y, J zq z]) := (HV.alloc (hv_at (by simp)) _)
  have La : Hid (w.heap.size ≤ (w.heap.size + 1)) := by show _ ≤ _; omega
  have Fr : Hid (HV (((w.alloc (.cells #[J zq f0, J zq f1, J zq f2, J zq f3] 26)).alloc (.cells #[J zq x, J zq y, J zq z] 28)).alloc (.cells #[J zq 0, J zq 0, J zq 0, J zq 0] 26)) ((w.heap.size + 1 + 1)) [J zq 0, J zq 0, J zq 0, J zq 0]) := (hv_at (by simp))
  have Lr : Hid (w.heap.size ≤ (w.heap.size + 1 + 1)) := by show _ ≤ _; omega
  have FX : Hid (Ext w (((w.alloc (.cells #[J zq f0, J zq f1, J zq f2, J zq f3] 26)).alloc (.cells #[J zq x, J zq y, J zq z] 28)).alloc (.cells #[J zq 0, J zq 0, J zq 0, J zq 0] 26))) := ((((Ext.refl _).alloc _).alloc _).alloc _)
  go_enter Tryz.func7, Tryz.ntmps7
  go_upto_region 1 with fail
  generalize (((w.alloc (.cells #[J zq f0, J zq f1, J zq f2, J zq f3] 26)).alloc (.cells #[J zq x, J zq y, J zq z] 28)).alloc (.cells #[J zq 0, J zq 0, J zq 0, J zq 0] 26)) = w0 at *
  have ltfr : w.heap.size < w.heap.size + 1 + 1 := by omega
  have ltar : w.heap.size + 1 < w.heap.size + 1 + 1 := by omega
  have ltfa : w.heap.size < w.heap.size + 1 := by omega
  have qa0 := Fa.out.c 0 rfl
  have qa1 := Fa.out.c 1 rfl
  have qa2 := Fa.out.c 2 rfl
  go_upto_region 2 with (first | (go_at_call 29; refine (HG.out _).mono ?_; rintro e w1 ⟨rfl, x1⟩))
  have Ff := hvx Ff x1
  have Fa := hvx Fa x1
  have Fr := hvx Fr x1
  have FX := exx FX x1
  clear qa0 qa1 qa2 x1 HG
  have qf0 := Ff.out.c 0 rfl
  have qf1 := Ff.out.c 1 rfl
  have qf2 := Ff.out.c 2 rfl
  have qf3 := Ff.out.c 3 rfl
  have z0 := Fr.out.c 0 rfl
  have y0 := Fr.out.f 0 rfl
  have z1 := Fr.out.c 1 rfl
  have y1 := Fr.out.f 1 rfl
  have z2 := Fr.out.c 2 rfl
  have y2 := Fr.out.f 2 rfl
  have z3 := Fr.out.c 3 rfl
  have y3 := Fr.out.f 3 rfl
  have rl := Fr.out.1
  go_wp2_with fail
  exact bodyPost_ret (v := .tuple #[zG #[J zq f0, J zq f1, J zq f2, J zq f3], J zq 0]) (by simp [results, Tryz.results7, go_sem, z0, z1, z2, z3]) rfl ⟨rfl, ((((FX.out.set (p := ⟨(w.heap.size + 1 + 1), 0, none⟩) Lr.out _).set (p := ⟨(w.heap.size + 1 + 1), 1, none⟩) Lr.out _).set (p := ⟨(w.heap.size + 1 + 1), 2, none⟩) Lr.out _).set (p := ⟨(w.heap.size + 1 + 1), 3, none⟩) Lr.out _)⟩
set_option maxRecDepth 20000 in
set_option maxHeartbeats 16000000 in
theorem rup_raw (f0 f1 f2 f3 x y z m0 m1 m2 s0 s1 s2 c0 c1 c2 t0 t1 t2 p0 p1 p2 p3 u0 u1 u2 u3 : Int) (w : World) (HG : Hid (∀ w', Calls zP 29 #[zG #[J zq x, J zq y, J zq z]] w' fun e w'' => e = zR (.bool true) ∧ Ext w' w'')) (HU : Hid (∀ w', Calls zP 30 #[zG #[J zq x, J zq y, J zq z]] w' fun e w'' => e = zR (.tuple #[zG #[J zq m0, J zq m1, J zq m2], J zq 0]) ∧ Ext w' w'')) (HS : Hid (∀ w', Calls zP 32 #[zG #[J zq f0, J zq f1, J zq f2, J zq f3]] w' fun e w'' => e = zR (zG #[J zq s0, J zq s1, J zq s2]) ∧ Ext w' w'')) (HC : Hid (∀ w', Calls zP 31 #[zG #[J zq m0, J zq m1, J zq m2], zG #[J zq s0, J zq s1, J zq s2]] w' fun e w'' => e = zR (.tuple #[zG #[J zq c0, J zq c1, J zq c2], J zq 0]) ∧ Ext w' w'')) (T0 : Hid (∀ w', Calls zP 34 #[J zq c0] w' fun e w'' => e = zR (J zq t0) ∧ Ext w' w'')) (T1 : Hid (∀ w', Calls zP 34 #[J zq c1] w' fun e w'' => e = zR (J zq t1) ∧ Ext w' w'')) (T2 : Hid (∀ w', Calls zP 34 #[J zq c2] w' fun e w'' => e = zR (J zq t2) ∧ Ext w' w'')) (HP : Hid (∀ w', Calls zP 33 #[zG #[J zq f0, J zq f1, J zq f2, J zq f3], zG #[J zq 1073741824, J zq t0, J zq t1, J zq t2]] w' fun e w'' => e = zR (.tuple #[zG #[J zq p0, J zq p1, J zq p2, J zq p3], J zq 0]) ∧ Ext w' w'')) (HN : Hid (∀ w', Calls zP 28 #[zG #[J zq p0, J zq p1, J zq p2, J zq p3], J zq 0] w' fun e w'' => e = zR (.tuple #[zG #[J zq u0, J zq u1, J zq u2, J zq u3], J zq 0]) ∧ Ext w' w'')) :
    Calls zP 7 #[zG #[J zq f0, J zq f1, J zq f2, J zq f3], zG #[J zq x, J zq y, J zq z]] w fun e w' => e = zR (.tuple #[zG #[J zq u0, J zq u1, J zq u2, J zq u3], J zq 0]) ∧ Ext w w' := by
  have Ff : Hid (HV (((w.alloc (.cells #[J zq f0, J zq f1, J zq f2, J zq f3] 26)).alloc (.cells #[J zq x, J zq y, J zq z] 28)).alloc (.cells #[J zq 0, J zq 0, J zq 0, J zq 0] 26)) (w.heap.size) [J zq f0, J zq f1, J zq f2, J zq f3]) := (HV.alloc (HV.alloc (hv_at rfl) _) _)
  have Lf : Hid (w.heap.size ≤ w.heap.size) := Nat.le_refl _
  have Fa : Hid (HV (((w.alloc (.cells #[J zq f0, J zq f1, J zq f2, J zq f3] 26)).alloc (.cells #[J zq x, J zq y, J zq z] 28)).alloc (.cells #[J zq 0, J zq 0, J zq 0, J zq 0] 26)) ((w.heap.size + 1)) [J zq x, J zq y, J zq z]) := (HV.alloc (hv_at (by simp)) _)
  have La : Hid (w.heap.size ≤ (w.heap.size + 1)) := by show _ ≤ _; omega
  have Fr : Hid (HV (((w.alloc (.cells #[J zq f0, J zq f1, J zq f2, J zq f3] 26)).alloc (.cells #[J zq x, J zq y, J zq z] 28)).alloc (.cells #[J zq 0, J zq 0, J zq 0, J zq 0] 26)) ((w.heap.size + 1 + 1)) [J zq 0, J zq 0, J zq 0, J zq 0]) := (hv_at (by simp))
  have Lr : Hid (w.heap.size ≤ (w.heap.size + 1 + 1)) := by show _ ≤ _; omega
  have FX : Hid (Ext w (((w.alloc (.cells #[J zq f0, J zq f1, J zq f2, J zq f3] 26)).alloc (.cells #[J zq x, J zq y, J zq z] 28)).alloc (.cells #[J zq 0, J zq 0, J zq 0, J zq 0] 26))) := ((((Ext.refl _).alloc _).alloc _).alloc _)
  go_enter Tryz.func7, Tryz.ntmps7
  go_upto_region 1 with fail
  generalize (((w.alloc (.cells #[J zq f0, J zq f1, J zq f2, J zq f3] 26)).alloc (.cells #[J zq x, J zq y, J zq z] 28)).alloc (.cells #[J zq 0, J zq 0, J zq 0, J zq 0] 26)) = w0 at *
  have ltfr : w.heap.size < w.heap.size + 1 + 1 := by omega
  have ltar : w.heap.size + 1 < w.heap.size + 1 + 1 := by omega
  have ltfa : w.heap.size < w.heap.size + 1 := by omega
  have qa0 := Fa.out.c 0 rfl
  have qa1 := Fa.out.c 1 rfl
  have qa2 := Fa.out.c 2 rfl
  go_upto_region 3 with (first | (go_at_call 29; refine (HG.out _).mono ?_; rintro e w1 ⟨rfl, x1⟩))
  have Ff := hvx Ff x1
  have Fa := hvx Fa x1
  have Fr := hvx Fr x1
  have FX := exx FX x1
  clear qa0 qa1 qa2 x1 HG
  have qa0 := Fa.out.c 0 rfl
  have qa1 := Fa.out.c 1 rfl
  have qa2 := Fa.out.c 2 rfl
  go_upto_region 4 with (first | (go_at_call 30; refine (HU.out _).mono ?_; rintro e w2 ⟨rfl, x2⟩))
  have Ff := hvx Ff x2
  have Fa := hvx Fa x2
  have Fr := hvx Fr x2
  have FX := exx FX x2
  clear qa0 qa1 qa2 x2 HU
  have ltfm := Ff.out.1
  have ltam := Fa.out.1
  have ltrm := Fr.out.1
  have Lm := exz FX
  have Ff := hvl Ff (.cells #[J zq m0, J zq m1, J zq m2] 28)
  have Fa := hvl Fa (.cells #[J zq m0, J zq m1, J zq m2] 28)
  have Fr := hvl Fr (.cells #[J zq m0, J zq m1, J zq m2] 28)
  have Fm : Hid (HV (w2.alloc (.cells #[J zq m0, J zq m1, J zq m2] 28)) w2.heap.size [J zq m0, J zq m1, J zq m2]) := hv_at rfl
  have FX := exl FX (.cells #[J zq m0, J zq m1, J zq m2] 28)
  generalize (w2.alloc (.cells #[J zq m0, J zq m1, J zq m2] 28)) = wx1 at *
  generalize w2.heap.size = nm at *
  go_cut [8, 9] (fun v8 v9 wx => ∃ g : Nat, v8 = .pointer (some ⟨g, 0, none⟩) ∧ v9 = J zq 0 ∧ Hid (wx1.heap.size ≤ g) ∧ Hid (HV wx g [J zq c0, J zq c1, J zq c2]) ∧ Hid (Ext wx1 wx))
  case first =>
    have qm0 := Fm.out.c 0 rfl
    have qm1 := Fm.out.c 1 rfl
    have qm2 := Fm.out.c 2 rfl
    have bm : nm < wx1.heap.size := Fm.out.1
    have mm1 := Nat.ne_of_lt bm
    have mm2 := Nat.ne_of_gt bm
    have qf0 := Ff.out.c 0 rfl
    have qf1 := Ff.out.c 1 rfl
    have qf2 := Ff.out.c 2 rfl
    have qf3 := Ff.out.c 3 rfl
    have bf : w.heap.size < wx1.heap.size := Ff.out.1
    have mf1 := Nat.ne_of_lt bf
    have mf2 := Nat.ne_of_gt bf
    go_region_held3 (fun w' => w'.cell? ⟨nm, 0, none⟩ = some (J zq m0) ∧ w'.cell? ⟨nm, 1, none⟩ = some (J zq m1) ∧ w'.cell? ⟨nm, 2, none⟩ = some (J zq m2) ∧ w'.cell? ⟨w.heap.size, 0, none⟩ = some (J zq f0) ∧ w'.cell? ⟨w.heap.size, 1, none⟩ = some (J zq f1) ∧ w'.cell? ⟨w.heap.size, 2, none⟩ = some (J zq f2) ∧ w'.cell? ⟨w.heap.size, 3, none⟩ = some (J zq f3)) (first | (go_keep; done) | (refine ⟨?_, ?_, ?_, ?_, ?_, ?_, ?_⟩ <;> (rw [World.cell?_setCell_far _ _ _ _ (by dsimp only; omega), World.cell?_setCell_far _ _ _ _ (by dsimp only; omega), World.cell?_setCell_far _ _ _ _ (by dsimp only; omega)]; with_reducible assumption)) | skip) (first | (go_at_call 32; refine (HS.out _).mono ?_; rintro e wz0 ⟨rfl, y0⟩; have Y0 : Ext wx1 wz0 := Ext.trans xa y0; have qm0u : wz0.cell? ⟨nm, 0, none⟩ = some (J zq m0) := (Fm.out.ext Y0).c 0 rfl; have qm1u : wz0.cell? ⟨nm, 1, none⟩ = some (J zq m1) := (Fm.out.ext Y0).c 1 rfl; have qm2u : wz0.cell? ⟨nm, 2, none⟩ = some (J zq m2) := (Fm.out.ext Y0).c 2 rfl; have bmu : nm < wz0.heap.size := (Fm.out.ext Y0).1; have mm1u := Nat.ne_of_lt bmu; have mm2u := Nat.ne_of_gt bmu; have qf0u : wz0.cell? ⟨w.heap.size, 0, none⟩ = some (J zq f0) := (Ff.out.ext Y0).c 0 rfl; have qf1u : wz0.cell? ⟨w.heap.size, 1, none⟩ = some (J zq f1) := (Ff.out.ext Y0).c 1 rfl; have qf2u : wz0.cell? ⟨w.heap.size, 2, none⟩ = some (J zq f2) := (Ff.out.ext Y0).c 2 rfl; have qf3u : wz0.cell? ⟨w.heap.size, 3, none⟩ = some (J zq f3) := (Ff.out.ext Y0).c 3 rfl; have bfu : w.heap.size < wz0.heap.size := (Ff.out.ext Y0).1; have mf1u := Nat.ne_of_lt bfu; have mf2u := Nat.ne_of_gt bfu; (first | (have N : Hid (HV wz0 _ [J zq 0, J zq 0, J zq 0]) := N.out.ext y0) | (have N : Hid (HV wz0 _ [J zq 0, J zq 0, J zq 0]) := (hv_at rfl).ext y0) | (have N : Hid (HV wz0 _ [J zq 0, J zq 0, J zq 0]) := (HV.drew (hv_at rfl)).ext y0) | (have N : Hid (HV wz0 _ [J zq 0, J zq 0, J zq 0]) := (HV.alloc N.out _).ext y0) | skip)) | (go_at_call 31; refine (HC.out _).mono ?_; rintro e wz1 ⟨rfl, y1⟩; have Y1 : Ext wx1 wz1 := Ext.trans xa y1; have qm0u : wz1.cell? ⟨nm, 0, none⟩ = some (J zq m0) := (Fm.out.ext Y1).c 0 rfl; have qm1u : wz1.cell? ⟨nm, 1, none⟩ = some (J zq m1) := (Fm.out.ext Y1).c 1 rfl; have qm2u : wz1.cell? ⟨nm, 2, none⟩ = some (J zq m2) := (Fm.out.ext Y1).c 2 rfl; have bmu : nm < wz1.heap.size := (Fm.out.ext Y1).1; have mm1u := Nat.ne_of_lt bmu; have mm2u := Nat.ne_of_gt bmu; have qf0u : wz1.cell? ⟨w.heap.size, 0, none⟩ = some (J zq f0) := (Ff.out.ext Y1).c 0 rfl; have qf1u : wz1.cell? ⟨w.heap.size, 1, none⟩ = some (J zq f1) := (Ff.out.ext Y1).c 1 rfl; have qf2u : wz1.cell? ⟨w.heap.size, 2, none⟩ = some (J zq f2) := (Ff.out.ext Y1).c 2 rfl; have qf3u : wz1.cell? ⟨w.heap.size, 3, none⟩ = some (J zq f3) := (Ff.out.ext Y1).c 3 rfl; have bfu : w.heap.size < wz1.heap.size := (Ff.out.ext Y1).1; have mf1u := Nat.ne_of_lt bfu; have mf2u := Nat.ne_of_gt bfu; (first | (have N : Hid (HV wz1 _ [J zq 0, J zq 0, J zq 0]) := N.out.ext y1) | (have N : Hid (HV wz1 _ [J zq 0, J zq 0, J zq 0]) := (hv_at rfl).ext y1) | (have N : Hid (HV wz1 _ [J zq 0, J zq 0, J zq 0]) := (HV.drew (hv_at rfl)).ext y1) | (have N : Hid (HV wz1 _ [J zq 0, J zq 0, J zq 0]) := (HV.alloc N.out _).ext y1) | skip); (first | (have n0 := N.out.c 0 rfl; have n1 := N.out.c 1 rfl; have n2 := N.out.c 2 rfl; have f0 := N.out.f 0 rfl; have f1 := N.out.f 1 rfl; have f2 := N.out.f 2 rfl) | skip)))
    all_goals
      go_wp2_with fail
      go_meet
      first | exact ⟨wz1.heap.size, rfl, rfl, Y1.size, hv_at rfl, Y1.alloc _⟩ | exact (have hg : wx1.heap.size ≤ wx1.heap.size := Nat.le_refl _; ⟨wx1.heap.size, rfl, rfl, Nat.le_refl _, (((N.out.set 0 (J zq c0)).set 1 (J zq c1)).set 2 (J zq c2)), (((Y1.set (p := ⟨_, 0, none⟩) hg _).set (p := ⟨_, 1, none⟩) hg _).set (p := ⟨_, 2, none⟩) hg _)⟩) | exact (have hg : wx1.heap.size ≤ wz0.heap.size := Y0.size; ⟨wz0.heap.size, rfl, rfl, hg, (((N.out.set 0 (J zq c0)).set 1 (J zq c1)).set 2 (J zq c2)), (((Y1.set (p := ⟨_, 0, none⟩) hg _).set (p := ⟨_, 1, none⟩) hg _).set (p := ⟨_, 2, none⟩) hg _)⟩)
  case rest =>
    obtain ⟨nc, rfl, rfl, Lc, Fc, hx⟩ := hcut
    have hx := hx.out
    have ltfc : w.heap.size < nc := Nat.lt_of_lt_of_le Ff.out.1 Lc.out
    have ltac : (w.heap.size + 1) < nc := Nat.lt_of_lt_of_le Fa.out.1 Lc.out
    have ltrc : (w.heap.size + 1 + 1) < nc := Nat.lt_of_lt_of_le Fr.out.1 Lc.out
    have ltmc : nm < nc := Nat.lt_of_lt_of_le Fm.out.1 Lc.out
    have Lc : Hid (w.heap.size ≤ nc) := Nat.le_trans FX.out.size Lc.out
    have Ff := hvx Ff hx
    have Fa := hvx Fa hx
    have Fr := hvx Fr hx
    have Fm := hvx Fm hx
    have FX := exx FX hx
    clear hx
    generalize wc = wx2 at *
    clear HS HC
    go_upto_region 7 with fail
    have qf0 := Ff.out.c 0 rfl
    have qf1 := Ff.out.c 1 rfl
    have qf2 := Ff.out.c 2 rfl
    have qf3 := Ff.out.c 3 rfl
    have bf : w.heap.size < wx2.heap.size := Ff.out.1
    have qc0 := Fc.out.c 0 rfl
    have qc1 := Fc.out.c 1 rfl
    have qc2 := Fc.out.c 2 rfl
    have bc : nc < wx2.heap.size := Fc.out.1
    go_region_held3 (fun w' => w'.cell? ⟨w.heap.size, 0, none⟩ = some (J zq f0) ∧ w'.cell? ⟨w.heap.size, 1, none⟩ = some (J zq f1) ∧ w'.cell? ⟨w.heap.size, 2, none⟩ = some (J zq f2) ∧ w'.cell? ⟨w.heap.size, 3, none⟩ = some (J zq f3) ∧ w'.cell? ⟨nc, 0, none⟩ = some (J zq c0) ∧ w'.cell? ⟨nc, 1, none⟩ = some (J zq c1) ∧ w'.cell? ⟨nc, 2, none⟩ = some (J zq c2)) (first | (go_keep; done) | (refine ⟨?_, ?_, ?_, ?_, ?_, ?_, ?_⟩ <;> (rw [World.cell?_setCell_far _ _ _ _ (by dsimp only; omega), World.cell?_setCell_far _ _ _ _ (by dsimp only; omega), World.cell?_setCell_far _ _ _ _ (by dsimp only; omega), World.cell?_setCell_far _ _ _ _ (by dsimp only; omega)]; with_reducible assumption)) | skip) (first | (go_at_call_of 34 (Value.int IntKind.i64 c0); refine (T0.out _).mono ?_; rintro e wz0 ⟨rfl, y0⟩; have Y0 : Ext wx2 wz0 := Ext.trans xa y0; have qf0u : wz0.cell? ⟨w.heap.size, 0, none⟩ = some (J zq f0) := (Ff.out.ext Y0).c 0 rfl; have qf1u : wz0.cell? ⟨w.heap.size, 1, none⟩ = some (J zq f1) := (Ff.out.ext Y0).c 1 rfl; have qf2u : wz0.cell? ⟨w.heap.size, 2, none⟩ = some (J zq f2) := (Ff.out.ext Y0).c 2 rfl; have qf3u : wz0.cell? ⟨w.heap.size, 3, none⟩ = some (J zq f3) := (Ff.out.ext Y0).c 3 rfl; have bfu : w.heap.size < wz0.heap.size := (Ff.out.ext Y0).1; have qc0u : wz0.cell? ⟨nc, 0, none⟩ = some (J zq c0) := (Fc.out.ext Y0).c 0 rfl; have qc1u : wz0.cell? ⟨nc, 1, none⟩ = some (J zq c1) := (Fc.out.ext Y0).c 1 rfl; have qc2u : wz0.cell? ⟨nc, 2, none⟩ = some (J zq c2) := (Fc.out.ext Y0).c 2 rfl; have bcu : nc < wz0.heap.size := (Fc.out.ext Y0).1) | (go_at_call_of 34 (Value.int IntKind.i64 c1); refine (T1.out _).mono ?_; rintro e wz1 ⟨rfl, y1⟩; have Y1 : Ext wx2 wz1 := Ext.trans xa y1; have qf0u : wz1.cell? ⟨w.heap.size, 0, none⟩ = some (J zq f0) := (Ff.out.ext Y1).c 0 rfl; have qf1u : wz1.cell? ⟨w.heap.size, 1, none⟩ = some (J zq f1) := (Ff.out.ext Y1).c 1 rfl; have qf2u : wz1.cell? ⟨w.heap.size, 2, none⟩ = some (J zq f2) := (Ff.out.ext Y1).c 2 rfl; have qf3u : wz1.cell? ⟨w.heap.size, 3, none⟩ = some (J zq f3) := (Ff.out.ext Y1).c 3 rfl; have bfu : w.heap.size < wz1.heap.size := (Ff.out.ext Y1).1; have qc0u : wz1.cell? ⟨nc, 0, none⟩ = some (J zq c0) := (Fc.out.ext Y1).c 0 rfl; have qc1u : wz1.cell? ⟨nc, 1, none⟩ = some (J zq c1) := (Fc.out.ext Y1).c 1 rfl; have qc2u : wz1.cell? ⟨nc, 2, none⟩ = some (J zq c2) := (Fc.out.ext Y1).c 2 rfl; have bcu : nc < wz1.heap.size := (Fc.out.ext Y1).1) | (go_at_call_of 34 (Value.int IntKind.i64 c2); refine (T2.out _).mono ?_; rintro e wz2 ⟨rfl, y2⟩; have Y2 : Ext wx2 wz2 := Ext.trans xa y2; have qf0u : wz2.cell? ⟨w.heap.size, 0, none⟩ = some (J zq f0) := (Ff.out.ext Y2).c 0 rfl; have qf1u : wz2.cell? ⟨w.heap.size, 1, none⟩ = some (J zq f1) := (Ff.out.ext Y2).c 1 rfl; have qf2u : wz2.cell? ⟨w.heap.size, 2, none⟩ = some (J zq f2) := (Ff.out.ext Y2).c 2 rfl; have qf3u : wz2.cell? ⟨w.heap.size, 3, none⟩ = some (J zq f3) := (Ff.out.ext Y2).c 3 rfl; have bfu : w.heap.size < wz2.heap.size := (Ff.out.ext Y2).1; have qc0u : wz2.cell? ⟨nc, 0, none⟩ = some (J zq c0) := (Fc.out.ext Y2).c 0 rfl; have qc1u : wz2.cell? ⟨nc, 1, none⟩ = some (J zq c1) := (Fc.out.ext Y2).c 1 rfl; have qc2u : wz2.cell? ⟨nc, 2, none⟩ = some (J zq c2) := (Fc.out.ext Y2).c 2 rfl; have bcu : nc < wz2.heap.size := (Fc.out.ext Y2).1) | (go_at_call 33; refine (HP.out _).mono ?_; rintro e wz3 ⟨rfl, y3⟩; have Y3 : Ext wx2 wz3 := Ext.trans xa y3; have qf0u : wz3.cell? ⟨w.heap.size, 0, none⟩ = some (J zq f0) := (Ff.out.ext Y3).c 0 rfl; have qf1u : wz3.cell? ⟨w.heap.size, 1, none⟩ = some (J zq f1) := (Ff.out.ext Y3).c 1 rfl; have qf2u : wz3.cell? ⟨w.heap.size, 2, none⟩ = some (J zq f2) := (Ff.out.ext Y3).c 2 rfl; have qf3u : wz3.cell? ⟨w.heap.size, 3, none⟩ = some (J zq f3) := (Ff.out.ext Y3).c 3 rfl; have bfu : w.heap.size < wz3.heap.size := (Ff.out.ext Y3).1; have qc0u : wz3.cell? ⟨nc, 0, none⟩ = some (J zq c0) := (Fc.out.ext Y3).c 0 rfl; have qc1u : wz3.cell? ⟨nc, 1, none⟩ = some (J zq c1) := (Fc.out.ext Y3).c 1 rfl; have qc2u : wz3.cell? ⟨nc, 2, none⟩ = some (J zq c2) := (Fc.out.ext Y3).c 2 rfl; have bcu : nc < wz3.heap.size := (Fc.out.ext Y3).1) | (go_at_call 28; refine (HN.out _).mono ?_; rintro e wz4 ⟨rfl, y4⟩; have Y4 : Ext wx2 wz4 := Ext.trans xa y4; have qf0u : wz4.cell? ⟨w.heap.size, 0, none⟩ = some (J zq f0) := (Ff.out.ext Y4).c 0 rfl; have qf1u : wz4.cell? ⟨w.heap.size, 1, none⟩ = some (J zq f1) := (Ff.out.ext Y4).c 1 rfl; have qf2u : wz4.cell? ⟨w.heap.size, 2, none⟩ = some (J zq f2) := (Ff.out.ext Y4).c 2 rfl; have qf3u : wz4.cell? ⟨w.heap.size, 3, none⟩ = some (J zq f3) := (Ff.out.ext Y4).c 3 rfl; have bfu : w.heap.size < wz4.heap.size := (Ff.out.ext Y4).1; have qc0u : wz4.cell? ⟨nc, 0, none⟩ = some (J zq c0) := (Fc.out.ext Y4).c 0 rfl; have qc1u : wz4.cell? ⟨nc, 1, none⟩ = some (J zq c1) := (Fc.out.ext Y4).c 1 rfl; have qc2u : wz4.cell? ⟨nc, 2, none⟩ = some (J zq c2) := (Fc.out.ext Y4).c 2 rfl; have bcu : nc < wz4.heap.size := (Fc.out.ext Y4).1; have z0 := (Fr.out.ext Y4).c 0 rfl; have yr0 := (Fr.out.ext Y4).f 0 rfl; have z1 := (Fr.out.ext Y4).c 1 rfl; have yr1 := (Fr.out.ext Y4).f 1 rfl; have z2 := (Fr.out.ext Y4).c 2 rfl; have yr2 := (Fr.out.ext Y4).f 2 rfl; have z3 := (Fr.out.ext Y4).c 3 rfl; have yr3 := (Fr.out.ext Y4).f 3 rfl; have rl := (Fr.out.ext Y4).1))
    all_goals
      have FX := exx FX Y4
      go_wp2_with fail
      exact bodyPost_ret (v := .tuple #[zG #[J zq u0, J zq u1, J zq u2, J zq u3], J zq 0]) (by simp [results, Tryz.results7, go_sem, z0, z1, z2, z3]) rfl ⟨rfl, ((((FX.out.set (p := ⟨(w.heap.size + 1 + 1), 0, none⟩) Lr.out _).set (p := ⟨(w.heap.size + 1 + 1), 1, none⟩) Lr.out _).set (p := ⟨(w.heap.size + 1 + 1), 2, none⟩) Lr.out _).set (p := ⟨(w.heap.size + 1 + 1), 3, none⟩) Lr.out _)⟩
set_option maxRecDepth 20000 in
set_option maxHeartbeats 8000000 in
theorem rnorth_err (f0 f1 f2 f3 x y z er : Int) (w : World) (HT : Hid (∀ w', Calls zP 35 #[zG #[J zq f0, J zq f1, J zq f2, J zq f3], zG #[J zq x, J zq y, J zq z]] w' fun e w'' => e = zR (.tuple #[zG #[J zq 0, J zq 0, J zq 0], J zq er]) ∧ Ext w' w'')) (he : (er != 0) = true) :
    Calls zP 8 #[zG #[J zq f0, J zq f1, J zq f2, J zq f3], zG #[J zq x, J zq y, J zq z]] w fun e w' => e = zR (.tuple #[zG #[J zq 0, J zq 0, J zq 0, J zq 0], J zq er]) ∧ Ext w w' := by
  have Ff : Hid (HV (((w.alloc (.cells #[J zq f0, J zq f1, J zq f2, J zq f3] 26)).alloc (.cells #[J zq x, J zq y, J zq z] 28)).alloc (.cells #[J zq 0, J zq 0, J zq 0, J zq 0] 26)) (w.heap.size) [J zq f0, J zq f1, J zq f2, J zq f3]) := (HV.alloc (HV.alloc (hv_at rfl) _) _)
  have Lf : Hid (w.heap.size ≤ w.heap.size) := Nat.le_refl _
  have Fa : Hid (HV (((w.alloc (.cells #[J zq f0, J zq f1, J zq f2, J zq f3] 26)).alloc (.cells #[J zq x, J zq y, J zq z] 28)).alloc (.cells #[J zq 0, J zq 0, J zq 0, J zq 0] 26)) ((w.heap.size + 1)) [J zq x, J zq y, J zq z]) := (HV.alloc (hv_at (by simp)) _)
  have La : Hid (w.heap.size ≤ (w.heap.size + 1)) := by show _ ≤ _; omega
  have Fr : Hid (HV (((w.alloc (.cells #[J zq f0, J zq f1, J zq f2, J zq f3] 26)).alloc (.cells #[J zq x, J zq y, J zq z] 28)).alloc (.cells #[J zq 0, J zq 0, J zq 0, J zq 0] 26)) ((w.heap.size + 1 + 1)) [J zq 0, J zq 0, J zq 0, J zq 0]) := (hv_at (by simp))
  have Lr : Hid (w.heap.size ≤ (w.heap.size + 1 + 1)) := by show _ ≤ _; omega
  have FX : Hid (Ext w (((w.alloc (.cells #[J zq f0, J zq f1, J zq f2, J zq f3] 26)).alloc (.cells #[J zq x, J zq y, J zq z] 28)).alloc (.cells #[J zq 0, J zq 0, J zq 0, J zq 0] 26))) := ((((Ext.refl _).alloc _).alloc _).alloc _)
  go_enter Tryz.func8, Tryz.ntmps8
  go_upto_region 1 with fail
  generalize (((w.alloc (.cells #[J zq f0, J zq f1, J zq f2, J zq f3] 26)).alloc (.cells #[J zq x, J zq y, J zq z] 28)).alloc (.cells #[J zq 0, J zq 0, J zq 0, J zq 0] 26)) = w0 at *
  have ltfr : w.heap.size < w.heap.size + 1 + 1 := by omega
  have ltar : w.heap.size + 1 < w.heap.size + 1 + 1 := by omega
  have ltfa : w.heap.size < w.heap.size + 1 := by omega
  have qf0 := Ff.out.c 0 rfl
  have qf1 := Ff.out.c 1 rfl
  have qf2 := Ff.out.c 2 rfl
  have qf3 := Ff.out.c 3 rfl
  have qa0 := Fa.out.c 0 rfl
  have qa1 := Fa.out.c 1 rfl
  have qa2 := Fa.out.c 2 rfl
  go_upto_region 2 with (first | (go_at_call 35; refine (HT.out _).mono ?_; rintro e w1 ⟨rfl, x1⟩))
  have Ff := hvx Ff x1
  have Fa := hvx Fa x1
  have Fr := hvx Fr x1
  have FX := exx FX x1
  clear qf0 qf1 qf2 qf3 qa0 qa1 qa2 x1 HT
  have ltfh := Ff.out.1
  have ltah := Fa.out.1
  have ltrh := Fr.out.1
  have Lh := exz FX
  have Ff := hvl Ff (.cells #[J zq 0, J zq 0, J zq 0] 28)
  have Fa := hvl Fa (.cells #[J zq 0, J zq 0, J zq 0] 28)
  have Fr := hvl Fr (.cells #[J zq 0, J zq 0, J zq 0] 28)
  have Fh : Hid (HV (w1.alloc (.cells #[J zq 0, J zq 0, J zq 0] 28)) w1.heap.size [J zq 0, J zq 0, J zq 0]) := hv_at rfl
  have FX := exl FX (.cells #[J zq 0, J zq 0, J zq 0] 28)
  generalize (w1.alloc (.cells #[J zq 0, J zq 0, J zq 0] 28)) = wx1 at *
  generalize w1.heap.size = nh at *
  have z0 := Fr.out.c 0 rfl
  have y0 := Fr.out.f 0 rfl
  have z1 := Fr.out.c 1 rfl
  have y1 := Fr.out.f 1 rfl
  have z2 := Fr.out.c 2 rfl
  have y2 := Fr.out.f 2 rfl
  have z3 := Fr.out.c 3 rfl
  have y3 := Fr.out.f 3 rfl
  have rl := Fr.out.1
  go_wp2_with fail
  exact bodyPost_ret (v := .tuple #[zG #[J zq 0, J zq 0, J zq 0, J zq 0], J zq er]) (by simp [results, Tryz.results8, go_sem, z0, z1, z2, z3]) rfl ⟨rfl, ((((FX.out.set (p := ⟨(w.heap.size + 1 + 1), 0, none⟩) Lr.out _).set (p := ⟨(w.heap.size + 1 + 1), 1, none⟩) Lr.out _).set (p := ⟨(w.heap.size + 1 + 1), 2, none⟩) Lr.out _).set (p := ⟨(w.heap.size + 1 + 1), 3, none⟩) Lr.out _)⟩
set_option maxRecDepth 20000 in
set_option maxHeartbeats 8000000 in
theorem rnorth_stays (f0 f1 f2 f3 x y z h2 : Int) (w : World) (HT : Hid (∀ w', Calls zP 35 #[zG #[J zq f0, J zq f1, J zq f2, J zq f3], zG #[J zq x, J zq y, J zq z]] w' fun e w'' => e = zR (.tuple #[zG #[J zq 0, J zq 0, J zq h2], J zq 0]) ∧ Ext w' w'')) :
    Calls zP 8 #[zG #[J zq f0, J zq f1, J zq f2, J zq f3], zG #[J zq x, J zq y, J zq z]] w fun e w' => e = zR (.tuple #[zG #[J zq f0, J zq f1, J zq f2, J zq f3], J zq 0]) ∧ Ext w w' := by
  have Ff : Hid (HV (((w.alloc (.cells #[J zq f0, J zq f1, J zq f2, J zq f3] 26)).alloc (.cells #[J zq x, J zq y, J zq z] 28)).alloc (.cells #[J zq 0, J zq 0, J zq 0, J zq 0] 26)) (w.heap.size) [J zq f0, J zq f1, J zq f2, J zq f3]) := (HV.alloc (HV.alloc (hv_at rfl) _) _)
  have Lf : Hid (w.heap.size ≤ w.heap.size) := Nat.le_refl _
  have Fa : Hid (HV (((w.alloc (.cells #[J zq f0, J zq f1, J zq f2, J zq f3] 26)).alloc (.cells #[J zq x, J zq y, J zq z] 28)).alloc (.cells #[J zq 0, J zq 0, J zq 0, J zq 0] 26)) ((w.heap.size + 1)) [J zq x, J zq y, J zq z]) := (HV.alloc (hv_at (by simp)) _)
  have La : Hid (w.heap.size ≤ (w.heap.size + 1)) := by show _ ≤ _; omega
  have Fr : Hid (HV (((w.alloc (.cells #[J zq f0, J zq f1, J zq f2, J zq f3] 26)).alloc (.cells #[J zq x, J zq y, J zq z] 28)).alloc (.cells #[J zq 0, J zq 0, J zq 0, J zq 0] 26)) ((w.heap.size + 1 + 1)) [J zq 0, J zq 0, J zq 0, J zq 0]) := (hv_at (by simp))
  have Lr : Hid (w.heap.size ≤ (w.heap.size + 1 + 1)) := by show _ ≤ _; omega
  have FX : Hid (Ext w (((w.alloc (.cells #[J zq f0, J zq f1, J zq f2, J zq f3] 26)).alloc (.cells #[J zq x, J zq y, J zq z] 28)).alloc (.cells #[J zq 0, J zq 0, J zq 0, J zq 0] 26))) := ((((Ext.refl _).alloc _).alloc _).alloc _)
  go_enter Tryz.func8, Tryz.ntmps8
  go_upto_region 1 with fail
  generalize (((w.alloc (.cells #[J zq f0, J zq f1, J zq f2, J zq f3] 26)).alloc (.cells #[J zq x, J zq y, J zq z] 28)).alloc (.cells #[J zq 0, J zq 0, J zq 0, J zq 0] 26)) = w0 at *
  have ltfr : w.heap.size < w.heap.size + 1 + 1 := by omega
  have ltar : w.heap.size + 1 < w.heap.size + 1 + 1 := by omega
  have ltfa : w.heap.size < w.heap.size + 1 := by omega
  have qf0 := Ff.out.c 0 rfl
  have qf1 := Ff.out.c 1 rfl
  have qf2 := Ff.out.c 2 rfl
  have qf3 := Ff.out.c 3 rfl
  have qa0 := Fa.out.c 0 rfl
  have qa1 := Fa.out.c 1 rfl
  have qa2 := Fa.out.c 2 rfl
  go_upto_region 2 with (first | (go_at_call 35; refine (HT.out _).mono ?_; rintro e w1 ⟨rfl, x1⟩))
  have Ff := hvx Ff x1
  have Fa := hvx Fa x1
  have Fr := hvx Fr x1
  have FX := exx FX x1
  clear qf0 qf1 qf2 qf3 qa0 qa1 qa2 x1 HT
  have ltfh := Ff.out.1
  have ltah := Fa.out.1
  have ltrh := Fr.out.1
  have Lh := exz FX
  have Ff := hvl Ff (.cells #[J zq 0, J zq 0, J zq h2] 28)
  have Fa := hvl Fa (.cells #[J zq 0, J zq 0, J zq h2] 28)
  have Fr := hvl Fr (.cells #[J zq 0, J zq 0, J zq h2] 28)
  have Fh : Hid (HV (w1.alloc (.cells #[J zq 0, J zq 0, J zq h2] 28)) w1.heap.size [J zq 0, J zq 0, J zq h2]) := hv_at rfl
  have FX := exl FX (.cells #[J zq 0, J zq 0, J zq h2] 28)
  generalize (w1.alloc (.cells #[J zq 0, J zq 0, J zq h2] 28)) = wx1 at *
  generalize w1.heap.size = nh at *
  have qh0 := Fh.out.c 0 rfl
  have qh1 := Fh.out.c 1 rfl
  have qf0 := Ff.out.c 0 rfl
  have qf1 := Ff.out.c 1 rfl
  have qf2 := Ff.out.c 2 rfl
  have qf3 := Ff.out.c 3 rfl
  have z0 := Fr.out.c 0 rfl
  have y0 := Fr.out.f 0 rfl
  have z1 := Fr.out.c 1 rfl
  have y1 := Fr.out.f 1 rfl
  have z2 := Fr.out.c 2 rfl
  have y2 := Fr.out.f 2 rfl
  have z3 := Fr.out.c 3 rfl
  have y3 := Fr.out.f 3 rfl
  have rl := Fr.out.1
  go_wp2_with fail
  exact bodyPost_ret (v := .tuple #[zG #[J zq f0, J zq f1, J zq f2, J zq f3], J zq 0]) (by simp [results, Tryz.results8, go_sem, z0, z1, z2, z3]) rfl ⟨rfl, ((((FX.out.set (p := ⟨(w.heap.size + 1 + 1), 0, none⟩) Lr.out _).set (p := ⟨(w.heap.size + 1 + 1), 1, none⟩) Lr.out _).set (p := ⟨(w.heap.size + 1 + 1), 2, none⟩) Lr.out _).set (p := ⟨(w.heap.size + 1 + 1), 3, none⟩) Lr.out _)⟩
set_option maxRecDepth 20000 in
set_option maxHeartbeats 16000000 in
theorem rnorth_raw (f0 f1 f2 f3 x y z h0 h1 h2 s0 s1 s2 p0 p1 p2 p3 u0 u1 u2 u3 t0 : Int) (w : World) (HT : Hid (∀ w', Calls zP 35 #[zG #[J zq f0, J zq f1, J zq f2, J zq f3], zG #[J zq x, J zq y, J zq z]] w' fun e w'' => e = zR (.tuple #[zG #[J zq h0, J zq h1, J zq h2], J zq 0]) ∧ Ext w' w'')) (hz : (h0 == 0 && h1 == 0) = false) (HU : Hid (∀ w', Calls zP 30 #[zG #[J zq h0, J zq h1, J zq 0]] w' fun e w'' => e = zR (.tuple #[zG #[J zq s0, J zq s1, J zq s2], J zq 0]) ∧ Ext w' w'')) (T0 : Hid (∀ w', Calls zP 34 #[J zq s0] w' fun e w'' => e = zR (J zq t0) ∧ Ext w' w'')) (HP : Hid (∀ w', Calls zP 33 #[zG #[J zq 1073741824, J zq 0, J zq 0, J zq t0], zG #[J zq f0, J zq f1, J zq f2, J zq f3]] w' fun e w'' => e = zR (.tuple #[zG #[J zq p0, J zq p1, J zq p2, J zq p3], J zq 0]) ∧ Ext w' w'')) (HN : Hid (∀ w', Calls zP 28 #[zG #[J zq p0, J zq p1, J zq p2, J zq p3], J zq 0] w' fun e w'' => e = zR (.tuple #[zG #[J zq u0, J zq u1, J zq u2, J zq u3], J zq 0]) ∧ Ext w' w'')) :
    Calls zP 8 #[zG #[J zq f0, J zq f1, J zq f2, J zq f3], zG #[J zq x, J zq y, J zq z]] w fun e w' => e = zR (.tuple #[zG #[J zq u0, J zq u1, J zq u2, J zq u3], J zq 0]) ∧ Ext w w' := by
  have Ff : Hid (HV (((w.alloc (.cells #[J zq f0, J zq f1, J zq f2, J zq f3] 26)).alloc (.cells #[J zq x, J zq y, J zq z] 28)).alloc (.cells #[J zq 0, J zq 0, J zq 0, J zq 0] 26)) (w.heap.size) [J zq f0, J zq f1, J zq f2, J zq f3]) := (HV.alloc (HV.alloc (hv_at rfl) _) _)
  have Lf : Hid (w.heap.size ≤ w.heap.size) := Nat.le_refl _
  have Fa : Hid (HV (((w.alloc (.cells #[J zq f0, J zq f1, J zq f2, J zq f3] 26)).alloc (.cells #[J zq x, J zq y, J zq z] 28)).alloc (.cells #[J zq 0, J zq 0, J zq 0, J zq 0] 26)) ((w.heap.size + 1)) [J zq x, J zq y, J zq z]) := (HV.alloc (hv_at (by simp)) _)
  have La : Hid (w.heap.size ≤ (w.heap.size + 1)) := by show _ ≤ _; omega
  have Fr : Hid (HV (((w.alloc (.cells #[J zq f0, J zq f1, J zq f2, J zq f3] 26)).alloc (.cells #[J zq x, J zq y, J zq z] 28)).alloc (.cells #[J zq 0, J zq 0, J zq 0, J zq 0] 26)) ((w.heap.size + 1 + 1)) [J zq 0, J zq 0, J zq 0, J zq 0]) := (hv_at (by simp))
  have Lr : Hid (w.heap.size ≤ (w.heap.size + 1 + 1)) := by show _ ≤ _; omega
  have FX : Hid (Ext w (((w.alloc (.cells #[J zq f0, J zq f1, J zq f2, J zq f3] 26)).alloc (.cells #[J zq x, J zq y, J zq z] 28)).alloc (.cells #[J zq 0, J zq 0, J zq 0, J zq 0] 26))) := ((((Ext.refl _).alloc _).alloc _).alloc _)
  go_enter Tryz.func8, Tryz.ntmps8
  go_upto_region 1 with fail
  generalize (((w.alloc (.cells #[J zq f0, J zq f1, J zq f2, J zq f3] 26)).alloc (.cells #[J zq x, J zq y, J zq z] 28)).alloc (.cells #[J zq 0, J zq 0, J zq 0, J zq 0] 26)) = w0 at *
  have ltfr : w.heap.size < w.heap.size + 1 + 1 := by omega
  have ltar : w.heap.size + 1 < w.heap.size + 1 + 1 := by omega
  have ltfa : w.heap.size < w.heap.size + 1 := by omega
  have qf0 := Ff.out.c 0 rfl
  have qf1 := Ff.out.c 1 rfl
  have qf2 := Ff.out.c 2 rfl
  have qf3 := Ff.out.c 3 rfl
  have qa0 := Fa.out.c 0 rfl
  have qa1 := Fa.out.c 1 rfl
  have qa2 := Fa.out.c 2 rfl
  go_upto_region 2 with (first | (go_at_call 35; refine (HT.out _).mono ?_; rintro e w1 ⟨rfl, x1⟩))
  have Ff := hvx Ff x1
  have Fa := hvx Fa x1
  have Fr := hvx Fr x1
  have FX := exx FX x1
  clear qf0 qf1 qf2 qf3 qa0 qa1 qa2 x1 HT
  have ltfh := Ff.out.1
  have ltah := Fa.out.1
  have ltrh := Fr.out.1
  have Lh := exz FX
  have Ff := hvl Ff (.cells #[J zq h0, J zq h1, J zq h2] 28)
  have Fa := hvl Fa (.cells #[J zq h0, J zq h1, J zq h2] 28)
  have Fr := hvl Fr (.cells #[J zq h0, J zq h1, J zq h2] 28)
  have Fh : Hid (HV (w1.alloc (.cells #[J zq h0, J zq h1, J zq h2] 28)) w1.heap.size [J zq h0, J zq h1, J zq h2]) := hv_at rfl
  have FX := exl FX (.cells #[J zq h0, J zq h1, J zq h2] 28)
  generalize (w1.alloc (.cells #[J zq h0, J zq h1, J zq h2] 28)) = wx1 at *
  generalize w1.heap.size = nh at *
  have qh0 := Fh.out.c 0 rfl
  have qh1 := Fh.out.c 1 rfl
  cases e0 : h0 == 0
  · clear hz
    go_upto_region 6 with fail
    go_upto_region 7 with (first | (go_at_call 30; refine (HU.out _).mono ?_; rintro e w2 ⟨rfl, x2⟩))
    have Ff := hvx Ff x2
    have Fa := hvx Fa x2
    have Fr := hvx Fr x2
    have Fh := hvx Fh x2
    have FX := exx FX x2
    clear qh0 qh1 x2 HU
    have ltfs := Ff.out.1
    have ltas := Fa.out.1
    have ltrs := Fr.out.1
    have lths := Fh.out.1
    have Ls := exz FX
    have Ff := hvl Ff (.cells #[J zq s0, J zq s1, J zq s2] 28)
    have Fa := hvl Fa (.cells #[J zq s0, J zq s1, J zq s2] 28)
    have Fr := hvl Fr (.cells #[J zq s0, J zq s1, J zq s2] 28)
    have Fh := hvl Fh (.cells #[J zq s0, J zq s1, J zq s2] 28)
    have Fs : Hid (HV (w2.alloc (.cells #[J zq s0, J zq s1, J zq s2] 28)) w2.heap.size [J zq s0, J zq s1, J zq s2]) := hv_at rfl
    have FX := exl FX (.cells #[J zq s0, J zq s1, J zq s2] 28)
    generalize (w2.alloc (.cells #[J zq s0, J zq s1, J zq s2] 28)) = wx12 at *
    generalize w2.heap.size = ns at *
    go_upto_region 9 with fail
    have qs0 := Fs.out.c 0 rfl
    have bs : ns < wx12.heap.size := Fs.out.1
    have qf0 := Ff.out.c 0 rfl
    have qf1 := Ff.out.c 1 rfl
    have qf2 := Ff.out.c 2 rfl
    have qf3 := Ff.out.c 3 rfl
    have bf : w.heap.size < wx12.heap.size := Ff.out.1
    go_region_held3 (fun w' => w'.cell? ⟨ns, 0, none⟩ = some (J zq s0) ∧ w'.cell? ⟨w.heap.size, 0, none⟩ = some (J zq f0) ∧ w'.cell? ⟨w.heap.size, 1, none⟩ = some (J zq f1) ∧ w'.cell? ⟨w.heap.size, 2, none⟩ = some (J zq f2) ∧ w'.cell? ⟨w.heap.size, 3, none⟩ = some (J zq f3)) (first | (go_keep; done) | (refine ⟨?_, ?_, ?_, ?_, ?_⟩ <;> (rw [World.cell?_setCell_far _ _ _ _ (by dsimp only; omega), World.cell?_setCell_far _ _ _ _ (by dsimp only; omega), World.cell?_setCell_far _ _ _ _ (by dsimp only; omega), World.cell?_setCell_far _ _ _ _ (by dsimp only; omega)]; with_reducible assumption)) | skip) (first | (go_at_call 34; refine (T0.out _).mono ?_; rintro e wz0 ⟨rfl, y0⟩; have Y0 : Ext wx12 wz0 := Ext.trans xa y0; have qs0u : wz0.cell? ⟨ns, 0, none⟩ = some (J zq s0) := (Fs.out.ext Y0).c 0 rfl; have bsu : ns < wz0.heap.size := (Fs.out.ext Y0).1; have qf0u : wz0.cell? ⟨w.heap.size, 0, none⟩ = some (J zq f0) := (Ff.out.ext Y0).c 0 rfl; have qf1u : wz0.cell? ⟨w.heap.size, 1, none⟩ = some (J zq f1) := (Ff.out.ext Y0).c 1 rfl; have qf2u : wz0.cell? ⟨w.heap.size, 2, none⟩ = some (J zq f2) := (Ff.out.ext Y0).c 2 rfl; have qf3u : wz0.cell? ⟨w.heap.size, 3, none⟩ = some (J zq f3) := (Ff.out.ext Y0).c 3 rfl; have bfu : w.heap.size < wz0.heap.size := (Ff.out.ext Y0).1) | (go_at_call 33; refine (HP.out _).mono ?_; rintro e wz1 ⟨rfl, y1⟩; have Y1 : Ext wx12 wz1 := Ext.trans xa y1; have qs0u : wz1.cell? ⟨ns, 0, none⟩ = some (J zq s0) := (Fs.out.ext Y1).c 0 rfl; have bsu : ns < wz1.heap.size := (Fs.out.ext Y1).1; have qf0u : wz1.cell? ⟨w.heap.size, 0, none⟩ = some (J zq f0) := (Ff.out.ext Y1).c 0 rfl; have qf1u : wz1.cell? ⟨w.heap.size, 1, none⟩ = some (J zq f1) := (Ff.out.ext Y1).c 1 rfl; have qf2u : wz1.cell? ⟨w.heap.size, 2, none⟩ = some (J zq f2) := (Ff.out.ext Y1).c 2 rfl; have qf3u : wz1.cell? ⟨w.heap.size, 3, none⟩ = some (J zq f3) := (Ff.out.ext Y1).c 3 rfl; have bfu : w.heap.size < wz1.heap.size := (Ff.out.ext Y1).1) | (go_at_call 28; refine (HN.out _).mono ?_; rintro e wz2 ⟨rfl, y2⟩; have Y2 : Ext wx12 wz2 := Ext.trans xa y2; have qs0u : wz2.cell? ⟨ns, 0, none⟩ = some (J zq s0) := (Fs.out.ext Y2).c 0 rfl; have bsu : ns < wz2.heap.size := (Fs.out.ext Y2).1; have qf0u : wz2.cell? ⟨w.heap.size, 0, none⟩ = some (J zq f0) := (Ff.out.ext Y2).c 0 rfl; have qf1u : wz2.cell? ⟨w.heap.size, 1, none⟩ = some (J zq f1) := (Ff.out.ext Y2).c 1 rfl; have qf2u : wz2.cell? ⟨w.heap.size, 2, none⟩ = some (J zq f2) := (Ff.out.ext Y2).c 2 rfl; have qf3u : wz2.cell? ⟨w.heap.size, 3, none⟩ = some (J zq f3) := (Ff.out.ext Y2).c 3 rfl; have bfu : w.heap.size < wz2.heap.size := (Ff.out.ext Y2).1; have z0 := (Fr.out.ext Y2).c 0 rfl; have yr0 := (Fr.out.ext Y2).f 0 rfl; have z1 := (Fr.out.ext Y2).c 1 rfl; have yr1 := (Fr.out.ext Y2).f 1 rfl; have z2 := (Fr.out.ext Y2).c 2 rfl; have yr2 := (Fr.out.ext Y2).f 2 rfl; have z3 := (Fr.out.ext Y2).c 3 rfl; have yr3 := (Fr.out.ext Y2).f 3 rfl; have rl := (Fr.out.ext Y2).1))
    all_goals
      have FX := exx FX Y2
      go_wp2_with fail
      exact bodyPost_ret (v := .tuple #[zG #[J zq u0, J zq u1, J zq u2, J zq u3], J zq 0]) (by simp [results, Tryz.results8, go_sem, z0, z1, z2, z3]) rfl ⟨rfl, ((((FX.out.set (p := ⟨(w.heap.size + 1 + 1), 0, none⟩) Lr.out _).set (p := ⟨(w.heap.size + 1 + 1), 1, none⟩) Lr.out _).set (p := ⟨(w.heap.size + 1 + 1), 2, none⟩) Lr.out _).set (p := ⟨(w.heap.size + 1 + 1), 3, none⟩) Lr.out _)⟩
  · have e1 : (h1 == 0) = false := by rw [e0] at hz; exact hz
    clear hz
    go_upto_region 6 with fail
    go_upto_region 7 with (first | (go_at_call 30; refine (HU.out _).mono ?_; rintro e w2 ⟨rfl, x2⟩))
    have Ff := hvx Ff x2
    have Fa := hvx Fa x2
    have Fr := hvx Fr x2
    have Fh := hvx Fh x2
    have FX := exx FX x2
    clear qh0 qh1 x2 HU
    have ltfs := Ff.out.1
    have ltas := Fa.out.1
    have ltrs := Fr.out.1
    have lths := Fh.out.1
    have Ls := exz FX
    have Ff := hvl Ff (.cells #[J zq s0, J zq s1, J zq s2] 28)
    have Fa := hvl Fa (.cells #[J zq s0, J zq s1, J zq s2] 28)
    have Fr := hvl Fr (.cells #[J zq s0, J zq s1, J zq s2] 28)
    have Fh := hvl Fh (.cells #[J zq s0, J zq s1, J zq s2] 28)
    have Fs : Hid (HV (w2.alloc (.cells #[J zq s0, J zq s1, J zq s2] 28)) w2.heap.size [J zq s0, J zq s1, J zq s2]) := hv_at rfl
    have FX := exl FX (.cells #[J zq s0, J zq s1, J zq s2] 28)
    generalize (w2.alloc (.cells #[J zq s0, J zq s1, J zq s2] 28)) = wx22 at *
    generalize w2.heap.size = ns at *
    go_upto_region 9 with fail
    have qs0 := Fs.out.c 0 rfl
    have bs : ns < wx22.heap.size := Fs.out.1
    have qf0 := Ff.out.c 0 rfl
    have qf1 := Ff.out.c 1 rfl
    have qf2 := Ff.out.c 2 rfl
    have qf3 := Ff.out.c 3 rfl
    have bf : w.heap.size < wx22.heap.size := Ff.out.1
    go_region_held3 (fun w' => w'.cell? ⟨ns, 0, none⟩ = some (J zq s0) ∧ w'.cell? ⟨w.heap.size, 0, none⟩ = some (J zq f0) ∧ w'.cell? ⟨w.heap.size, 1, none⟩ = some (J zq f1) ∧ w'.cell? ⟨w.heap.size, 2, none⟩ = some (J zq f2) ∧ w'.cell? ⟨w.heap.size, 3, none⟩ = some (J zq f3)) (first | (go_keep; done) | (refine ⟨?_, ?_, ?_, ?_, ?_⟩ <;> (rw [World.cell?_setCell_far _ _ _ _ (by dsimp only; omega), World.cell?_setCell_far _ _ _ _ (by dsimp only; omega), World.cell?_setCell_far _ _ _ _ (by dsimp only; omega), World.cell?_setCell_far _ _ _ _ (by dsimp only; omega)]; with_reducible assumption)) | skip) (first | (go_at_call 34; refine (T0.out _).mono ?_; rintro e wz0 ⟨rfl, y0⟩; have Y0 : Ext wx22 wz0 := Ext.trans xa y0; have qs0u : wz0.cell? ⟨ns, 0, none⟩ = some (J zq s0) := (Fs.out.ext Y0).c 0 rfl; have bsu : ns < wz0.heap.size := (Fs.out.ext Y0).1; have qf0u : wz0.cell? ⟨w.heap.size, 0, none⟩ = some (J zq f0) := (Ff.out.ext Y0).c 0 rfl; have qf1u : wz0.cell? ⟨w.heap.size, 1, none⟩ = some (J zq f1) := (Ff.out.ext Y0).c 1 rfl; have qf2u : wz0.cell? ⟨w.heap.size, 2, none⟩ = some (J zq f2) := (Ff.out.ext Y0).c 2 rfl; have qf3u : wz0.cell? ⟨w.heap.size, 3, none⟩ = some (J zq f3) := (Ff.out.ext Y0).c 3 rfl; have bfu : w.heap.size < wz0.heap.size := (Ff.out.ext Y0).1) | (go_at_call 33; refine (HP.out _).mono ?_; rintro e wz1 ⟨rfl, y1⟩; have Y1 : Ext wx22 wz1 := Ext.trans xa y1; have qs0u : wz1.cell? ⟨ns, 0, none⟩ = some (J zq s0) := (Fs.out.ext Y1).c 0 rfl; have bsu : ns < wz1.heap.size := (Fs.out.ext Y1).1; have qf0u : wz1.cell? ⟨w.heap.size, 0, none⟩ = some (J zq f0) := (Ff.out.ext Y1).c 0 rfl; have qf1u : wz1.cell? ⟨w.heap.size, 1, none⟩ = some (J zq f1) := (Ff.out.ext Y1).c 1 rfl; have qf2u : wz1.cell? ⟨w.heap.size, 2, none⟩ = some (J zq f2) := (Ff.out.ext Y1).c 2 rfl; have qf3u : wz1.cell? ⟨w.heap.size, 3, none⟩ = some (J zq f3) := (Ff.out.ext Y1).c 3 rfl; have bfu : w.heap.size < wz1.heap.size := (Ff.out.ext Y1).1) | (go_at_call 28; refine (HN.out _).mono ?_; rintro e wz2 ⟨rfl, y2⟩; have Y2 : Ext wx22 wz2 := Ext.trans xa y2; have qs0u : wz2.cell? ⟨ns, 0, none⟩ = some (J zq s0) := (Fs.out.ext Y2).c 0 rfl; have bsu : ns < wz2.heap.size := (Fs.out.ext Y2).1; have qf0u : wz2.cell? ⟨w.heap.size, 0, none⟩ = some (J zq f0) := (Ff.out.ext Y2).c 0 rfl; have qf1u : wz2.cell? ⟨w.heap.size, 1, none⟩ = some (J zq f1) := (Ff.out.ext Y2).c 1 rfl; have qf2u : wz2.cell? ⟨w.heap.size, 2, none⟩ = some (J zq f2) := (Ff.out.ext Y2).c 2 rfl; have qf3u : wz2.cell? ⟨w.heap.size, 3, none⟩ = some (J zq f3) := (Ff.out.ext Y2).c 3 rfl; have bfu : w.heap.size < wz2.heap.size := (Ff.out.ext Y2).1; have z0 := (Fr.out.ext Y2).c 0 rfl; have yr0 := (Fr.out.ext Y2).f 0 rfl; have z1 := (Fr.out.ext Y2).c 1 rfl; have yr1 := (Fr.out.ext Y2).f 1 rfl; have z2 := (Fr.out.ext Y2).c 2 rfl; have yr2 := (Fr.out.ext Y2).f 2 rfl; have z3 := (Fr.out.ext Y2).c 3 rfl; have yr3 := (Fr.out.ext Y2).f 3 rfl; have rl := (Fr.out.ext Y2).1))
    all_goals
      have FX := exx FX Y2
      go_wp2_with fail
      exact bodyPost_ret (v := .tuple #[zG #[J zq u0, J zq u1, J zq u2, J zq u3], J zq 0]) (by simp [results, Tryz.results8, go_sem, z0, z1, z2, z3]) rfl ⟨rfl, ((((FX.out.set (p := ⟨(w.heap.size + 1 + 1), 0, none⟩) Lr.out _).set (p := ⟨(w.heap.size + 1 + 1), 1, none⟩) Lr.out _).set (p := ⟨(w.heap.size + 1 + 1), 2, none⟩) Lr.out _).set (p := ⟨(w.heap.size + 1 + 1), 3, none⟩) Lr.out _)⟩
theorem runitv_told {x y z m0 m1 m2 : Int} (w : World) (h : ok3 x y z = true) (hz : ¬ (x = 0 ∧ y = 0 ∧ z = 0)) (hu : UnitV x y z m0 m1 m2) : Calls zP 30 #[zG #[J zq x, J zq y, J zq z]] w fun e w'' => e = zR (.tuple #[zG #[J zq m0, J zq m1, J zq m2], J zq 0]) ∧ Ext w w'' := by
  obtain ⟨b0, b1, b2⟩ := unitv_le hz hu
  obtain ⟨k0, k1, k2, h0, h1, h2, e0, e1, e2⟩ := hu
  have R := runit_any x y z k0 k1 k2 w h hz h0 h1 h2
  rw [← e0, ← e1, ← e2] at R
  unfold vres at R
  rw [if_pos (ok3_of (by omega) (by omega) (by omega))] at R
  exact R
theorem runitq_told {a b c d u0 u1 u2 u3 : Int} (w : World) (h : ok4 a b c d = true) (hz : ¬ (a = 0 ∧ b = 0 ∧ c = 0 ∧ d = 0)) (hu : UnitQ a b c d u0 u1 u2 u3) : Calls zP 66 #[zG #[J zq a, J zq b, J zq c, J zq d]] w fun e w'' => e = zR (.tuple #[zG #[J zq u0, J zq u1, J zq u2, J zq u3], J zq 0]) ∧ Ext w w'' := by
  have ho := okO_ok4 (unitq_okO hz hu)
  obtain ⟨k0, k1, k2, k3, h0, h1, h2, h3, e0, e1, e2, e3⟩ := hu
  have R := runitq_any a b c d k0 k1 k2 k3 w h hz h0 h1 h2 h3
  rw [← e0, ← e1, ← e2, ← e3] at R
  unfold qres at R
  rw [if_pos ho] at R
  exact R
theorem rnturn {a b c d x y z : Int} (w : World) (h : okO a b c d = true) (k : ok3 x y z = true) : Calls zP 35 #[zG #[J zq a, J zq b, J zq c, J zq d], zG #[J zq x, J zq y, J zq z]] w fun e w'' => e = zR (vres (nh0 a b c d x y z) (nh1 a b c d x y z) (nh2 a b c d x y z)) ∧ Ext w w'' := by
  have R := rturn_any a b c d x y z w (okO_ok4 h) k
  unfold turnR at R
  rw [if_pos (by rw [okO_ok4 h, k]; rfl), if_neg (okO_zero h)] at R
  exact R
theorem rup_told {a b c d x y z u0 u1 u2 u3 : Int} (w : World) (h : okO a b c d = true) (k : ok3 x y z = true) (hu : UpD a b c d x y z u0 u1 u2 u3) : Calls zP 7 #[zG #[J zq a, J zq b, J zq c, J zq d], zG #[J zq x, J zq y, J zq z]] w fun e w'' => e = zR (.tuple #[zG #[J zq u0, J zq u1, J zq u2, J zq u3], J zq 0]) ∧ Ext w w'' := by
  obtain ⟨n, hk, hu⟩ := hu
  have G := fun w' => rgated_any x y z n w' k hk
  rcases hu with ⟨hg, rfl, rfl, rfl, rfl⟩ | ⟨hg, c0, c1, c2, hc, hu⟩
  · rw [hg] at G
    exact rup_stays _ _ _ _ x y z w G
  · rw [hg] at G
    have hz := gat_zero hk hg
    obtain ⟨l0, l1, l2⟩ := upC_le h hz hc
    obtain ⟨m4, mzz⟩ := lean_prod h l0 l1 l2
    obtain ⟨m0, m1, m2, hm, e0, e1, e2⟩ := hc
    have HU := fun w' => runitv_told w' k hz hm
    obtain ⟨b0, b1, b2⟩ := unitv_le hz hm
    obtain ⟨s0, s1, s2⟩ := sh_le h
    have o0 := of_le b1 b2 s1 s2; have o1 := of_le b2 b0 s2 s0; have o2 := of_le b0 b1 s0 s1
    have HC := fun w' => rcross_any m0 m1 m2 (sh0 a b c d) (sh1 a b c d) (sh2 a b c d) w' (ok3_of (by omega) (by omega) (by omega)) (ok3_of (by omega) (by omega) (by omega))
    have HC : ∀ w', Calls zP 31 #[zG #[J zq m0, J zq m1, J zq m2], zG #[J zq (sh0 a b c d), J zq (sh1 a b c d), J zq (sh2 a b c d)]] w' fun e w'' => e = zR (.tuple #[zG #[J zq (of0 m1 m2 (sh1 a b c d) (sh2 a b c d)), J zq (of0 m2 m0 (sh2 a b c d) (sh0 a b c d)), J zq (of0 m0 m1 (sh0 a b c d) (sh1 a b c d))], J zq 0]) ∧ Ext w' w'' := fun w' => by
      have H := HC w'
      unfold vres at H
      unfold of0 at o0 o1 o2 ⊢
      rw [if_pos (ok3_of (by omega) (by omega) (by omega))] at H
      exact H
    have HP := fun w' => rproduct_any a b c d 1073741824 c0 c1 c2 w' (okO_ok4 h) (ok4_of (by omega) (by omega) (by omega) (by omega))
    unfold qres at HP
    unfold mw mx my mz at m4 mzz hu
    rw [if_pos m4] at HP
    have T0 := fun w' => rturned_any w' o0
    have T1 := fun w' => rturned_any w' o1
    have T2 := fun w' => rturned_any w' o2
    rw [← e0] at T0
    rw [← e1] at T1
    rw [← e2] at T2
    exact rup_raw a b c d x y z m0 m1 m2 _ _ _ _ _ _ c0 c1 c2 _ _ _ _ u0 u1 u2 u3 w G HU (fun w' => rshown_any w' h) HC T0 T1 T2 HP (fun w' => runit15_raw _ _ _ _ u0 u1 u2 u3 w' (fun w'' => runitq_told w'' m4 mzz hu))
theorem rnorth_told {a b c d x y z u0 u1 u2 u3 : Int} (w : World) (h : okO a b c d = true) (k : ok3 x y z = true) (hn : ok3 (nh0 a b c d x y z) (nh1 a b c d x y z) (nh2 a b c d x y z) = true) (hu : NorthD a b c d x y z u0 u1 u2 u3) : Calls zP 8 #[zG #[J zq a, J zq b, J zq c, J zq d], zG #[J zq x, J zq y, J zq z]] w fun e w'' => e = zR (.tuple #[zG #[J zq u0, J zq u1, J zq u2, J zq u3], J zq 0]) ∧ Ext w w'' := by
  have T := fun w' => rnturn w' h k
  unfold vres at T
  rw [if_pos hn] at T
  obtain ⟨g0, g1, g2⟩ := ok3_parts hn
  rcases hu with ⟨e0, e1, rfl, rfl, rfl, rfl⟩ | ⟨hz, s0, s1, s2, hs, hu⟩
  · rw [e0, e1] at T
    exact rnorth_stays _ _ _ _ x y z _ w T
  · obtain ⟨l0, l1, l2⟩ := unitv_le hz hs
    have hl := lean_le (o := s0) (by omega)
    obtain ⟨m4, mzz⟩ := swing_prod h hl
    have n3 : ok3 (nh0 a b c d x y z) (nh1 a b c d x y z) 0 = true := by unfold ok3; rw [g0, g1]; rfl
    generalize nh0 a b c d x y z = h0 at *
    generalize nh1 a b c d x y z = h1 at *
    generalize nh2 a b c d x y z = h2 at *
    have he : (h0 == 0 && h1 == 0) = false := by
      rw [Bool.eq_false_iff]; intro hc; simp at hc; exact hz ⟨hc.1, hc.2, rfl⟩
    have HP := fun w' => rproduct_any 1073741824 0 0 (lean s0) a b c d w' (ok4_of (by omega) (by omega) (by omega) (by omega)) (okO_ok4 h)
    unfold qres at HP
    unfold mw mx my mz at m4 mzz hu
    rw [if_pos m4] at HP
    exact rnorth_raw a b c d x y z h0 h1 h2 s0 s1 s2 _ _ _ _ u0 u1 u2 u3 (lean s0) w T he (fun w' => runitv_told w' n3 hz hs) (fun w' => rturned_any w' (by omega)) HP (fun w' => runit15_raw _ _ _ _ u0 u1 u2 u3 w' (fun w'' => runitq_told w'' m4 mzz hu))
theorem rnorth_range {a b c d x y z : Int} (w : World) (h : okO a b c d = true) (k : ok3 x y z = true) (hn : ok3 (nh0 a b c d x y z) (nh1 a b c d x y z) (nh2 a b c d x y z) = false) : Calls zP 8 #[zG #[J zq a, J zq b, J zq c, J zq d], zG #[J zq x, J zq y, J zq z]] w fun e w'' => e = zR (.tuple #[zG #[J zq 0, J zq 0, J zq 0, J zq 0], J zq 2]) ∧ Ext w w'' := by
  have T := fun w' => rnturn w' h k
  unfold vres at T
  rw [if_neg (by rw [hn]; decide)] at T
  exact rnorth_err a b c d x y z 2 w T (by decide)
end Go.Proofs.YtoeecldhbabmbaaGreat
