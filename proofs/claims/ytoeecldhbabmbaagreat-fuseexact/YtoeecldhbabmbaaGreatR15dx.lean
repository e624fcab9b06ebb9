/- gimbalref90: Abs; gimbalref15: Spin. -/
import Derived.Test.YtoeecldhbabmbaaGreatR15cx
import Derived.Deep.Cut
import Derived.Deep.DeepCutAuto
open Go.Value renaming int → J, agg → zG
open Go.IntKind renaming i64 → zq
open Go.Ending renaming returned → zR
open Go.Proofs.Tryz renaming prog → zP
namespace Go.Proofs.YtoeecldhbabmbaaGreat
open Go.RowKit Go.Shelf
set_option maxHeartbeats 1000000 in
theorem abs_isI (z : Int) (r : Value) (w : World) (h : IsI w r z) (hs : SmallI z) :
    Calls zP 23 #[r] w fun e w' => (∃ r', e = zR r' ∧ IsI w' r' (z.natAbs : Int)) ∧ Ext w w' := by
  obtain ⟨u, rfl, hu⟩ := h
  have HM : Hid (∀ w', Ext w w' → Calls zP 56 #[.bool false, u] w' fun e w'' => e = zR (zG #[.bool (false && decide (0 < z.natAbs)), u]) ∧ Ext w' w'') := fun w' hx => made_any _ u _ w' (hu.ext hx) hs
  have HF : Hid (∀ w', Ext w w' → IsI w' (zG #[.bool (false && decide (0 < z.natAbs)), u]) (z.natAbs : Int)) := by
    intro w' hx
    have k := isI_made w' false u _ (hu.ext hx)
    exact k
  obtain ⟨au, lu, cu, rfl⟩ := hu.isSlice
  clear hu hs
  generalize (false && decide (0 < z.natAbs)) = B at *
  generalize decide (z < 0) = b at *
  go_enter Tryz.func23, Tryz.ntmps23
  go_wp2_with fail
  refine (HM.out _ (((Ext.refl w).alloc _).alloc _)).mono ?_
  rintro e w2 ⟨rfl, x3⟩
  have s1 := x3.cells2
  have s2 := x3.frozen2
  simp only [World.size_alloc] at s1 s2
  obtain ⟨c0, c1⟩ := s1
  obtain ⟨f0, f1⟩ := s2
  have X : Hid (Ext w w2) := (((Ext.refl w).alloc _).alloc _).trans x3
  have HI : Hid (IsI w2 (zG #[.bool B, .slice au lu cu]) (z.natAbs : Int)) := HF.out w2 X.out
  clear x3 HM HF
  go_wp2_with fail
  exact bodyPost_ret (v := zG #[.bool B, .slice au lu cu]) (by simp [results, Tryz.results23, go_sem, c0, c1]) rfl ⟨⟨_, rfl, HI.out.set2 c0 c1⟩, (X.out.setCell (by simp) _).setCell (by simp) _⟩
set_option maxRecDepth 20000 in
set_option maxHeartbeats 20000000 in
theorem rspin_bad0 (f0 f1 f2 f3 x y z n One P0 g0 : Int) (w : World) (HF : Hid (∀ w', Calls zP 24 #[J zq 1073741824] w' fun e w'' => (∃ r, e = zR r ∧ IsI w'' r (One)) ∧ Ext w' w'')) (HP0 : Hid (∀ w', Calls zP 21 #[J zq x, J zq n] w' fun e w'' => (∃ r, e = zR r ∧ IsI w'' r (P0)) ∧ Ext w' w'')) (HA0 : Hid (∀ r w', IsI w' r P0 → Calls zP 23 #[r] w' fun e w'' => (∃ r, e = zR r ∧ IsI w'' r ((P0.natAbs : Int))) ∧ Ext w' w'')) (HC0 : Hid (∀ r1 r2 w', IsI w' r1 (P0.natAbs : Int) → IsI w' r2 One → Calls zP 20 #[r1, r2] w' fun e w'' => e = zR (J zq g0) ∧ Ext w' w'')) (hg0 : decide (0 < g0) = true) :
    Calls zP 6 #[zG #[J zq f0, J zq f1, J zq f2, J zq f3], zG #[J zq x, J zq y, J zq z], J zq n] w fun e w' => e = zR (.tuple #[zG #[J zq 0, J zq 0, J zq 0, J zq 0], J zq 2]) ∧ Ext w w' := by
  have Ff : Hid (HV (((w.alloc (.cells #[J zq f0, J zq f1, J zq f2, J zq f3] 26)).alloc (.cells #[J zq x, J zq y, J zq z] 28)).alloc (.cells #[J zq 0, J zq 0, J zq 0, J zq 0] 26)) (w.heap.size) [J zq f0, J zq f1, J zq f2, J zq f3]) := (HV.alloc (HV.alloc (hv_at rfl) _) _)
  have Lf : Hid (w.heap.size ≤ w.heap.size) := Nat.le_refl _
  have Fv : Hid (HV (((w.alloc (.cells #[J zq f0, J zq f1, J zq f2, J zq f3] 26)).alloc (.cells #[J zq x, J zq y, J zq z] 28)).alloc (.cells #[J zq 0, J zq 0, J zq 0, J zq 0] 26)) ((w.heap.size + 1)) [J zq x, J zq y, J zq z]) := (HV.alloc (hv_at (by simp)) _)
  have Lv : Hid (w.heap.size ≤ (w.heap.size + 1)) := by show _ ≤ _; omega
  have Fr : Hid (HV (((w.alloc (.cells #[J zq f0, J zq f1, J zq f2, J zq f3] 26)).alloc (.cells #[J zq x, J zq y, J zq z] 28)).alloc (.cells #[J zq 0, J zq 0, J zq 0, J zq 0] 26)) ((w.heap.size + 1 + 1)) [J zq 0, J zq 0, J zq 0, J zq 0]) := (hv_at (by simp))
  have Lr : Hid (w.heap.size ≤ (w.heap.size + 1 + 1)) := by show _ ≤ _; omega
  have FX : Hid (Ext w (((w.alloc (.cells #[J zq f0, J zq f1, J zq f2, J zq f3] 26)).alloc (.cells #[J zq x, J zq y, J zq z] 28)).alloc (.cells #[J zq 0, J zq 0, J zq 0, J zq 0] 26))) := ((((Ext.refl _).alloc _).alloc _).alloc _)
  go_enter Tryz.func6, Tryz.ntmps6
  go_upto_region 1 with fail
  generalize (((w.alloc (.cells #[J zq f0, J zq f1, J zq f2, J zq f3] 26)).alloc (.cells #[J zq x, J zq y, J zq z] 28)).alloc (.cells #[J zq 0, J zq 0, J zq 0, J zq 0] 26)) = w0 at *
  have ltfr : w.heap.size < (w.heap.size + 1 + 1) := by omega
  have ltvr : (w.heap.size + 1) < (w.heap.size + 1 + 1) := by omega
  have ltfv : w.heap.size < (w.heap.size + 1) := by omega
  go_upto_region 2 with fail
  have ltfd := Ff.out.1
  have ltvd := Fv.out.1
  have ltrd := Fr.out.1
  have Ld := exz FX
  have Ff := hvl Ff (.cells #[J zq 0, J zq 0, J zq 0, J zq 0] 24)
  have Fv := hvl Fv (.cells #[J zq 0, J zq 0, J zq 0, J zq 0] 24)
  have Fr := hvl Fr (.cells #[J zq 0, J zq 0, J zq 0, J zq 0] 24)
  have Fd : Hid (HV (w0.alloc (.cells #[J zq 0, J zq 0, J zq 0, J zq 0] 24)) w0.heap.size [J zq 0, J zq 0, J zq 0, J zq 0]) := hv_at rfl
  have FX := exl FX (.cells #[J zq 0, J zq 0, J zq 0, J zq 0] 24)
  generalize (w0.alloc (.cells #[J zq 0, J zq 0, J zq 0, J zq 0] 24)) = wx1 at *
  generalize w0.heap.size = nd at *
  go_wp2_with fail
  refine wp_loop_rounds 4 ?_
  rw [rounds_succ]
  have qv0 := Fv.out.c 0 rfl
  have qv1 := Fv.out.c 1 rfl
  have qv2 := Fv.out.c 2 rfl
  go_upto_region 6 with fail
  clear qv0 qv1 qv2
  have ltfb0 := Ff.out.1
  have ltvb0 := Fv.out.1
  have ltrb0 := Fr.out.1
  have ltdb0 := Fd.out.1
  have Lb0 := exz FX
  have Ff := hvl Ff (.cells #[J zq x, J zq y, J zq z] 2)
  have Fv := hvl Fv (.cells #[J zq x, J zq y, J zq z] 2)
  have Fr := hvl Fr (.cells #[J zq x, J zq y, J zq z] 2)
  have Fd := hvl Fd (.cells #[J zq x, J zq y, J zq z] 2)
  have Fb0 : Hid (HV (wx1.alloc (.cells #[J zq x, J zq y, J zq z] 2)) wx1.heap.size [J zq x, J zq y, J zq z]) := hv_at rfl
  have FX := exl FX (.cells #[J zq x, J zq y, J zq z] 2)
  generalize (wx1.alloc (.cells #[J zq x, J zq y, J zq z] 2)) = wx2 at *
  generalize wx1.heap.size = nb0 at *
  go_upto_region 7 with (go_at_call 21; refine (HP0.out _).mono ?_; rintro e wp0 ⟨⟨rp, rfl, hp⟩, xp⟩; obtain ⟨bn, an, ln, cn, rfl⟩ := hp.form; have IP : Hid (IsI wp0 (zG #[.bool bn, .slice an ln cn]) P0) := hp; clear hp)
  have Ff := hvx Ff xp
  have Fv := hvx Fv xp
  have Fr := hvx Fr xp
  have Fd := hvx Fd xp
  have FX := exx FX xp
  clear xp HP0
  have IP : Hid (IsI (wp0.alloc (.cells #[.bool bn, .slice an ln cn] 50)) (zG #[.bool bn, .slice an ln cn]) P0) := IP.out.ext ((Ext.refl _).alloc _)
  have ltfp0 := Ff.out.1
  have ltvp0 := Fv.out.1
  have ltrp0 := Fr.out.1
  have ltdp0 := Fd.out.1
  have Lp0 := exz FX
  have Ff := hvl Ff (.cells #[.bool bn, .slice an ln cn] 50)
  have Fv := hvl Fv (.cells #[.bool bn, .slice an ln cn] 50)
  have Fr := hvl Fr (.cells #[.bool bn, .slice an ln cn] 50)
  have Fd := hvl Fd (.cells #[.bool bn, .slice an ln cn] 50)
  have Fp0 : Hid (HV (wp0.alloc (.cells #[.bool bn, .slice an ln cn] 50)) wp0.heap.size [.bool bn, .slice an ln cn]) := hv_at rfl
  have FX := exl FX (.cells #[.bool bn, .slice an ln cn] 50)
  generalize (wp0.alloc (.cells #[.bool bn, .slice an ln cn] 50)) = wx3 at *
  generalize wp0.heap.size = np0 at *
  have qp00 := Fp0.out.c 0 rfl
  have qp01 := Fp0.out.c 1 rfl
  go_upto_region 8 with (first | (go_at_call 23; refine (HA0.out _ _ IP.out).mono ?_; rintro e wa0 ⟨⟨ra, rfl, ha⟩, xa⟩) | (go_at_call 24; refine (HF.out _).mono ?_; rintro e wf0 ⟨⟨rf, rfl, hf⟩, xf⟩) | (go_at_call 20; refine (HC0.out _ _ _ (ha.ext xf) hf).mono ?_; rintro e wc0 ⟨rfl, xc⟩))
  have hx : Ext wx3 wc0 := (xa.trans xf).trans xc
  have IP : Hid (IsI wc0 (zG #[.bool bn, .slice an ln cn]) P0) := IP.out.ext hx
  have Ff := hvx Ff hx
  have Fv := hvx Fv hx
  have Fr := hvx Fr hx
  have Fd := hvx Fd hx
  have Fp0 := hvx Fp0 hx
  have FX := exx FX hx
  clear qp00 qp01 xa xf xc hx ha hf HA0 HC0
  have z0 := Fr.out.c 0 rfl
  have z1 := Fr.out.c 1 rfl
  have z2 := Fr.out.c 2 rfl
  have z3 := Fr.out.c 3 rfl
  have y0 := Fr.out.f 0 rfl
  have y1 := Fr.out.f 1 rfl
  have y2 := Fr.out.f 2 rfl
  have y3 := Fr.out.f 3 rfl
  have rl := Fr.out.1
  go_wp2_with fail
  exact bodyPost_ret (v := .tuple #[zG #[J zq 0, J zq 0, J zq 0, J zq 0], J zq 2]) (by simp [results, Tryz.results6, go_sem, z0, z1, z2, z3]) rfl ⟨rfl, ((((FX.out.set (p := ⟨(w.heap.size + 1 + 1), 0, none⟩) Lr.out _).set (p := ⟨(w.heap.size + 1 + 1), 1, none⟩) Lr.out _).set (p := ⟨(w.heap.size + 1 + 1), 2, none⟩) Lr.out _).set (p := ⟨(w.heap.size + 1 + 1), 3, none⟩) Lr.out _)⟩
set_option maxRecDepth 20000 in
set_option maxHeartbeats 20000000 in
theorem rspin_bad1 (f0 f1 f2 f3 x y z n One P0 P1 g0 g1 : Int) (w : World) (HF : Hid (∀ w', Calls zP 24 #[J zq 1073741824] w' fun e w'' => (∃ r, e = zR r ∧ IsI w'' r (One)) ∧ Ext w' w'')) (HP0 : Hid (∀ w', Calls zP 21 #[J zq x, J zq n] w' fun e w'' => (∃ r, e = zR r ∧ IsI w'' r (P0)) ∧ Ext w' w'')) (HA0 : Hid (∀ r w', IsI w' r P0 → Calls zP 23 #[r] w' fun e w'' => (∃ r, e = zR r ∧ IsI w'' r ((P0.natAbs : Int))) ∧ Ext w' w'')) (HC0 : Hid (∀ r1 r2 w', IsI w' r1 (P0.natAbs : Int) → IsI w' r2 One → Calls zP 20 #[r1, r2] w' fun e w'' => e = zR (J zq g0) ∧ Ext w' w'')) (hg0 : decide (0 < g0) = false) (HS0 : Hid (∀ r w', IsI w' r P0 → Calls zP 25 #[r] w' fun e w'' => e = zR (.tuple #[J zq P0, .bool true]) ∧ Ext w' w'')) (HP1 : Hid (∀ w', Calls zP 21 #[J zq y, J zq n] w' fun e w'' => (∃ r, e = zR r ∧ IsI w'' r (P1)) ∧ Ext w' w'')) (HA1 : Hid (∀ r w', IsI w' r P1 → Calls zP 23 #[r] w' fun e w'' => (∃ r, e = zR r ∧ IsI w'' r ((P1.natAbs : Int))) ∧ Ext w' w'')) (HC1 : Hid (∀ r1 r2 w', IsI w' r1 (P1.natAbs : Int) → IsI w' r2 One → Calls zP 20 #[r1, r2] w' fun e w'' => e = zR (J zq g1) ∧ Ext w' w'')) (hg1 : decide (0 < g1) = true) :
    Calls zP 6 #[zG #[J zq f0, J zq f1, J zq f2, J zq f3], zG #[J zq x, J zq y, J zq z], J zq n] w fun e w' => e = zR (.tuple #[zG #[J zq 0, J zq 0, J zq 0, J zq 0], J zq 2]) ∧ Ext w w' := by
  have Ff : Hid (HV (((w.alloc (.cells #[J zq f0, J zq f1, J zq f2, J zq f3] 26)).alloc (.cells #[J zq x, J zq y, J zq z] 28)).alloc (.cells #[J zq 0, J zq 0, J zq 0, J zq 0] 26)) (w.heap.size) [J zq f0, J zq f1, J zq f2, J zq f3]) := (HV.alloc (HV.alloc (hv_at rfl) _) _)
  have Lf : Hid (w.heap.size ≤ w.heap.size) := Nat.le_refl _
  have Fv : Hid (HV (((w.alloc (.cells #[J zq f0, J zq f1, J zq f2, J zq f3] 26)).alloc (.cells #[J zq x, J zq y, J zq z] 28)).alloc (.cells #[J zq 0, J zq 0, J zq 0, J zq 0] 26)) ((w.heap.size + 1)) [J zq x, J zq y, J zq z]) := (HV.alloc (hv_at (by simp)) _)
  have Lv : Hid (w.heap.size ≤ (w.heap.size + 1)) := by show _ ≤ _; omega
  have Fr : Hid (HV (((w.alloc (.cells #[J zq f0, J zq f1, J zq f2, J zq f3] 26)).alloc (.cells #[J zq x, J zq y, J zq z] 28)).alloc (.cells #[J zq 0, J zq 0, J zq 0, J zq 0] 26)) ((w.heap.size + 1 + 1)) [J zq 0, J zq 0, J zq 0, J zq 0]) := (hv_at (by simp))
  have Lr : Hid (w.heap.size ≤ (w.heap.size + 1 + 1)) := by show _ ≤ _; omega
  have FX : Hid (Ext w (((w.alloc (.cells #[J zq f0, J zq f1, J zq f2, J zq f3] 26)).alloc (.cells #[J zq x, J zq y, J zq z] 28)).alloc (.cells #[J zq 0, J zq 0, J zq 0, J zq 0] 26))) := ((((Ext.refl _).alloc _).alloc _).alloc _)
  go_enter Tryz.func6, Tryz.ntmps6
  go_upto_region 1 with fail
  generalize (((w.alloc (.cells #[J zq f0, J zq f1, J zq f2, J zq f3] 26)).alloc (.cells #[J zq x, J zq y, J zq z] 28)).alloc (.cells #[J zq 0, J zq 0, J zq 0, J zq 0] 26)) = w0 at *
  have ltfr : w.heap.size < (w.heap.size + 1 + 1) := by omega
  have ltvr : (w.heap.size + 1) < (w.heap.size + 1 + 1) := by omega
  have ltfv : w.heap.size < (w.heap.size + 1) := by omega
  go_upto_region 2 with fail
  have ltfd := Ff.out.1
  have ltvd := Fv.out.1
  have ltrd := Fr.out.1
  have Ld := exz FX
  have Ff := hvl Ff (.cells #[J zq 0, J zq 0, J zq 0, J zq 0] 24)
  have Fv := hvl Fv (.cells #[J zq 0, J zq 0, J zq 0, J zq 0] 24)
  have Fr := hvl Fr (.cells #[J zq 0, J zq 0, J zq 0, J zq 0] 24)
  have Fd : Hid (HV (w0.alloc (.cells #[J zq 0, J zq 0, J zq 0, J zq 0] 24)) w0.heap.size [J zq 0, J zq 0, J zq 0, J zq 0]) := hv_at rfl
  have FX := exl FX (.cells #[J zq 0, J zq 0, J zq 0, J zq 0] 24)
  generalize (w0.alloc (.cells #[J zq 0, J zq 0, J zq 0, J zq 0] 24)) = wx1 at *
  generalize w0.heap.size = nd at *
  go_wp2_with fail
  refine wp_loop_rounds 4 ?_
  rw [rounds_succ]
  have qv0 := Fv.out.c 0 rfl
  have qv1 := Fv.out.c 1 rfl
  have qv2 := Fv.out.c 2 rfl
  go_upto_region 6 with fail
  clear qv0 qv1 qv2
  have ltfb0 := Ff.out.1
  have ltvb0 := Fv.out.1
  have ltrb0 := Fr.out.1
  have ltdb0 := Fd.out.1
  have Lb0 := exz FX
  have Ff := hvl Ff (.cells #[J zq x, J zq y, J zq z] 2)
  have Fv := hvl Fv (.cells #[J zq x, J zq y, J zq z] 2)
  have Fr := hvl Fr (.cells #[J zq x, J zq y, J zq z] 2)
  have Fd := hvl Fd (.cells #[J zq x, J zq y, J zq z] 2)
  have Fb0 : Hid (HV (wx1.alloc (.cells #[J zq x, J zq y, J zq z] 2)) wx1.heap.size [J zq x, J zq y, J zq z]) := hv_at rfl
  have FX := exl FX (.cells #[J zq x, J zq y, J zq z] 2)
  generalize (wx1.alloc (.cells #[J zq x, J zq y, J zq z] 2)) = wx2 at *
  generalize wx1.heap.size = nb0 at *
  go_upto_region 7 with (go_at_call 21; refine (HP0.out _).mono ?_; rintro e wp0 ⟨⟨rp, rfl, hp⟩, xp⟩; obtain ⟨bn, an, ln, cn, rfl⟩ := hp.form; have IP : Hid (IsI wp0 (zG #[.bool bn, .slice an ln cn]) P0) := hp; clear hp)
  have Ff := hvx Ff xp
  have Fv := hvx Fv xp
  have Fr := hvx Fr xp
  have Fd := hvx Fd xp
  have FX := exx FX xp
  clear xp HP0
  have IP : Hid (IsI (wp0.alloc (.cells #[.bool bn, .slice an ln cn] 50)) (zG #[.bool bn, .slice an ln cn]) P0) := IP.out.ext ((Ext.refl _).alloc _)
  have ltfp0 := Ff.out.1
  have ltvp0 := Fv.out.1
  have ltrp0 := Fr.out.1
  have ltdp0 := Fd.out.1
  have Lp0 := exz FX
  have Ff := hvl Ff (.cells #[.bool bn, .slice an ln cn] 50)
  have Fv := hvl Fv (.cells #[.bool bn, .slice an ln cn] 50)
  have Fr := hvl Fr (.cells #[.bool bn, .slice an ln cn] 50)
  have Fd := hvl Fd (.cells #[.bool bn, .slice an ln cn] 50)
  have Fp0 : Hid (HV (wp0.alloc (.cells #[.bool bn, .slice an ln cn] 50)) wp0.heap.size [.bool bn, .slice an ln cn]) := hv_at rfl
  have FX := exl FX (.cells #[.bool bn, .slice an ln cn] 50)
  generalize (wp0.alloc (.cells #[.bool bn, .slice an ln cn] 50)) = wx3 at *
  generalize wp0.heap.size = np0 at *
  have qp00 := Fp0.out.c 0 rfl
  have qp01 := Fp0.out.c 1 rfl
  go_upto_region 9 with (first | (go_at_call 23; refine (HA0.out _ _ IP.out).mono ?_; rintro e wa0 ⟨⟨ra, rfl, ha⟩, xa⟩) | (go_at_call 24; refine (HF.out _).mono ?_; rintro e wf0 ⟨⟨rf, rfl, hf⟩, xf⟩) | (go_at_call 20; refine (HC0.out _ _ _ (ha.ext xf) hf).mono ?_; rintro e wc0 ⟨rfl, xc⟩))
  have hx : Ext wx3 wc0 := (xa.trans xf).trans xc
  have IP : Hid (IsI wc0 (zG #[.bool bn, .slice an ln cn]) P0) := IP.out.ext hx
  have Ff := hvx Ff hx
  have Fv := hvx Fv hx
  have Fr := hvx Fr hx
  have Fd := hvx Fd hx
  have Fp0 := hvx Fp0 hx
  have FX := exx FX hx
  clear qp00 qp01 xa xf xc hx ha hf HA0 HC0
  have qp00 := Fp0.out.c 0 rfl
  have qp01 := Fp0.out.c 1 rfl
  have qd := Fd.out.c 1 rfl
  have zd := Fd.out.f 1 rfl
  go_upto_region 4 with (go_at_call 25; refine (HS0.out _ _ IP.out).mono ?_; rintro e ws0 ⟨rfl, xs⟩; have kd1 : ws0.cell? ⟨nd, 1, none⟩ = some (J zq 0) := (Fd.out.ext xs).c 1 rfl; have zd1 : ws0.frozen? ⟨nd, 1, none⟩ = false := (Fd.out.ext xs).f 1 rfl)
  have Ff := hvx Ff xs
  have Fv := hvx Fv xs
  have Fr := hvx Fr xs
  have Fd := hvx Fd xs
  have Fp0 := hvx Fp0 xs
  have FX := exx FX xs
  clear qp00 qp01 qd zd xs HS0 IP kd1 zd1
  have Ff : Hid (HV (ws0.setCell ⟨nd, 1, none⟩ (J zq P0)) w.heap.size [J zq f0, J zq f1, J zq f2, J zq f3]) := (Ff.out.far (by omega))
  have Fv : Hid (HV (ws0.setCell ⟨nd, 1, none⟩ (J zq P0)) (w.heap.size + 1) [J zq x, J zq y, J zq z]) := (Fv.out.far (by omega))
  have Fr : Hid (HV (ws0.setCell ⟨nd, 1, none⟩ (J zq P0)) (w.heap.size + 1 + 1) [J zq 0, J zq 0, J zq 0, J zq 0]) := (Fr.out.far (by omega))
  have Fd : Hid (HV (ws0.setCell ⟨nd, 1, none⟩ (J zq P0)) nd [J zq 0, J zq P0, J zq 0, J zq 0]) := (Fd.out.set 1 (J zq P0))
  have FX : Hid (Ext w (ws0.setCell ⟨nd, 1, none⟩ (J zq P0))) := (FX.out.set (p := ⟨nd, 1, none⟩) Ld.out (J zq P0))
  generalize (ws0.setCell ⟨nd, 1, none⟩ (J zq P0)) = wx4 at *
  go_wp2_with fail
  rw [rounds_succ]
  have qv0 := Fv.out.c 0 rfl
  have qv1 := Fv.out.c 1 rfl
  have qv2 := Fv.out.c 2 rfl
  go_upto_region 6 with fail
  clear qv0 qv1 qv2
  have ltfb1 := Ff.out.1
  have ltvb1 := Fv.out.1
  have ltrb1 := Fr.out.1
  have ltdb1 := Fd.out.1
  have Lb1 := exz FX
  have Ff := hvl Ff (.cells #[J zq x, J zq y, J zq z] 2)
  have Fv := hvl Fv (.cells #[J zq x, J zq y, J zq z] 2)
  have Fr := hvl Fr (.cells #[J zq x, J zq y, J zq z] 2)
  have Fd := hvl Fd (.cells #[J zq x, J zq y, J zq z] 2)
  have Fb1 : Hid (HV (wx4.alloc (.cells #[J zq x, J zq y, J zq z] 2)) wx4.heap.size [J zq x, J zq y, J zq z]) := hv_at rfl
  have FX := exl FX (.cells #[J zq x, J zq y, J zq z] 2)
  generalize (wx4.alloc (.cells #[J zq x, J zq y, J zq z] 2)) = wx5 at *
  generalize wx4.heap.size = nb1 at *
  go_upto_region 7 with (go_at_call 21; refine (HP1.out _).mono ?_; rintro e wp1 ⟨⟨rp, rfl, hp⟩, xp⟩; obtain ⟨bn, an, ln, cn, rfl⟩ := hp.form; have IP : Hid (IsI wp1 (zG #[.bool bn, .slice an ln cn]) P1) := hp; clear hp)
  have Ff := hvx Ff xp
  have Fv := hvx Fv xp
  have Fr := hvx Fr xp
  have Fd := hvx Fd xp
  have FX := exx FX xp
  clear xp HP1
  have IP : Hid (IsI (wp1.alloc (.cells #[.bool bn, .slice an ln cn] 50)) (zG #[.bool bn, .slice an ln cn]) P1) := IP.out.ext ((Ext.refl _).alloc _)
  have ltfp1 := Ff.out.1
  have ltvp1 := Fv.out.1
  have ltrp1 := Fr.out.1
  have ltdp1 := Fd.out.1
  have Lp1 := exz FX
  have Ff := hvl Ff (.cells #[.bool bn, .slice an ln cn] 50)
  have Fv := hvl Fv (.cells #[.bool bn, .slice an ln cn] 50)
  have Fr := hvl Fr (.cells #[.bool bn, .slice an ln cn] 50)
  have Fd := hvl Fd (.cells #[.bool bn, .slice an ln cn] 50)
  have Fp1 : Hid (HV (wp1.alloc (.cells #[.bool bn, .slice an ln cn] 50)) wp1.heap.size [.bool bn, .slice an ln cn]) := hv_at rfl
  have FX := exl FX (.cells #[.bool bn, .slice an ln cn] 50)
  generalize (wp1.alloc (.cells #[.bool bn, .slice an ln cn] 50)) = wx6 at *
  generalize wp1.heap.size = np1 at *
  have qp10 := Fp1.out.c 0 rfl
  have qp11 := Fp1.out.c 1 rfl
  go_upto_region 8 with (first | (go_at_call 23; refine (HA1.out _ _ IP.out).mono ?_; rintro e wa1 ⟨⟨ra, rfl, ha⟩, xa⟩) | (go_at_call 24; refine (HF.out _).mono ?_; rintro e wf1 ⟨⟨rf, rfl, hf⟩, xf⟩) | (go_at_call 20; refine (HC1.out _ _ _ (ha.ext xf) hf).mono ?_; rintro e wc1 ⟨rfl, xc⟩))
  have hx : Ext wx6 wc1 := (xa.trans xf).trans xc
  have IP : Hid (IsI wc1 (zG #[.bool bn, .slice an ln cn]) P1) := IP.out.ext hx
  have Ff := hvx Ff hx
  have Fv := hvx Fv hx
  have Fr := hvx Fr hx
  have Fd := hvx Fd hx
  have Fp1 := hvx Fp1 hx
  have FX := exx FX hx
  clear qp10 qp11 xa xf xc hx ha hf HA1 HC1
  have z0 := Fr.out.c 0 rfl
  have z1 := Fr.out.c 1 rfl
  have z2 := Fr.out.c 2 rfl
  have z3 := Fr.out.c 3 rfl
  have y0 := Fr.out.f 0 rfl
  have y1 := Fr.out.f 1 rfl
  have y2 := Fr.out.f 2 rfl
  have y3 := Fr.out.f 3 rfl
  have rl := Fr.out.1
  go_wp2_with fail
  exact bodyPost_ret (v := .tuple #[zG #[J zq 0, J zq 0, J zq 0, J zq 0], J zq 2]) (by simp [results, Tryz.results6, go_sem, z0, z1, z2, z3]) rfl ⟨rfl, ((((FX.out.set (p := ⟨(w.heap.size + 1 + 1), 0, none⟩) Lr.out _).set (p := ⟨(w.heap.size + 1 + 1), 1, none⟩) Lr.out _).set (p := ⟨(w.heap.size + 1 + 1), 2, none⟩) Lr.out _).set (p := ⟨(w.heap.size + 1 + 1), 3, none⟩) Lr.out _)⟩
set_option maxRecDepth 20000 in
set_option maxHeartbeats 20000000 in
theorem rspin_bad2 (f0 f1 f2 f3 x y z n One P0 P1 P2 g0 g1 g2 : Int) (w : World) (HF : Hid (∀ w', Calls zP 24 #[J zq 1073741824] w' fun e w'' => (∃ r, e = zR r ∧ IsI w'' r (One)) ∧ Ext w' w'')) (HP0 : Hid (∀ w', Calls zP 21 #[J zq x, J zq n] w' fun e w'' => (∃ r, e = zR r ∧ IsI w'' r (P0)) ∧ Ext w' w'')) (HA0 : Hid (∀ r w', IsI w' r P0 → Calls zP 23 #[r] w' fun e w'' => (∃ r, e = zR r ∧ IsI w'' r ((P0.natAbs : Int))) ∧ Ext w' w'')) (HC0 : Hid (∀ r1 r2 w', IsI w' r1 (P0.natAbs : Int) → IsI w' r2 One → Calls zP 20 #[r1, r2] w' fun e w'' => e = zR (J zq g0) ∧ Ext w' w'')) (hg0 : decide (0 < g0) = false) (HS0 : Hid (∀ r w', IsI w' r P0 → Calls zP 25 #[r] w' fun e w'' => e = zR (.tuple #[J zq P0, .bool true]) ∧ Ext w' w'')) (HP1 : Hid (∀ w', Calls zP 21 #[J zq y, J zq n] w' fun e w'' => (∃ r, e = zR r ∧ IsI w'' r (P1)) ∧ Ext w' w'')) (HA1 : Hid (∀ r w', IsI w' r P1 → Calls zP 23 #[r] w' fun e w'' => (∃ r, e = zR r ∧ IsI w'' r ((P1.natAbs : Int))) ∧ Ext w' w'')) (HC1 : Hid (∀ r1 r2 w', IsI w' r1 (P1.natAbs : Int) → IsI w' r2 One → Calls zP 20 #[r1, r2] w' fun e w'' => e = zR (J zq g1) ∧ Ext w' w'')) (hg1 : decide (0 < g1) = false) (HS1 : Hid (∀ r w', IsI w' r P1 → Calls zP 25 #[r] w' fun e w'' => e = zR (.tuple #[J zq P1, .bool true]) ∧ Ext w' w'')) (HP2 : Hid (∀ w', Calls zP 21 #[J zq z, J zq n] w' fun e w'' => (∃ r, e = zR r ∧ IsI w'' r (P2)) ∧ Ext w' w'')) (HA2 : Hid (∀ r w', IsI w' r P2 → Calls zP 23 #[r] w' fun e w'' => (∃ r, e = zR r ∧ IsI w'' r ((P2.natAbs : Int))) ∧ Ext w' w'')) (HC2 : Hid (∀ r1 r2 w', IsI w' r1 (P2.natAbs : Int) → IsI w' r2 One → Calls zP 20 #[r1, r2] w' fun e w'' => e = zR (J zq g2) ∧ Ext w' w'')) (hg2 : decide (0 < g2) = true) :
    Calls zP 6 #[zG #[J zq f0, J zq f1, J zq f2, J zq f3], zG #[J zq x, J zq y, J zq z], J zq n] w fun e w' => e = zR (.tuple #[zG #[J zq 0, J zq 0, J zq 0, J zq 0], J zq 2]) ∧ Ext w w' := by
  have Ff : Hid (HV (((w.alloc (.cells #[J zq f0, J zq f1, J zq f2, J zq f3] 26)).alloc (.cells #[J zq x, J zq y, J zq z] 28)).alloc (.cells #[J zq 0, J zq 0, J zq 0, J zq 0] 26)) (w.heap.size) [J zq f0, J zq f1, J zq f2, J zq f3]) := (HV.alloc (HV.alloc (hv_at rfl) _) _)
  have Lf : Hid (w.heap.size ≤ w.heap.size) := Nat.le_refl _
  have Fv : Hid (HV (((w.alloc (.cells #[J zq f0, J zq f1, J zq f2, J zq f3] 26)).alloc (.cells #[J zq x, J zq y, J zq z] 28)).alloc (.cells #[J zq 0, J zq 0, J zq 0, J zq 0] 26)) ((w.heap.size + 1)) [J zq x, J zq y, J zq z]) := (HV.alloc (hv_at (by simp)) _)
  have Lv : Hid (w.heap.size ≤ (w.heap.size + 1)) := by show _ ≤ _; omega
  have Fr : Hid (HV (((w.alloc (.cells #[J zq f0, J zq f1, J zq f2, J zq f3] 26)).alloc (.cells #[J zq x, J zq y, J zq z] 28)).alloc (.cells #[J zq 0, J zq 0, J zq 0, J zq 0] 26)) ((w.heap.size + 1 + 1)) [J zq 0, J zq 0, J zq 0, J zq 0]) := (hv_at (by simp))
  have Lr : Hid (w.heap.size ≤ (w.heap.size + 1 + 1)) := by show _ ≤ _; omega
  have FX : Hid (Ext w (((w.alloc (.cells #[J zq f0, J zq f1, J zq f2, J zq f3] 26)).alloc (.cells #[J zq x, J zq y, J zq z] 28)).alloc (.cells #[J zq 0, J zq 0, J zq 0, J zq 0] 26))) := ((((Ext.refl _).alloc _).alloc _).alloc _)
  go_enter Tryz.func6, Tryz.ntmps6
  go_upto_region 1 with fail
  generalize (((w.alloc (.cells #[J zq f0, J zq f1, J zq f2, J zq f3] 26)).alloc (.cells #[J zq x, J zq y, J zq z] 28)).alloc (.cells #[J zq 0, J zq 0, J zq 0, J zq 0] 26)) = w0 at *
  have ltfr : w.heap.size < (w.heap.size + 1 + 1) := by omega
  have ltvr : (w.heap.size + 1) < (w.heap.size + 1 + 1) := by omega
  have ltfv : w.heap.size < (w.heap.size + 1) := by omega
  go_upto_region 2 with fail
  have ltfd := Ff.out.1
  have ltvd := Fv.out.1
  have ltrd := Fr.out.1
  have Ld := exz FX
  have Ff := hvl Ff (.cells #[J zq 0, J zq 0, J zq 0, J zq 0] 24)
  have Fv := hvl Fv (.cells #[J zq 0, J zq 0, J zq 0, J zq 0] 24)
  have Fr := hvl Fr (.cells #[J zq 0, J zq 0, J zq 0, J zq 0] 24)
  have Fd : Hid (HV (w0.alloc (.cells #[J zq 0, J zq 0, J zq 0, J zq 0] 24)) w0.heap.size [J zq 0, J zq 0, J zq 0, J zq 0]) := hv_at rfl
  have FX := exl FX (.cells #[J zq 0, J zq 0, J zq 0, J zq 0] 24)
  generalize (w0.alloc (.cells #[J zq 0, J zq 0, J zq 0, J zq 0] 24)) = wx1 at *
  generalize w0.heap.size = nd at *
  go_wp2_with fail
  refine wp_loop_rounds 4 ?_
  rw [rounds_succ]
  have qv0 := Fv.out.c 0 rfl
  have qv1 := Fv.out.c 1 rfl
  have qv2 := Fv.out.c 2 rfl
  go_upto_region 6 with fail
  clear qv0 qv1 qv2
  have ltfb0 := Ff.out.1
  have ltvb0 := Fv.out.1
  have ltrb0 := Fr.out.1
  have ltdb0 := Fd.out.1
  have Lb0 := exz FX
  have Ff := hvl Ff (.cells #[J zq x, J zq y, J zq z] 2)
  have Fv := hvl Fv (.cells #[J zq x, J zq y, J zq z] 2)
  have Fr := hvl Fr (.cells #[J zq x, J zq y, J zq z] 2)
  have Fd := hvl Fd (.cells #[J zq x, J zq y, J zq z] 2)
  have Fb0 : Hid (HV (wx1.alloc (.cells #[J zq x, J zq y, J zq z] 2)) wx1.heap.size [J zq x, J zq y, J zq z]) := hv_at rfl
  have FX := exl FX (.cells #[J zq x, J zq y, J zq z] 2)
  generalize (wx1.alloc (.cells #[J zq x, J zq y, J zq z] 2)) = wx2 at *
  generalize wx1.heap.size = nb0 at *
  go_upto_region 7 with (go_at_call 21; refine (HP0.out _).mono ?_; rintro e wp0 ⟨⟨rp, rfl, hp⟩, xp⟩; obtain ⟨bn, an, ln, cn, rfl⟩ := hp.form; have IP : Hid (IsI wp0 (zG #[.bool bn, .slice an ln cn]) P0) := hp; clear hp)
  have Ff := hvx Ff xp
  have Fv := hvx Fv xp
  have Fr := hvx Fr xp
  have Fd := hvx Fd xp
  have FX := exx FX xp
  clear xp HP0
  have IP : Hid (IsI (wp0.alloc (.cells #[.bool bn, .slice an ln cn] 50)) (zG #[.bool bn, .slice an ln cn]) P0) := IP.out.ext ((Ext.refl _).alloc _)
  have ltfp0 := Ff.out.1
  have ltvp0 := Fv.out.1
  have ltrp0 := Fr.out.1
  have ltdp0 := Fd.out.1
  have Lp0 := exz FX
  have Ff := hvl Ff (.cells #[.bool bn, .slice an ln cn] 50)
  have Fv := hvl Fv (.cells #[.bool bn, .slice an ln cn] 50)
  have Fr := hvl Fr (.cells #[.bool bn, .slice an ln cn] 50)
  have Fd := hvl Fd (.cells #[.bool bn, .slice an ln cn] 50)
  have Fp0 : Hid (HV (wp0.alloc (.cells #[.bool bn, .slice an ln cn] 50)) wp0.heap.size [.bool bn, .slice an ln cn]) := hv_at rfl
  have FX := exl FX (.cells #[.bool bn, .slice an ln cn] 50)
  generalize (wp0.alloc (.cells #[.bool bn, .slice an ln cn] 50)) = wx3 at *
  generalize wp0.heap.size = np0 at *
  have qp00 := Fp0.out.c 0 rfl
  have qp01 := Fp0.out.c 1 rfl
  go_upto_region 9 with (first | (go_at_call 23; refine (HA0.out _ _ IP.out).mono ?_; rintro e wa0 ⟨⟨ra, rfl, ha⟩, xa⟩) | (go_at_call 24; refine (HF.out _).mono ?_; rintro e wf0 ⟨⟨rf, rfl, hf⟩, xf⟩) | (go_at_call 20; refine (HC0.out _ _ _ (ha.ext xf) hf).mono ?_; rintro e wc0 ⟨rfl, xc⟩))
  have hx : Ext wx3 wc0 := (xa.trans xf).trans xc
  have IP : Hid (IsI wc0 (zG #[.bool bn, .slice an ln cn]) P0) := IP.out.ext hx
  have Ff := hvx Ff hx
  have Fv := hvx Fv hx
  have Fr := hvx Fr hx
  have Fd := hvx Fd hx
  have Fp0 := hvx Fp0 hx
  have FX := exx FX hx
  clear qp00 qp01 xa xf xc hx ha hf HA0 HC0
  have qp00 := Fp0.out.c 0 rfl
  have qp01 := Fp0.out.c 1 rfl
  have qd := Fd.out.c 1 rfl
  have zd := Fd.out.f 1 rfl
  go_upto_region 4 with (go_at_call 25; refine (HS0.out _ _ IP.out).mono ?_; rintro e ws0 ⟨rfl, xs⟩; have kd1 : ws0.cell? ⟨nd, 1, none⟩ = some (J zq 0) := (Fd.out.ext xs).c 1 rfl; have zd1 : ws0.frozen? ⟨nd, 1, none⟩ = false := (Fd.out.ext xs).f 1 rfl)
  have Ff := hvx Ff xs
  have Fv := hvx Fv xs
  have Fr := hvx Fr xs
  have Fd := hvx Fd xs
  have Fp0 := hvx Fp0 xs
  have FX := exx FX xs
  clear qp00 qp01 qd zd xs HS0 IP kd1 zd1
  have Ff : Hid (HV (ws0.setCell ⟨nd, 1, none⟩ (J zq P0)) w.heap.size [J zq f0, J zq f1, J zq f2, J zq f3]) := (Ff.out.far (by omega))
  have Fv : Hid (HV (ws0.setCell ⟨nd, 1, none⟩ (J zq P0)) (w.heap.size + 1) [J zq x, J zq y, J zq z]) := (Fv.out.far (by omega))
  have Fr : Hid (HV (ws0.setCell ⟨nd, 1, none⟩ (J zq P0)) (w.heap.size + 1 + 1) [J zq 0, J zq 0, J zq 0, J zq 0]) := (Fr.out.far (by omega))
  have Fd : Hid (HV (ws0.setCell ⟨nd, 1, none⟩ (J zq P0)) nd [J zq 0, J zq P0, J zq 0, J zq 0]) := (Fd.out.set 1 (J zq P0))
  have FX : Hid (Ext w (ws0.setCell ⟨nd, 1, none⟩ (J zq P0))) := (FX.out.set (p := ⟨nd, 1, none⟩) Ld.out (J zq P0))
  generalize (ws0.setCell ⟨nd, 1, none⟩ (J zq P0)) = wx4 at *
  go_wp2_with fail
  rw [rounds_succ]
  have qv0 := Fv.out.c 0 rfl
  have qv1 := Fv.out.c 1 rfl
  have qv2 := Fv.out.c 2 rfl
  go_upto_region 6 with fail
  clear qv0 qv1 qv2
  have ltfb1 := Ff.out.1
  have ltvb1 := Fv.out.1
  have ltrb1 := Fr.out.1
  have ltdb1 := Fd.out.1
  have Lb1 := exz FX
  have Ff := hvl Ff (.cells #[J zq x, J zq y, J zq z] 2)
  have Fv := hvl Fv (.cells #[J zq x, J zq y, J zq z] 2)
  have Fr := hvl Fr (.cells #[J zq x, J zq y, J zq z] 2)
  have Fd := hvl Fd (.cells #[J zq x, J zq y, J zq z] 2)
  have Fb1 : Hid (HV (wx4.alloc (.cells #[J zq x, J zq y, J zq z] 2)) wx4.heap.size [J zq x, J zq y, J zq z]) := hv_at rfl
  have FX := exl FX (.cells #[J zq x, J zq y, J zq z] 2)
  generalize (wx4.alloc (.cells #[J zq x, J zq y, J zq z] 2)) = wx5 at *
  generalize wx4.heap.size = nb1 at *
  go_upto_region 7 with (go_at_call 21; refine (HP1.out _).mono ?_; rintro e wp1 ⟨⟨rp, rfl, hp⟩, xp⟩; obtain ⟨bn, an, ln, cn, rfl⟩ := hp.form; have IP : Hid (IsI wp1 (zG #[.bool bn, .slice an ln cn]) P1) := hp; clear hp)
  have Ff := hvx Ff xp
  have Fv := hvx Fv xp
  have Fr := hvx Fr xp
  have Fd := hvx Fd xp
  have FX := exx FX xp
  clear xp HP1
  have IP : Hid (IsI (wp1.alloc (.cells #[.bool bn, .slice an ln cn] 50)) (zG #[.bool bn, .slice an ln cn]) P1) := IP.out.ext ((Ext.refl _).alloc _)
  have ltfp1 := Ff.out.1
  have ltvp1 := Fv.out.1
  have ltrp1 := Fr.out.1
  have ltdp1 := Fd.out.1
  have Lp1 := exz FX
  have Ff := hvl Ff (.cells #[.bool bn, .slice an ln cn] 50)
  have Fv := hvl Fv (.cells #[.bool bn, .slice an ln cn] 50)
  have Fr := hvl Fr (.cells #[.bool bn, .slice an ln cn] 50)
  have Fd := hvl Fd (.cells #[.bool bn, .slice an ln cn] 50)
  have Fp1 : Hid (HV (wp1.alloc (.cells #[.bool bn, .slice an ln cn] 50)) wp1.heap.size [.bool bn, .slice an ln cn]) := hv_at rfl
  have FX := exl FX (.cells #[.bool bn, .slice an ln cn] 50)
  generalize (wp1.alloc (.cells #[.bool bn, .slice an ln cn] 50)) = wx6 at *
  generalize wp1.heap.size = np1 at *
  have qp10 := Fp1.out.c 0 rfl
  have qp11 := Fp1.out.c 1 rfl
  go_upto_region 9 with (first | (go_at_call 23; refine (HA1.out _ _ IP.out).mono ?_; rintro e wa1 ⟨⟨ra, rfl, ha⟩, xa⟩) | (go_at_call 24; refine (HF.out _).mono ?_; rintro e wf1 ⟨⟨rf, rfl, hf⟩, xf⟩) | (go_at_call 20; refine (HC1.out _ _ _ (ha.ext xf) hf).mono ?_; rintro e wc1 ⟨rfl, xc⟩))
  have hx : Ext wx6 wc1 := (xa.trans xf).trans xc
  have IP : Hid (IsI wc1 (zG #[.bool bn, .slice an ln cn]) P1) := IP.out.ext hx
  have Ff := hvx Ff hx
  have Fv := hvx Fv hx
  have Fr := hvx Fr hx
  have Fd := hvx Fd hx
  have Fp1 := hvx Fp1 hx
  have FX := exx FX hx
  clear qp10 qp11 xa xf xc hx ha hf HA1 HC1
  have qp10 := Fp1.out.c 0 rfl
  have qp11 := Fp1.out.c 1 rfl
  have qd := Fd.out.c 2 rfl
  have zd := Fd.out.f 2 rfl
  go_upto_region 4 with (go_at_call 25; refine (HS1.out _ _ IP.out).mono ?_; rintro e ws1 ⟨rfl, xs⟩; have kd2 : ws1.cell? ⟨nd, 2, none⟩ = some (J zq 0) := (Fd.out.ext xs).c 2 rfl; have zd2 : ws1.frozen? ⟨nd, 2, none⟩ = false := (Fd.out.ext xs).f 2 rfl)
  have Ff := hvx Ff xs
  have Fv := hvx Fv xs
  have Fr := hvx Fr xs
  have Fd := hvx Fd xs
  have Fp1 := hvx Fp1 xs
  have FX := exx FX xs
  clear qp10 qp11 qd zd xs HS1 IP kd2 zd2
  have Ff : Hid (HV (ws1.setCell ⟨nd, 2, none⟩ (J zq P1)) w.heap.size [J zq f0, J zq f1, J zq f2, J zq f3]) := (Ff.out.far (by omega))
  have Fv : Hid (HV (ws1.setCell ⟨nd, 2, none⟩ (J zq P1)) (w.heap.size + 1) [J zq x, J zq y, J zq z]) := (Fv.out.far (by omega))
  have Fr : Hid (HV (ws1.setCell ⟨nd, 2, none⟩ (J zq P1)) (w.heap.size + 1 + 1) [J zq 0, J zq 0, J zq 0, J zq 0]) := (Fr.out.far (by omega))
  have Fd : Hid (HV (ws1.setCell ⟨nd, 2, none⟩ (J zq P1)) nd [J zq 0, J zq P0, J zq P1, J zq 0]) := (Fd.out.set 2 (J zq P1))
  have FX : Hid (Ext w (ws1.setCell ⟨nd, 2, none⟩ (J zq P1))) := (FX.out.set (p := ⟨nd, 2, none⟩) Ld.out (J zq P1))
  generalize (ws1.setCell ⟨nd, 2, none⟩ (J zq P1)) = wx7 at *
  go_wp2_with fail
  rw [rounds_succ]
  have qv0 := Fv.out.c 0 rfl
  have qv1 := Fv.out.c 1 rfl
  have qv2 := Fv.out.c 2 rfl
  go_upto_region 6 with fail
  clear qv0 qv1 qv2
  have ltfb2 := Ff.out.1
  have ltvb2 := Fv.out.1
  have ltrb2 := Fr.out.1
  have ltdb2 := Fd.out.1
  have Lb2 := exz FX
  have Ff := hvl Ff (.cells #[J zq x, J zq y, J zq z] 2)
  have Fv := hvl Fv (.cells #[J zq x, J zq y, J zq z] 2)
  have Fr := hvl Fr (.cells #[J zq x, J zq y, J zq z] 2)
  have Fd := hvl Fd (.cells #[J zq x, J zq y, J zq z] 2)
  have Fb2 : Hid (HV (wx7.alloc (.cells #[J zq x, J zq y, J zq z] 2)) wx7.heap.size [J zq x, J zq y, J zq z]) := hv_at rfl
  have FX := exl FX (.cells #[J zq x, J zq y, J zq z] 2)
  generalize (wx7.alloc (.cells #[J zq x, J zq y, J zq z] 2)) = wx8 at *
  generalize wx7.heap.size = nb2 at *
  go_upto_region 7 with (go_at_call 21; refine (HP2.out _).mono ?_; rintro e wp2 ⟨⟨rp, rfl, hp⟩, xp⟩; obtain ⟨bn, an, ln, cn, rfl⟩ := hp.form; have IP : Hid (IsI wp2 (zG #[.bool bn, .slice an ln cn]) P2) := hp; clear hp)
  have Ff := hvx Ff xp
  have Fv := hvx Fv xp
  have Fr := hvx Fr xp
  have Fd := hvx Fd xp
  have FX := exx FX xp
  clear xp HP2
  have IP : Hid (IsI (wp2.alloc (.cells #[.bool bn, .slice an ln cn] 50)) (zG #[.bool bn, .slice an ln cn]) P2) := IP.out.ext ((Ext.refl _).alloc _)
  have ltfp2 := Ff.out.1
  have ltvp2 := Fv.out.1
  have ltrp2 := Fr.out.1
  have ltdp2 := Fd.out.1
  have Lp2 := exz FX
  have Ff := hvl Ff (.cells #[.bool bn, .slice an ln cn] 50)
  have Fv := hvl Fv (.cells #[.bool bn, .slice an ln cn] 50)
  have Fr := hvl Fr (.cells #[.bool bn, .slice an ln cn] 50)
  have Fd := hvl Fd (.cells #[.bool bn, .slice an ln cn] 50)
  have Fp2 : Hid (HV (wp2.alloc (.cells #[.bool bn, .slice an ln cn] 50)) wp2.heap.size [.bool bn, .slice an ln cn]) := hv_at rfl
  have FX := exl FX (.cells #[.bool bn, .slice an ln cn] 50)
  generalize (wp2.alloc (.cells #[.bool bn, .slice an ln cn] 50)) = wx9 at *
  generalize wp2.heap.size = np2 at *
  have qp20 := Fp2.out.c 0 rfl
  have qp21 := Fp2.out.c 1 rfl
  go_upto_region 8 with (first | (go_at_call 23; refine (HA2.out _ _ IP.out).mono ?_; rintro e wa2 ⟨⟨ra, rfl, ha⟩, xa⟩) | (go_at_call 24; refine (HF.out _).mono ?_; rintro e wf2 ⟨⟨rf, rfl, hf⟩, xf⟩) | (go_at_call 20; refine (HC2.out _ _ _ (ha.ext xf) hf).mono ?_; rintro e wc2 ⟨rfl, xc⟩))
  have hx : Ext wx9 wc2 := (xa.trans xf).trans xc
  have IP : Hid (IsI wc2 (zG #[.bool bn, .slice an ln cn]) P2) := IP.out.ext hx
  have Ff := hvx Ff hx
  have Fv := hvx Fv hx
  have Fr := hvx Fr hx
  have Fd := hvx Fd hx
  have Fp2 := hvx Fp2 hx
  have FX := exx FX hx
  clear qp20 qp21 xa xf xc hx ha hf HA2 HC2
  have z0 := Fr.out.c 0 rfl
  have z1 := Fr.out.c 1 rfl
  have z2 := Fr.out.c 2 rfl
  have z3 := Fr.out.c 3 rfl
  have y0 := Fr.out.f 0 rfl
  have y1 := Fr.out.f 1 rfl
  have y2 := Fr.out.f 2 rfl
  have y3 := Fr.out.f 3 rfl
  have rl := Fr.out.1
  go_wp2_with fail
  exact bodyPost_ret (v := .tuple #[zG #[J zq 0, J zq 0, J zq 0, J zq 0], J zq 2]) (by simp [results, Tryz.results6, go_sem, z0, z1, z2, z3]) rfl ⟨rfl, ((((FX.out.set (p := ⟨(w.heap.size + 1 + 1), 0, none⟩) Lr.out _).set (p := ⟨(w.heap.size + 1 + 1), 1, none⟩) Lr.out _).set (p := ⟨(w.heap.size + 1 + 1), 2, none⟩) Lr.out _).set (p := ⟨(w.heap.size + 1 + 1), 3, none⟩) Lr.out _)⟩
set_option maxRecDepth 20000 in
set_option maxHeartbeats 20000000 in
theorem rspin_raw (f0 f1 f2 f3 x y z n One P0 P1 P2 g0 g1 g2 p0 p1 p2 p3 u0 u1 u2 u3 X0 X1 X2 X3 : Int) (w : World) (HF : Hid (∀ w', Calls zP 24 #[J zq 1073741824] w' fun e w'' => (∃ r, e = zR r ∧ IsI w'' r (One)) ∧ Ext w' w'')) (HP0 : Hid (∀ w', Calls zP 21 #[J zq x, J zq n] w' fun e w'' => (∃ r, e = zR r ∧ IsI w'' r (P0)) ∧ Ext w' w'')) (HA0 : Hid (∀ r w', IsI w' r P0 → Calls zP 23 #[r] w' fun e w'' => (∃ r, e = zR r ∧ IsI w'' r ((P0.natAbs : Int))) ∧ Ext w' w'')) (HC0 : Hid (∀ r1 r2 w', IsI w' r1 (P0.natAbs : Int) → IsI w' r2 One → Calls zP 20 #[r1, r2] w' fun e w'' => e = zR (J zq g0) ∧ Ext w' w'')) (hg0 : decide (0 < g0) = false) (HS0 : Hid (∀ r w', IsI w' r P0 → Calls zP 25 #[r] w' fun e w'' => e = zR (.tuple #[J zq P0, .bool true]) ∧ Ext w' w'')) (HP1 : Hid (∀ w', Calls zP 21 #[J zq y, J zq n] w' fun e w'' => (∃ r, e = zR r ∧ IsI w'' r (P1)) ∧ Ext w' w'')) (HA1 : Hid (∀ r w', IsI w' r P1 → Calls zP 23 #[r] w' fun e w'' => (∃ r, e = zR r ∧ IsI w'' r ((P1.natAbs : Int))) ∧ Ext w' w'')) (HC1 : Hid (∀ r1 r2 w', IsI w' r1 (P1.natAbs : Int) → IsI w' r2 One → Calls zP 20 #[r1, r2] w' fun e w'' => e = zR (J zq g1) ∧ Ext w' w'')) (hg1 : decide (0 < g1) = false) (HS1 : Hid (∀ r w', IsI w' r P1 → Calls zP 25 #[r] w' fun e w'' => e = zR (.tuple #[J zq P1, .bool true]) ∧ Ext w' w'')) (HP2 : Hid (∀ w', Calls zP 21 #[J zq z, J zq n] w' fun e w'' => (∃ r, e = zR r ∧ IsI w'' r (P2)) ∧ Ext w' w'')) (HA2 : Hid (∀ r w', IsI w' r P2 → Calls zP 23 #[r] w' fun e w'' => (∃ r, e = zR r ∧ IsI w'' r ((P2.natAbs : Int))) ∧ Ext w' w'')) (HC2 : Hid (∀ r1 r2 w', IsI w' r1 (P2.natAbs : Int) → IsI w' r2 One → Calls zP 20 #[r1, r2] w' fun e w'' => e = zR (J zq g2) ∧ Ext w' w'')) (hg2 : decide (0 < g2) = false) (HS2 : Hid (∀ r w', IsI w' r P2 → Calls zP 25 #[r] w' fun e w'' => e = zR (.tuple #[J zq P2, .bool true]) ∧ Ext w' w'')) (HE : Hid (∀ w', Calls zP 27 #[zG #[J zq f0, J zq f1, J zq f2, J zq f3], zG #[J zq 0, J zq P0, J zq P1, J zq P2]] w' fun e w'' => (∃ r, e = zR r ∧ IsFour w'' r X0 X1 X2 X3) ∧ Ext w' w'')) (HH : Hid (∀ v w', IsFour w' v X0 X1 X2 X3 → Calls zP 26 #[v, J zq 31] w' fun e w'' => e = zR (.tuple #[zG #[J zq p0, J zq p1, J zq p2, J zq p3], J zq 0]) ∧ Ext w' w'')) (hw0 : Hid (IntKind.i64.wrap (f0 + p0) = f0 + p0)) (hw1 : Hid (IntKind.i64.wrap (f1 + p1) = f1 + p1)) (hw2 : Hid (IntKind.i64.wrap (f2 + p2) = f2 + p2)) (hw3 : Hid (IntKind.i64.wrap (f3 + p3) = f3 + p3)) (HU : Hid (∀ w', Calls zP 28 #[zG #[J zq (f0 + p0), J zq (f1 + p1), J zq (f2 + p2), J zq (f3 + p3)], J zq 0] w' fun e w'' => e = zR (.tuple #[zG #[J zq u0, J zq u1, J zq u2, J zq u3], J zq 0]) ∧ Ext w' w'')) :
    Calls zP 6 #[zG #[J zq f0, J zq f1, J zq f2, J zq f3], zG #[J zq x, J zq y, J zq z], J zq n] w fun e w' => e = zR (.tuple #[zG #[J zq u0, J zq u1, J zq u2, J zq u3], J zq 0]) ∧ Ext w w' := by
  have Ff : Hid (HV (((w.alloc (.cells #[J zq f0, J zq f1, J zq f2, J zq f3] 26)).alloc (.cells #[J zq x, J zq y, J zq z] 28)).alloc (.cells #[J zq 0, J zq 0, J zq 0, J zq 0] 26)) (w.heap.size) [J zq f0, J zq f1, J zq f2, J zq f3]) := (HV.alloc (HV.alloc (hv_at rfl) _) _)
  have Lf : Hid (w.heap.size ≤ w.heap.size) := Nat.le_refl _
  have Fv : Hid (HV (((w.alloc (.cells #[J zq f0, J zq f1, J zq f2, J zq f3] 26)).alloc (.cells #[J zq x, J zq y, J zq z] 28)).alloc (.cells #[J zq 0, J zq 0, J zq 0, J zq 0] 26)) ((w.heap.size + 1)) [J zq x, J zq y, J zq z]) := (HV.alloc (hv_at (by simp)) _)
  have Lv : Hid (w.heap.size ≤ (w.heap.size + 1)) := by show _ ≤ _; omega
  have Fr : Hid (HV (((w.alloc (.cells #[J zq f0, J zq f1, J zq f2, J zq f3] 26)).alloc (.cells #[J zq x, J zq y, J zq z] 28)).alloc (.cells #[J zq 0, J zq 0, J zq 0, J zq 0] 26)) ((w.heap.size + 1 + 1)) [J zq 0, J zq 0, J zq 0, J zq 0]) := (hv_at (by simp))
  have Lr : Hid (w.heap.size ≤ (w.heap.size + 1 + 1)) := by show _ ≤ _; omega
  have FX : Hid (Ext w (((w.alloc (.cells #[J zq f0, J zq f1, J zq f2, J zq f3] 26)).alloc (.cells #[J zq x, J zq y, J zq z] 28)).alloc (.cells #[J zq 0, J zq 0, J zq 0, J zq 0] 26))) := ((((Ext.refl _).alloc _).alloc _).alloc _)
  go_enter Tryz.func6, Tryz.ntmps6
  go_upto_region 1 with fail
  generalize (((w.alloc (.cells #[J zq f0, J zq f1, J zq f2, J zq f3] 26)).alloc (.cells #[J zq x, J zq y, J zq z] 28)).alloc (.cells #[J zq 0, J zq 0, J zq 0, J zq 0] 26)) = w0 at *
  have ltfr : w.heap.size < (w.heap.size + 1 + 1) := by omega
  have ltvr : (w.heap.size + 1) < (w.heap.size + 1 + 1) := by omega
  have ltfv : w.heap.size < (w.heap.size + 1) := by omega
  go_upto_region 2 with fail
  have ltfd := Ff.out.1
  have ltvd := Fv.out.1
  have ltrd := Fr.out.1
  have Ld := exz FX
  have Ff := hvl Ff (.cells #[J zq 0, J zq 0, J zq 0, J zq 0] 24)
  have Fv := hvl Fv (.cells #[J zq 0, J zq 0, J zq 0, J zq 0] 24)
  have Fr := hvl Fr (.cells #[J zq 0, J zq 0, J zq 0, J zq 0] 24)
  have Fd : Hid (HV (w0.alloc (.cells #[J zq 0, J zq 0, J zq 0, J zq 0] 24)) w0.heap.size [J zq 0, J zq 0, J zq 0, J zq 0]) := hv_at rfl
  have FX := exl FX (.cells #[J zq 0, J zq 0, J zq 0, J zq 0] 24)
  generalize (w0.alloc (.cells #[J zq 0, J zq 0, J zq 0, J zq 0] 24)) = wx1 at *
  generalize w0.heap.size = nd at *
  go_wp2_with fail
  refine wp_loop_rounds 4 ?_
  rw [rounds_succ]
  have qv0 := Fv.out.c 0 rfl
  have qv1 := Fv.out.c 1 rfl
  have qv2 := Fv.out.c 2 rfl
  go_upto_region 6 with fail
  clear qv0 qv1 qv2
  have ltfb0 := Ff.out.1
  have ltvb0 := Fv.out.1
  have ltrb0 := Fr.out.1
  have ltdb0 := Fd.out.1
  have Lb0 := exz FX
  have Ff := hvl Ff (.cells #[J zq x, J zq y, J zq z] 2)
  have Fv := hvl Fv (.cells #[J zq x, J zq y, J zq z] 2)
  have Fr := hvl Fr (.cells #[J zq x, J zq y, J zq z] 2)
  have Fd := hvl Fd (.cells #[J zq x, J zq y, J zq z] 2)
  have Fb0 : Hid (HV (wx1.alloc (.cells #[J zq x, J zq y, J zq z] 2)) wx1.heap.size [J zq x, J zq y, J zq z]) := hv_at rfl
  have FX := exl FX (.cells #[J zq x, J zq y, J zq z] 2)
  generalize (wx1.alloc (.cells #[J zq x, J zq y, J zq z] 2)) = wx2 at *
  generalize wx1.heap.size = nb0 at *
  go_upto_region 7 with (go_at_call 21; refine (HP0.out _).mono ?_; rintro e wp0 ⟨⟨rp, rfl, hp⟩, xp⟩; obtain ⟨bn, an, ln, cn, rfl⟩ := hp.form; have IP : Hid (IsI wp0 (zG #[.bool bn, .slice an ln cn]) P0) := hp; clear hp)
  have Ff := hvx Ff xp
  have Fv := hvx Fv xp
  have Fr := hvx Fr xp
  have Fd := hvx Fd xp
  have FX := exx FX xp
  clear xp HP0
  have IP : Hid (IsI (wp0.alloc (.cells #[.bool bn, .slice an ln cn] 50)) (zG #[.bool bn, .slice an ln cn]) P0) := IP.out.ext ((Ext.refl _).alloc _)
  have ltfp0 := Ff.out.1
  have ltvp0 := Fv.out.1
  have ltrp0 := Fr.out.1
  have ltdp0 := Fd.out.1
  have Lp0 := exz FX
  have Ff := hvl Ff (.cells #[.bool bn, .slice an ln cn] 50)
  have Fv := hvl Fv (.cells #[.bool bn, .slice an ln cn] 50)
  have Fr := hvl Fr (.cells #[.bool bn, .slice an ln cn] 50)
  have Fd := hvl Fd (.cells #[.bool bn, .slice an ln cn] 50)
  have Fp0 : Hid (HV (wp0.alloc (.cells #[.bool bn, .slice an ln cn] 50)) wp0.heap.size [.bool bn, .slice an ln cn]) := hv_at rfl
  have FX := exl FX (.cells #[.bool bn, .slice an ln cn] 50)
  generalize (wp0.alloc (.cells #[.bool bn, .slice an ln cn] 50)) = wx3 at *
  generalize wp0.heap.size = np0 at *
  have qp00 := Fp0.out.c 0 rfl
  have qp01 := Fp0.out.c 1 rfl
  go_upto_region 9 with (first | (go_at_call 23; refine (HA0.out _ _ IP.out).mono ?_; rintro e wa0 ⟨⟨ra, rfl, ha⟩, xa⟩) | (go_at_call 24; refine (HF.out _).mono ?_; rintro e wf0 ⟨⟨rf, rfl, hf⟩, xf⟩) | (go_at_call 20; refine (HC0.out _ _ _ (ha.ext xf) hf).mono ?_; rintro e wc0 ⟨rfl, xc⟩))
  have hx : Ext wx3 wc0 := (xa.trans xf).trans xc
  have IP : Hid (IsI wc0 (zG #[.bool bn, .slice an ln cn]) P0) := IP.out.ext hx
  have Ff := hvx Ff hx
  have Fv := hvx Fv hx
  have Fr := hvx Fr hx
  have Fd := hvx Fd hx
  have Fp0 := hvx Fp0 hx
  have FX := exx FX hx
  clear qp00 qp01 xa xf xc hx ha hf HA0 HC0
  have qp00 := Fp0.out.c 0 rfl
  have qp01 := Fp0.out.c 1 rfl
  have qd := Fd.out.c 1 rfl
  have zd := Fd.out.f 1 rfl
  go_upto_region 4 with (go_at_call 25; refine (HS0.out _ _ IP.out).mono ?_; rintro e ws0 ⟨rfl, xs⟩; have kd1 : ws0.cell? ⟨nd, 1, none⟩ = some (J zq 0) := (Fd.out.ext xs).c 1 rfl; have zd1 : ws0.frozen? ⟨nd, 1, none⟩ = false := (Fd.out.ext xs).f 1 rfl)
  have Ff := hvx Ff xs
  have Fv := hvx Fv xs
  have Fr := hvx Fr xs
  have Fd := hvx Fd xs
  have Fp0 := hvx Fp0 xs
  have FX := exx FX xs
  clear qp00 qp01 qd zd xs HS0 IP kd1 zd1
  have Ff : Hid (HV (ws0.setCell ⟨nd, 1, none⟩ (J zq P0)) w.heap.size [J zq f0, J zq f1, J zq f2, J zq f3]) := (Ff.out.far (by omega))
  have Fv : Hid (HV (ws0.setCell ⟨nd, 1, none⟩ (J zq P0)) (w.heap.size + 1) [J zq x, J zq y, J zq z]) := (Fv.out.far (by omega))
  have Fr : Hid (HV (ws0.setCell ⟨nd, 1, none⟩ (J zq P0)) (w.heap.size + 1 + 1) [J zq 0, J zq 0, J zq 0, J zq 0]) := (Fr.out.far (by omega))
  have Fd : Hid (HV (ws0.setCell ⟨nd, 1, none⟩ (J zq P0)) nd [J zq 0, J zq P0, J zq 0, J zq 0]) := (Fd.out.set 1 (J zq P0))
  have FX : Hid (Ext w (ws0.setCell ⟨nd, 1, none⟩ (J zq P0))) := (FX.out.set (p := ⟨nd, 1, none⟩) Ld.out (J zq P0))
  generalize (ws0.setCell ⟨nd, 1, none⟩ (J zq P0)) = wx4 at *
  go_wp2_with fail
  rw [rounds_succ]
  have qv0 := Fv.out.c 0 rfl
  have qv1 := Fv.out.c 1 rfl
  have qv2 := Fv.out.c 2 rfl
  go_upto_region 6 with fail
  clear qv0 qv1 qv2
  have ltfb1 := Ff.out.1
  have ltvb1 := Fv.out.1
  have ltrb1 := Fr.out.1
  have ltdb1 := Fd.out.1
  have Lb1 := exz FX
  have Ff := hvl Ff (.cells #[J zq x, J zq y, J zq z] 2)
  have Fv := hvl Fv (.cells #[J zq x, J zq y, J zq z] 2)
  have Fr := hvl Fr (.cells #[J zq x, J zq y, J zq z] 2)
  have Fd := hvl Fd (.cells #[J zq x, J zq y, J zq z] 2)
  have Fb1 : Hid (HV (wx4.alloc (.cells #[J zq x, J zq y, J zq z] 2)) wx4.heap.size [J zq x, J zq y, J zq z]) := hv_at rfl
  have FX := exl FX (.cells #[J zq x, J zq y, J zq z] 2)
  generalize (wx4.alloc (.cells #[J zq x, J zq y, J zq z] 2)) = wx5 at *
  generalize wx4.heap.size = nb1 at *
  go_upto_region 7 with (go_at_call 21; refine (HP1.out _).mono ?_; rintro e wp1 ⟨⟨rp, rfl, hp⟩, xp⟩; obtain ⟨bn, an, ln, cn, rfl⟩ := hp.form; have IP : Hid (IsI wp1 (zG #[.bool bn, .slice an ln cn]) P1) := hp; clear hp)
  have Ff := hvx Ff xp
  have Fv := hvx Fv xp
  have Fr := hvx Fr xp
  have Fd := hvx Fd xp
  have FX := exx FX xp
  clear xp HP1
  have IP : Hid (IsI (wp1.alloc (.cells #[.bool bn, .slice an ln cn] 50)) (zG #[.bool bn, .slice an ln cn]) P1) := IP.out.ext ((Ext.refl _).alloc _)
  have ltfp1 := Ff.out.1
  have ltvp1 := Fv.out.1
  have ltrp1 := Fr.out.1
  have ltdp1 := Fd.out.1
  have Lp1 := exz FX
  have Ff := hvl Ff (.cells #[.bool bn, .slice an ln cn] 50)
  have Fv := hvl Fv (.cells #[.bool bn, .slice an ln cn] 50)
  have Fr := hvl Fr (.cells #[.bool bn, .slice an ln cn] 50)
  have Fd := hvl Fd (.cells #[.bool bn, .slice an ln cn] 50)
  have Fp1 : Hid (HV (wp1.alloc (.cells #[.bool bn, .slice an ln cn] 50)) wp1.heap.size [.bool bn, .slice an ln cn]) := hv_at rfl
  have FX := exl FX (.cells #[.bool bn, .slice an ln cn] 50)
  generalize (wp1.alloc (.cells #[.bool bn, .slice an ln cn] 50)) = wx6 at *
  generalize wp1.heap.size = np1 at *
  have qp10 := Fp1.out.c 0 rfl
  have qp11 := Fp1.out.c 1 rfl
  go_upto_region 9 with (first | (go_at_call 23; refine (HA1.out _ _ IP.out).mono ?_; rintro e wa1 ⟨⟨ra, rfl, ha⟩, xa⟩) | (go_at_call 24; refine (HF.out _).mono ?_; rintro e wf1 ⟨⟨rf, rfl, hf⟩, xf⟩) | (go_at_call 20; refine (HC1.out _ _ _ (ha.ext xf) hf).mono ?_; rintro e wc1 ⟨rfl, xc⟩))
  have hx : Ext wx6 wc1 := (xa.trans xf).trans xc
  have IP : Hid (IsI wc1 (zG #[.bool bn, .slice an ln cn]) P1) := IP.out.ext hx
  have Ff := hvx Ff hx
  have Fv := hvx Fv hx
  have Fr := hvx Fr hx
  have Fd := hvx Fd hx
  have Fp1 := hvx Fp1 hx
  have FX := exx FX hx
  clear qp10 qp11 xa xf xc hx ha hf HA1 HC1
  have qp10 := Fp1.out.c 0 rfl
  have qp11 := Fp1.out.c 1 rfl
  have qd := Fd.out.c 2 rfl
  have zd := Fd.out.f 2 rfl
  go_upto_region 4 with (go_at_call 25; refine (HS1.out _ _ IP.out).mono ?_; rintro e ws1 ⟨rfl, xs⟩; have kd2 : ws1.cell? ⟨nd, 2, none⟩ = some (J zq 0) := (Fd.out.ext xs).c 2 rfl; have zd2 : ws1.frozen? ⟨nd, 2, none⟩ = false := (Fd.out.ext xs).f 2 rfl)
  have Ff := hvx Ff xs
  have Fv := hvx Fv xs
  have Fr := hvx Fr xs
  have Fd := hvx Fd xs
  have Fp1 := hvx Fp1 xs
  have FX := exx FX xs
  clear qp10 qp11 qd zd xs HS1 IP kd2 zd2
  have Ff : Hid (HV (ws1.setCell ⟨nd, 2, none⟩ (J zq P1)) w.heap.size [J zq f0, J zq f1, J zq f2, J zq f3]) := (Ff.out.far (by omega))
  have Fv : Hid (HV (ws1.setCell ⟨nd, 2, none⟩ (J zq P1)) (w.heap.size + 1) [J zq x, J zq y, J zq z]) := (Fv.out.far (by omega))
  have Fr : Hid (HV (ws1.setCell ⟨nd, 2, none⟩ (J zq P1)) (w.heap.size + 1 + 1) [J zq 0, J zq 0, J zq 0, J zq 0]) := (Fr.out.far (by omega))
  have Fd : Hid (HV (ws1.setCell ⟨nd, 2, none⟩ (J zq P1)) nd [J zq 0, J zq P0, J zq P1, J zq 0]) := (Fd.out.set 2 (J zq P1))
  have FX : Hid (Ext w (ws1.setCell ⟨nd, 2, none⟩ (J zq P1))) := (FX.out.set (p := ⟨nd, 2, none⟩) Ld.out (J zq P1))
  generalize (ws1.setCell ⟨nd, 2, none⟩ (J zq P1)) = wx7 at *
  go_wp2_with fail
  rw [rounds_succ]
  have qv0 := Fv.out.c 0 rfl
  have qv1 := Fv.out.c 1 rfl
  have qv2 := Fv.out.c 2 rfl
  go_upto_region 6 with fail
  clear qv0 qv1 qv2
  have ltfb2 := Ff.out.1
  have ltvb2 := Fv.out.1
  have ltrb2 := Fr.out.1
  have ltdb2 := Fd.out.1
  have Lb2 := exz FX
  have Ff := hvl Ff (.cells #[J zq x, J zq y, J zq z] 2)
  have Fv := hvl Fv (.cells #[J zq x, J zq y, J zq z] 2)
  have Fr := hvl Fr (.cells #[J zq x, J zq y, J zq z] 2)
  have Fd := hvl Fd (.cells #[J zq x, J zq y, J zq z] 2)
  have Fb2 : Hid (HV (wx7.alloc (.cells #[J zq x, J zq y, J zq z] 2)) wx7.heap.size [J zq x, J zq y, J zq z]) := hv_at rfl
  have FX := exl FX (.cells #[J zq x, J zq y, J zq z] 2)
  generalize (wx7.alloc (.cells #[J zq x, J zq y, J zq z] 2)) = wx8 at *
  generalize wx7.heap.size = nb2 at *
  go_upto_region 7 with (go_at_call 21; refine (HP2.out _).mono ?_; rintro e wp2 ⟨⟨rp, rfl, hp⟩, xp⟩; obtain ⟨bn, an, ln, cn, rfl⟩ := hp.form; have IP : Hid (IsI wp2 (zG #[.bool bn, .slice an ln cn]) P2) := hp; clear hp)
  have Ff := hvx Ff xp
  have Fv := hvx Fv xp
  have Fr := hvx Fr xp
  have Fd := hvx Fd xp
  have FX := exx FX xp
  clear xp HP2
  have IP : Hid (IsI (wp2.alloc (.cells #[.bool bn, .slice an ln cn] 50)) (zG #[.bool bn, .slice an ln cn]) P2) := IP.out.ext ((Ext.refl _).alloc _)
  have ltfp2 := Ff.out.1
  have ltvp2 := Fv.out.1
  have ltrp2 := Fr.out.1
  have ltdp2 := Fd.out.1
  have Lp2 := exz FX
  have Ff := hvl Ff (.cells #[.bool bn, .slice an ln cn] 50)
  have Fv := hvl Fv (.cells #[.bool bn, .slice an ln cn] 50)
  have Fr := hvl Fr (.cells #[.bool bn, .slice an ln cn] 50)
  have Fd := hvl Fd (.cells #[.bool bn, .slice an ln cn] 50)
  have Fp2 : Hid (HV (wp2.alloc (.cells #[.bool bn, .slice an ln cn] 50)) wp2.heap.size [.bool bn, .slice an ln cn]) := hv_at rfl
  have FX := exl FX (.cells #[.bool bn, .slice an ln cn] 50)
  generalize (wp2.alloc (.cells #[.bool bn, .slice an ln cn] 50)) = wx9 at *
  generalize wp2.heap.size = np2 at *
  have qp20 := Fp2.out.c 0 rfl
  have qp21 := Fp2.out.c 1 rfl
  go_upto_region 9 with (first | (go_at_call 23; refine (HA2.out _ _ IP.out).mono ?_; rintro e wa2 ⟨⟨ra, rfl, ha⟩, xa⟩) | (go_at_call 24; refine (HF.out _).mono ?_; rintro e wf2 ⟨⟨rf, rfl, hf⟩, xf⟩) | (go_at_call 20; refine (HC2.out _ _ _ (ha.ext xf) hf).mono ?_; rintro e wc2 ⟨rfl, xc⟩))
  have hx : Ext wx9 wc2 := (xa.trans xf).trans xc
  have IP : Hid (IsI wc2 (zG #[.bool bn, .slice an ln cn]) P2) := IP.out.ext hx
  have Ff := hvx Ff hx
  have Fv := hvx Fv hx
  have Fr := hvx Fr hx
  have Fd := hvx Fd hx
  have Fp2 := hvx Fp2 hx
  have FX := exx FX hx
  clear qp20 qp21 xa xf xc hx ha hf HA2 HC2
  have qp20 := Fp2.out.c 0 rfl
  have qp21 := Fp2.out.c 1 rfl
  have qd := Fd.out.c 3 rfl
  have zd := Fd.out.f 3 rfl
  go_upto_region 4 with (go_at_call 25; refine (HS2.out _ _ IP.out).mono ?_; rintro e ws2 ⟨rfl, xs⟩; have kd3 : ws2.cell? ⟨nd, 3, none⟩ = some (J zq 0) := (Fd.out.ext xs).c 3 rfl; have zd3 : ws2.frozen? ⟨nd, 3, none⟩ = false := (Fd.out.ext xs).f 3 rfl)
  have Ff := hvx Ff xs
  have Fv := hvx Fv xs
  have Fr := hvx Fr xs
  have Fd := hvx Fd xs
  have Fp2 := hvx Fp2 xs
  have FX := exx FX xs
  clear qp20 qp21 qd zd xs HS2 IP kd3 zd3
  have Ff : Hid (HV (ws2.setCell ⟨nd, 3, none⟩ (J zq P2)) w.heap.size [J zq f0, J zq f1, J zq f2, J zq f3]) := (Ff.out.far (by omega))
  have Fv : Hid (HV (ws2.setCell ⟨nd, 3, none⟩ (J zq P2)) (w.heap.size + 1) [J zq x, J zq y, J zq z]) := (Fv.out.far (by omega))
  have Fr : Hid (HV (ws2.setCell ⟨nd, 3, none⟩ (J zq P2)) (w.heap.size + 1 + 1) [J zq 0, J zq 0, J zq 0, J zq 0]) := (Fr.out.far (by omega))
  have Fd : Hid (HV (ws2.setCell ⟨nd, 3, none⟩ (J zq P2)) nd [J zq 0, J zq P0, J zq P1, J zq P2]) := (Fd.out.set 3 (J zq P2))
  have FX : Hid (Ext w (ws2.setCell ⟨nd, 3, none⟩ (J zq P2))) := (FX.out.set (p := ⟨nd, 3, none⟩) Ld.out (J zq P2))
  generalize (ws2.setCell ⟨nd, 3, none⟩ (J zq P2)) = wx10 at *
  go_wp2_with fail
  rw [rounds_succ]
  have qf0 := Ff.out.c 0 rfl
  have qf1 := Ff.out.c 1 rfl
  have qf2 := Ff.out.c 2 rfl
  have qf3 := Ff.out.c 3 rfl
  have qd0 := Fd.out.c 0 rfl
  have qd1 := Fd.out.c 1 rfl
  have qd2 := Fd.out.c 2 rfl
  have qd3 := Fd.out.c 3 rfl
  go_upto_region 17 with (first | (go_at_call 27; refine (HE.out _).mono ?_; rintro e we ⟨⟨re, rfl, he⟩, xe⟩) | (go_at_call 26; refine (HH.out _ _ he).mono ?_; rintro e wh ⟨rfl, xh⟩))
  have hx : Ext wx10 wh := xe.trans xh
  have Ff := hvx Ff hx
  have Fv := hvx Fv hx
  have Fr := hvx Fr hx
  have Fd := hvx Fd hx
  have FX := exx FX hx
  clear qf0 qf1 qf2 qf3 qd0 qd1 qd2 qd3 xe xh hx he HE HH
  have ltfp := Ff.out.1
  have ltvp := Fv.out.1
  have ltrp := Fr.out.1
  have Lp := exz FX
  have Ff := hvl Ff (.cells #[J zq p0, J zq p1, J zq p2, J zq p3] 24)
  have Fv := hvl Fv (.cells #[J zq p0, J zq p1, J zq p2, J zq p3] 24)
  have Fr := hvl Fr (.cells #[J zq p0, J zq p1, J zq p2, J zq p3] 24)
  have Fp : Hid (HV (wh.alloc (.cells #[J zq p0, J zq p1, J zq p2, J zq p3] 24)) wh.heap.size [J zq p0, J zq p1, J zq p2, J zq p3]) := hv_at rfl
  have FX := exl FX (.cells #[J zq p0, J zq p1, J zq p2, J zq p3] 24)
  generalize (wh.alloc (.cells #[J zq p0, J zq p1, J zq p2, J zq p3] 24)) = wx11 at *
  generalize wh.heap.size = np at *
  go_upto_region 19 with fail
  have qf0 := Ff.out.c 0 rfl
  have qf1 := Ff.out.c 1 rfl
  have qf2 := Ff.out.c 2 rfl
  have qf3 := Ff.out.c 3 rfl
  have qp0 := Fp.out.c 0 rfl
  have qp1 := Fp.out.c 1 rfl
  have qp2 := Fp.out.c 2 rfl
  have qp3 := Fp.out.c 3 rfl
  have e0 := hw0.out
  have e1 := hw1.out
  have e2 := hw2.out
  have e3 := hw3.out
  go_wp2_with (go_at_call 28; refine (HU.out _).mono ?_; rintro e wu ⟨rfl, xu⟩; have z0 := (Fr.out.ext xu).c 0 rfl; have y0 := (Fr.out.ext xu).f 0 rfl; have z1 := (Fr.out.ext xu).c 1 rfl; have y1 := (Fr.out.ext xu).f 1 rfl; have z2 := (Fr.out.ext xu).c 2 rfl; have y2 := (Fr.out.ext xu).f 2 rfl; have z3 := (Fr.out.ext xu).c 3 rfl; have y3 := (Fr.out.ext xu).f 3 rfl; have rl := (Fr.out.ext xu).1)
  have FX := exx FX xu
  exact bodyPost_ret (v := .tuple #[zG #[J zq u0, J zq u1, J zq u2, J zq u3], J zq 0]) (by simp [results, Tryz.results6, go_sem, z0, z1, z2, z3]) rfl ⟨rfl, ((((FX.out.set (p := ⟨(w.heap.size + 1 + 1), 0, none⟩) Lr.out _).set (p := ⟨(w.heap.size + 1 + 1), 1, none⟩) Lr.out _).set (p := ⟨(w.heap.size + 1 + 1), 2, none⟩) Lr.out _).set (p := ⟨(w.heap.size + 1 + 1), 3, none⟩) Lr.out _)⟩
end Go.Proofs.YtoeecldhbabmbaaGreat
