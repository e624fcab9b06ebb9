/- tap: how far one vector is from the other; Take. -/
import Derived.Test.YtojcndgoihkfnaaMg9
import Derived.Test.YtojcndgoihkfnaaMg19
namespace Go.Proofs.Ytojcndgoihkfnaa
open Go.RowKit
theorem okTp_parts {x y z s p : Int} (h : okTp true x y z s p = true) : ok3 x y z = true ∧ (0 ≤ s ∧ s ≤ 1099511627777) ∧ 0 ≤ p ∧ p ≤ 1099511627777 := by
  have e : okTp true x y z s p = (ok3 x y z && okMk s && okMk p) := rfl
  rw [e, Bool.and_eq_true, Bool.and_eq_true] at h
  exact ⟨h.1.1, okMk_iff.1 h.1.2, okMk_iff.1 h.2⟩
set_option maxRecDepth 20000 in
set_option maxHeartbeats 4000000 in
theorem apart_yes (v0 v1 v2 x y z d0 d1 d2 j e2 : Int) (w : World) (HS : Hid (∀ w, Calls Try.prog 29 #[.agg #[.int .i64 v0, .int .i64 v1, .int .i64 v2], .agg #[.int .i64 x, .int .i64 y, .int .i64 z]] w fun e w' => e = .returned (.tuple #[.agg #[.int .i64 d0, .int .i64 d1, .int .i64 d2], .int .i64 0]) ∧ Ext w w'))
    (HN : Hid (∀ w, Calls Try.prog 30 #[.agg #[.int .i64 d0, .int .i64 d1, .int .i64 d2]] w fun e w' => e = .returned (.tuple #[.int .i64 j, .int .i64 e2]) ∧ Ext w w'))
    : Calls Try.prog 19 #[.agg #[.int .i64 v0, .int .i64 v1, .int .i64 v2], .agg #[.int .i64 x, .int .i64 y, .int .i64 z]] w fun e w' => e = .returned (.tuple #[.int .i64 j, .int .i64 e2]) ∧ Ext w w' := by
  have Fv : Hid (HV ((w.alloc (.cells #[.int .i64 v0, .int .i64 v1, .int .i64 v2] 24)).alloc (.cells #[.int .i64 x, .int .i64 y, .int .i64 z] 24)) w.heap.size [.int .i64 v0, .int .i64 v1, .int .i64 v2]) := (hv_at rfl).alloc _
  have Fl : Hid (HV ((w.alloc (.cells #[.int .i64 v0, .int .i64 v1, .int .i64 v2] 24)).alloc (.cells #[.int .i64 x, .int .i64 y, .int .i64 z] 24)) (w.heap.size + 1) [.int .i64 x, .int .i64 y, .int .i64 z]) := hv_at (by simp)
  have FX : Hid (Ext w ((w.alloc (.cells #[.int .i64 v0, .int .i64 v1, .int .i64 v2] 24)).alloc (.cells #[.int .i64 x, .int .i64 y, .int .i64 z] 24))) := ((Ext.refl w).alloc _).alloc _
  go_enter Try.func19, Try.ntmps19
  go_upto_region 1 with fail
  generalize ((w.alloc (.cells #[.int .i64 v0, .int .i64 v1, .int .i64 v2] 24)).alloc (.cells #[.int .i64 x, .int .i64 y, .int .i64 z] 24)) = wa at *
  have qv0 : wa.cell? ⟨w.heap.size, 0, none⟩ = some (.int .i64 v0) := Fv.out.c 0 rfl
  have qv1 : wa.cell? ⟨w.heap.size, 1, none⟩ = some (.int .i64 v1) := Fv.out.c 1 rfl
  have qv2 : wa.cell? ⟨w.heap.size, 2, none⟩ = some (.int .i64 v2) := Fv.out.c 2 rfl
  have ql0 : wa.cell? ⟨(w.heap.size + 1), 0, none⟩ = some (.int .i64 x) := Fl.out.c 0 rfl
  have ql1 : wa.cell? ⟨(w.heap.size + 1), 1, none⟩ = some (.int .i64 y) := Fl.out.c 1 rfl
  have ql2 : wa.cell? ⟨(w.heap.size + 1), 2, none⟩ = some (.int .i64 z) := Fl.out.c 2 rfl
  go_upto_region 2 with (first | (go_at_call 29; refine (HS.out _).mono ?_; rintro e w1 ⟨rfl, x1⟩))
  have Fv : Hid (HV w1 w.heap.size [.int .i64 v0, .int .i64 v1, .int .i64 v2]) := Fv.out.ext x1
  have Fl : Hid (HV w1 (w.heap.size + 1) [.int .i64 x, .int .i64 y, .int .i64 z]) := Fl.out.ext x1
  have FX : Hid (Ext w w1) := FX.out.trans x1
  clear qv0 qv1 qv2 ql0 ql1 ql2 x1 HS
  have ltvd : w.heap.size < w1.heap.size := Fv.out.1
  have ltld : (w.heap.size + 1) < w1.heap.size := Fl.out.1
  have Ld : Hid (w.heap.size ≤ w1.heap.size) := FX.out.size
  have Fv : Hid (HV (w1.alloc (.cells #[.int .i64 d0, .int .i64 d1, .int .i64 d2] 24)) w.heap.size [.int .i64 v0, .int .i64 v1, .int .i64 v2]) := Fv.out.alloc _
  have Fl : Hid (HV (w1.alloc (.cells #[.int .i64 d0, .int .i64 d1, .int .i64 d2] 24)) (w.heap.size + 1) [.int .i64 x, .int .i64 y, .int .i64 z]) := Fl.out.alloc _
  have Fd : Hid (HV (w1.alloc (.cells #[.int .i64 d0, .int .i64 d1, .int .i64 d2] 24)) w1.heap.size [.int .i64 d0, .int .i64 d1, .int .i64 d2]) := hv_at rfl
  have FX : Hid (Ext w (w1.alloc (.cells #[.int .i64 d0, .int .i64 d1, .int .i64 d2] 24))) := FX.out.alloc _
  generalize (w1.alloc (.cells #[.int .i64 d0, .int .i64 d1, .int .i64 d2] 24)) = wx1 at *
  generalize w1.heap.size = nd at *
  have qd0 : wx1.cell? ⟨nd, 0, none⟩ = some (.int .i64 d0) := Fd.out.c 0 rfl
  have qd1 : wx1.cell? ⟨nd, 1, none⟩ = some (.int .i64 d1) := Fd.out.c 1 rfl
  have qd2 : wx1.cell? ⟨nd, 2, none⟩ = some (.int .i64 d2) := Fd.out.c 2 rfl
  go_wp2_with (go_at_call 30; refine (HN.out _).mono ?_; rintro e w2 ⟨rfl, x2⟩)
  go_ret2
  exact ⟨rfl, FX.out.trans x2⟩
set_option maxRecDepth 20000 in
set_option maxHeartbeats 4000000 in
theorem apart_no (v0 v1 v2 x y z : Int) (w : World) (HS : Hid (∀ w, Calls Try.prog 29 #[.agg #[.int .i64 v0, .int .i64 v1, .int .i64 v2], .agg #[.int .i64 x, .int .i64 y, .int .i64 z]] w fun e w' => e = .returned (.tuple #[.agg #[.int .i64 0, .int .i64 0, .int .i64 0], .int .i64 2]) ∧ Ext w w'))
    : Calls Try.prog 19 #[.agg #[.int .i64 v0, .int .i64 v1, .int .i64 v2], .agg #[.int .i64 x, .int .i64 y, .int .i64 z]] w fun e w' => e = .returned (.tuple #[.int .i64 0, .int .i64 2]) ∧ Ext w w' := by
  have Fv : Hid (HV ((w.alloc (.cells #[.int .i64 v0, .int .i64 v1, .int .i64 v2] 24)).alloc (.cells #[.int .i64 x, .int .i64 y, .int .i64 z] 24)) w.heap.size [.int .i64 v0, .int .i64 v1, .int .i64 v2]) := (hv_at rfl).alloc _
  have Fl : Hid (HV ((w.alloc (.cells #[.int .i64 v0, .int .i64 v1, .int .i64 v2] 24)).alloc (.cells #[.int .i64 x, .int .i64 y, .int .i64 z] 24)) (w.heap.size + 1) [.int .i64 x, .int .i64 y, .int .i64 z]) := hv_at (by simp)
  have FX : Hid (Ext w ((w.alloc (.cells #[.int .i64 v0, .int .i64 v1, .int .i64 v2] 24)).alloc (.cells #[.int .i64 x, .int .i64 y, .int .i64 z] 24))) := ((Ext.refl w).alloc _).alloc _
  go_enter Try.func19, Try.ntmps19
  go_upto_region 1 with fail
  generalize ((w.alloc (.cells #[.int .i64 v0, .int .i64 v1, .int .i64 v2] 24)).alloc (.cells #[.int .i64 x, .int .i64 y, .int .i64 z] 24)) = wa at *
  have qv0 : wa.cell? ⟨w.heap.size, 0, none⟩ = some (.int .i64 v0) := Fv.out.c 0 rfl
  have qv1 : wa.cell? ⟨w.heap.size, 1, none⟩ = some (.int .i64 v1) := Fv.out.c 1 rfl
  have qv2 : wa.cell? ⟨w.heap.size, 2, none⟩ = some (.int .i64 v2) := Fv.out.c 2 rfl
  have ql0 : wa.cell? ⟨(w.heap.size + 1), 0, none⟩ = some (.int .i64 x) := Fl.out.c 0 rfl
  have ql1 : wa.cell? ⟨(w.heap.size + 1), 1, none⟩ = some (.int .i64 y) := Fl.out.c 1 rfl
  have ql2 : wa.cell? ⟨(w.heap.size + 1), 2, none⟩ = some (.int .i64 z) := Fl.out.c 2 rfl
  go_upto_region 2 with (first | (go_at_call 29; refine (HS.out _).mono ?_; rintro e w1 ⟨rfl, x1⟩))
  have Fv : Hid (HV w1 w.heap.size [.int .i64 v0, .int .i64 v1, .int .i64 v2]) := Fv.out.ext x1
  have Fl : Hid (HV w1 (w.heap.size + 1) [.int .i64 x, .int .i64 y, .int .i64 z]) := Fl.out.ext x1
  have FX : Hid (Ext w w1) := FX.out.trans x1
  clear qv0 qv1 qv2 ql0 ql1 ql2 x1 HS
  go_wp2_with fail
  go_ret2
  exact ⟨rfl, FX.out.alloc _⟩
set_option maxRecDepth 20000 in
set_option maxHeartbeats 16000000 in
theorem take_bad1 (on : Bool) (x y z s p v0 v1 v2 n : Int) (w : World) (h1 : okTp on x y z s p = false) : Calls Try.prog 8 #[.agg #[.bool on, .int .i64 x, .int .i64 y, .int .i64 z, .int .i64 s, .int .i64 p], .agg #[.int .i64 v0, .int .i64 v1, .int .i64 v2], .int .i64 n] w fun e w' => e = .returned (.tuple #[.agg #[.bool false, .int .i64 0, .int .i64 0, .int .i64 0, .int .i64 0, .int .i64 0], .int .i64 0, .int .i64 1]) ∧ Ext w w' := by
  have HI : Hid (∀ w, Calls Try.prog 16 #[.agg #[.bool on, .int .i64 x, .int .i64 y, .int .i64 z, .int .i64 s, .int .i64 p]] w fun e w' => e = .returned (.bool (okTp on x y z s p)) ∧ Ext w w') := istap_any on x y z s p
  rw [h1] at HI
  clear h1
  have Ft : Hid (HV (((w.alloc (.cells #[.bool on, .int .i64 x, .int .i64 y, .int .i64 z, .int .i64 s, .int .i64 p] 26)).alloc (.cells #[.int .i64 v0, .int .i64 v1, .int .i64 v2] 24)).alloc (.cells #[.bool false, .int .i64 0, .int .i64 0, .int .i64 0, .int .i64 0, .int .i64 0] 26)) w.heap.size [.bool on, .int .i64 x, .int .i64 y, .int .i64 z, .int .i64 s, .int .i64 p]) := ((hv_at rfl).alloc _).alloc _
  have Fv : Hid (HV (((w.alloc (.cells #[.bool on, .int .i64 x, .int .i64 y, .int .i64 z, .int .i64 s, .int .i64 p] 26)).alloc (.cells #[.int .i64 v0, .int .i64 v1, .int .i64 v2] 24)).alloc (.cells #[.bool false, .int .i64 0, .int .i64 0, .int .i64 0, .int .i64 0, .int .i64 0] 26)) (w.heap.size + 1) [.int .i64 v0, .int .i64 v1, .int .i64 v2]) := (hv_at (by simp)).alloc _
  have Fu : Hid (HV (((w.alloc (.cells #[.bool on, .int .i64 x, .int .i64 y, .int .i64 z, .int .i64 s, .int .i64 p] 26)).alloc (.cells #[.int .i64 v0, .int .i64 v1, .int .i64 v2] 24)).alloc (.cells #[.bool false, .int .i64 0, .int .i64 0, .int .i64 0, .int .i64 0, .int .i64 0] 26)) (w.heap.size + 2) [.bool false, .int .i64 0, .int .i64 0, .int .i64 0, .int .i64 0, .int .i64 0]) := hv_at (by simp)
  have Lu : Hid (w.heap.size ≤ w.heap.size + 2) := Nat.le_add_right _ _
  have FX : Hid (Ext w (((w.alloc (.cells #[.bool on, .int .i64 x, .int .i64 y, .int .i64 z, .int .i64 s, .int .i64 p] 26)).alloc (.cells #[.int .i64 v0, .int .i64 v1, .int .i64 v2] 24)).alloc (.cells #[.bool false, .int .i64 0, .int .i64 0, .int .i64 0, .int .i64 0, .int .i64 0] 26))) := (((Ext.refl w).alloc _).alloc _).alloc _
  go_enter Try.func8, Try.ntmps8
  go_upto_region 1 with fail
  generalize (((w.alloc (.cells #[.bool on, .int .i64 x, .int .i64 y, .int .i64 z, .int .i64 s, .int .i64 p] 26)).alloc (.cells #[.int .i64 v0, .int .i64 v1, .int .i64 v2] 24)).alloc (.cells #[.bool false, .int .i64 0, .int .i64 0, .int .i64 0, .int .i64 0, .int .i64 0] 26)) = wa at *
  have qt0 : wa.cell? ⟨w.heap.size, 0, none⟩ = some (.bool on) := Ft.out.c 0 rfl
  have qt1 : wa.cell? ⟨w.heap.size, 1, none⟩ = some (.int .i64 x) := Ft.out.c 1 rfl
  have qt2 : wa.cell? ⟨w.heap.size, 2, none⟩ = some (.int .i64 y) := Ft.out.c 2 rfl
  have qt3 : wa.cell? ⟨w.heap.size, 3, none⟩ = some (.int .i64 z) := Ft.out.c 3 rfl
  have qt4 : wa.cell? ⟨w.heap.size, 4, none⟩ = some (.int .i64 s) := Ft.out.c 4 rfl
  have qt5 : wa.cell? ⟨w.heap.size, 5, none⟩ = some (.int .i64 p) := Ft.out.c 5 rfl
  go_upto_region 2 with (first | (go_at_call 16; refine (HI.out _).mono ?_; rintro e w1 ⟨rfl, x1⟩))
  have Ft : Hid (HV w1 w.heap.size [.bool on, .int .i64 x, .int .i64 y, .int .i64 z, .int .i64 s, .int .i64 p]) := Ft.out.ext x1
  have Fv : Hid (HV w1 (w.heap.size + 1) [.int .i64 v0, .int .i64 v1, .int .i64 v2]) := Fv.out.ext x1
  have Fu : Hid (HV w1 (w.heap.size + 2) [.bool false, .int .i64 0, .int .i64 0, .int .i64 0, .int .i64 0, .int .i64 0]) := Fu.out.ext x1
  have FX : Hid (Ext w w1) := FX.out.trans x1
  clear qt0 qt1 qt2 qt3 qt4 qt5 x1 HI
  have o0 : w1.cell? ⟨(w.heap.size + 2), 0, none⟩ = some (.bool false) := Fu.out.c 0 rfl
  have z0 : w1.frozen? ⟨(w.heap.size + 2), 0, none⟩ = false := Fu.out.f 0 rfl
  have o1 : w1.cell? ⟨(w.heap.size + 2), 1, none⟩ = some (.int .i64 0) := Fu.out.c 1 rfl
  have z1 : w1.frozen? ⟨(w.heap.size + 2), 1, none⟩ = false := Fu.out.f 1 rfl
  have o2 : w1.cell? ⟨(w.heap.size + 2), 2, none⟩ = some (.int .i64 0) := Fu.out.c 2 rfl
  have z2 : w1.frozen? ⟨(w.heap.size + 2), 2, none⟩ = false := Fu.out.f 2 rfl
  have o3 : w1.cell? ⟨(w.heap.size + 2), 3, none⟩ = some (.int .i64 0) := Fu.out.c 3 rfl
  have z3 : w1.frozen? ⟨(w.heap.size + 2), 3, none⟩ = false := Fu.out.f 3 rfl
  have o4 : w1.cell? ⟨(w.heap.size + 2), 4, none⟩ = some (.int .i64 0) := Fu.out.c 4 rfl
  have z4 : w1.frozen? ⟨(w.heap.size + 2), 4, none⟩ = false := Fu.out.f 4 rfl
  have o5 : w1.cell? ⟨(w.heap.size + 2), 5, none⟩ = some (.int .i64 0) := Fu.out.c 5 rfl
  have z5 : w1.frozen? ⟨(w.heap.size + 2), 5, none⟩ = false := Fu.out.f 5 rfl
  go_wp2_with fail
  refine bodyPost_ret (v := .tuple #[.agg #[.bool false, .int .i64 0, .int .i64 0, .int .i64 0, .int .i64 0, .int .i64 0], .int .i64 0, .int .i64 1]) (by simp [results, Try.results8, go_sem, *]) rfl ⟨rfl, ?_⟩
  exact (Ext.set (Ext.set (Ext.set (Ext.set (Ext.set (Ext.set FX.out Lu.out _) Lu.out _) Lu.out _) Lu.out _) Lu.out _) Lu.out _)
set_option maxRecDepth 20000 in
set_option maxHeartbeats 16000000 in
theorem take_bad2 (on : Bool) (x y z s p v0 v1 v2 n : Int) (w : World) (h1 : okTp on x y z s p = true) (h2 : ok3 v0 v1 v2 = false) : Calls Try.prog 8 #[.agg #[.bool on, .int .i64 x, .int .i64 y, .int .i64 z, .int .i64 s, .int .i64 p], .agg #[.int .i64 v0, .int .i64 v1, .int .i64 v2], .int .i64 n] w fun e w' => e = .returned (.tuple #[.agg #[.bool false, .int .i64 0, .int .i64 0, .int .i64 0, .int .i64 0, .int .i64 0], .int .i64 0, .int .i64 1]) ∧ Ext w w' := by
  have HI : Hid (∀ w, Calls Try.prog 16 #[.agg #[.bool on, .int .i64 x, .int .i64 y, .int .i64 z, .int .i64 s, .int .i64 p]] w fun e w' => e = .returned (.bool (okTp on x y z s p)) ∧ Ext w w') := istap_any on x y z s p
  have HC : Hid (∀ w, Calls Try.prog 17 #[.agg #[.int .i64 v0, .int .i64 v1, .int .i64 v2]] w fun e w' => e = .returned (.int .i64 (chk3 v0 v1 v2)) ∧ Ext w w') := vCheck_any v0 v1 v2
  rw [h1] at HI
  have hc3 : chk3 v0 v1 v2 = 1 := by unfold chk3; rw [h2]; rfl
  rw [hc3] at HC
  clear hc3
  clear h1 h2
  have Ft : Hid (HV (((w.alloc (.cells #[.bool on, .int .i64 x, .int .i64 y, .int .i64 z, .int .i64 s, .int .i64 p] 26)).alloc (.cells #[.int .i64 v0, .int .i64 v1, .int .i64 v2] 24)).alloc (.cells #[.bool false, .int .i64 0, .int .i64 0, .int .i64 0, .int .i64 0, .int .i64 0] 26)) w.heap.size [.bool on, .int .i64 x, .int .i64 y, .int .i64 z, .int .i64 s, .int .i64 p]) := ((hv_at rfl).alloc _).alloc _
  have Fv : Hid (HV (((w.alloc (.cells #[.bool on, .int .i64 x, .int .i64 y, .int .i64 z, .int .i64 s, .int .i64 p] 26)).alloc (.cells #[.int .i64 v0, .int .i64 v1, .int .i64 v2] 24)).alloc (.cells #[.bool false, .int .i64 0, .int .i64 0, .int .i64 0, .int .i64 0, .int .i64 0] 26)) (w.heap.size + 1) [.int .i64 v0, .int .i64 v1, .int .i64 v2]) := (hv_at (by simp)).alloc _
  have Fu : Hid (HV (((w.alloc (.cells #[.bool on, .int .i64 x, .int .i64 y, .int .i64 z, .int .i64 s, .int .i64 p] 26)).alloc (.cells #[.int .i64 v0, .int .i64 v1, .int .i64 v2] 24)).alloc (.cells #[.bool false, .int .i64 0, .int .i64 0, .int .i64 0, .int .i64 0, .int .i64 0] 26)) (w.heap.size + 2) [.bool false, .int .i64 0, .int .i64 0, .int .i64 0, .int .i64 0, .int .i64 0]) := hv_at (by simp)
  have Lu : Hid (w.heap.size ≤ w.heap.size + 2) := Nat.le_add_right _ _
  have FX : Hid (Ext w (((w.alloc (.cells #[.bool on, .int .i64 x, .int .i64 y, .int .i64 z, .int .i64 s, .int .i64 p] 26)).alloc (.cells #[.int .i64 v0, .int .i64 v1, .int .i64 v2] 24)).alloc (.cells #[.bool false, .int .i64 0, .int .i64 0, .int .i64 0, .int .i64 0, .int .i64 0] 26))) := (((Ext.refl w).alloc _).alloc _).alloc _
  go_enter Try.func8, Try.ntmps8
  go_upto_region 1 with fail
  generalize (((w.alloc (.cells #[.bool on, .int .i64 x, .int .i64 y, .int .i64 z, .int .i64 s, .int .i64 p] 26)).alloc (.cells #[.int .i64 v0, .int .i64 v1, .int .i64 v2] 24)).alloc (.cells #[.bool false, .int .i64 0, .int .i64 0, .int .i64 0, .int .i64 0, .int .i64 0] 26)) = wa at *
  have qt0 : wa.cell? ⟨w.heap.size, 0, none⟩ = some (.bool on) := Ft.out.c 0 rfl
  have qt1 : wa.cell? ⟨w.heap.size, 1, none⟩ = some (.int .i64 x) := Ft.out.c 1 rfl
  have qt2 : wa.cell? ⟨w.heap.size, 2, none⟩ = some (.int .i64 y) := Ft.out.c 2 rfl
  have qt3 : wa.cell? ⟨w.heap.size, 3, none⟩ = some (.int .i64 z) := Ft.out.c 3 rfl
  have qt4 : wa.cell? ⟨w.heap.size, 4, none⟩ = some (.int .i64 s) := Ft.out.c 4 rfl
  have qt5 : wa.cell? ⟨w.heap.size, 5, none⟩ = some (.int .i64 p) := Ft.out.c 5 rfl
  go_upto_region 2 with (first | (go_at_call 16; refine (HI.out _).mono ?_; rintro e w1 ⟨rfl, x1⟩; have a0 : w1.cell? ⟨(w.heap.size + 1), 0, none⟩ = some (.int .i64 v0) := (Fv.out.ext x1).c 0 rfl; have a1 : w1.cell? ⟨(w.heap.size + 1), 1, none⟩ = some (.int .i64 v1) := (Fv.out.ext x1).c 1 rfl; have a2 : w1.cell? ⟨(w.heap.size + 1), 2, none⟩ = some (.int .i64 v2) := (Fv.out.ext x1).c 2 rfl) | (go_at_call 17; refine (HC.out _).mono ?_; rintro e w2 ⟨rfl, x2⟩))
  have Ft : Hid (HV w2 w.heap.size [.bool on, .int .i64 x, .int .i64 y, .int .i64 z, .int .i64 s, .int .i64 p]) := Ft.out.ext (x1.trans x2)
  have Fv : Hid (HV w2 (w.heap.size + 1) [.int .i64 v0, .int .i64 v1, .int .i64 v2]) := Fv.out.ext (x1.trans x2)
  have Fu : Hid (HV w2 (w.heap.size + 2) [.bool false, .int .i64 0, .int .i64 0, .int .i64 0, .int .i64 0, .int .i64 0]) := Fu.out.ext (x1.trans x2)
  have FX : Hid (Ext w w2) := FX.out.trans (x1.trans x2)
  clear qt0 qt1 qt2 qt3 qt4 qt5 a0 a1 a2 HI HC
  clear x1 x2
  have o0 : w2.cell? ⟨(w.heap.size + 2), 0, none⟩ = some (.bool false) := Fu.out.c 0 rfl
  have z0 : w2.frozen? ⟨(w.heap.size + 2), 0, none⟩ = false := Fu.out.f 0 rfl
  have o1 : w2.cell? ⟨(w.heap.size + 2), 1, none⟩ = some (.int .i64 0) := Fu.out.c 1 rfl
  have z1 : w2.frozen? ⟨(w.heap.size + 2), 1, none⟩ = false := Fu.out.f 1 rfl
  have o2 : w2.cell? ⟨(w.heap.size + 2), 2, none⟩ = some (.int .i64 0) := Fu.out.c 2 rfl
  have z2 : w2.frozen? ⟨(w.heap.size + 2), 2, none⟩ = false := Fu.out.f 2 rfl
  have o3 : w2.cell? ⟨(w.heap.size + 2), 3, none⟩ = some (.int .i64 0) := Fu.out.c 3 rfl
  have z3 : w2.frozen? ⟨(w.heap.size + 2), 3, none⟩ = false := Fu.out.f 3 rfl
  have o4 : w2.cell? ⟨(w.heap.size + 2), 4, none⟩ = some (.int .i64 0) := Fu.out.c 4 rfl
  have z4 : w2.frozen? ⟨(w.heap.size + 2), 4, none⟩ = false := Fu.out.f 4 rfl
  have o5 : w2.cell? ⟨(w.heap.size + 2), 5, none⟩ = some (.int .i64 0) := Fu.out.c 5 rfl
  have z5 : w2.frozen? ⟨(w.heap.size + 2), 5, none⟩ = false := Fu.out.f 5 rfl
  go_wp2_with fail
  refine bodyPost_ret (v := .tuple #[.agg #[.bool false, .int .i64 0, .int .i64 0, .int .i64 0, .int .i64 0, .int .i64 0], .int .i64 0, .int .i64 1]) (by simp [results, Try.results8, go_sem, *]) rfl ⟨rfl, ?_⟩
  exact (Ext.set (Ext.set (Ext.set (Ext.set (Ext.set (Ext.set FX.out Lu.out _) Lu.out _) Lu.out _) Lu.out _) Lu.out _) Lu.out _)
set_option maxRecDepth 20000 in
set_option maxHeartbeats 16000000 in
theorem take_bad3 (on : Bool) (x y z s p v0 v1 v2 n : Int) (w : World) (h1 : okTp on x y z s p = true) (h2 : ok3 v0 v1 v2 = true) (h3 : okTm n = false) : Calls Try.prog 8 #[.agg #[.bool on, .int .i64 x, .int .i64 y, .int .i64 z, .int .i64 s, .int .i64 p], .agg #[.int .i64 v0, .int .i64 v1, .int .i64 v2], .int .i64 n] w fun e w' => e = .returned (.tuple #[.agg #[.bool false, .int .i64 0, .int .i64 0, .int .i64 0, .int .i64 0, .int .i64 0], .int .i64 0, .int .i64 1]) ∧ Ext w w' := by
  have HI : Hid (∀ w, Calls Try.prog 16 #[.agg #[.bool on, .int .i64 x, .int .i64 y, .int .i64 z, .int .i64 s, .int .i64 p]] w fun e w' => e = .returned (.bool (okTp on x y z s p)) ∧ Ext w w') := istap_any on x y z s p
  have HC : Hid (∀ w, Calls Try.prog 17 #[.agg #[.int .i64 v0, .int .i64 v1, .int .i64 v2]] w fun e w' => e = .returned (.int .i64 (chk3 v0 v1 v2)) ∧ Ext w w') := vCheck_any v0 v1 v2
  have HT : Hid (∀ w, Calls Try.prog 18 #[.int .i64 n] w fun e w' => e = .returned (.bool (okTm n)) ∧ w' = w) := istime_any n
  rw [h1] at HI
  have hc3 : chk3 v0 v1 v2 = 0 := by unfold chk3; rw [h2]; rfl
  rw [hc3] at HC
  clear hc3
  rw [h3] at HT
  clear h1 h2 h3
  have Ft : Hid (HV (((w.alloc (.cells #[.bool on, .int .i64 x, .int .i64 y, .int .i64 z, .int .i64 s, .int .i64 p] 26)).alloc (.cells #[.int .i64 v0, .int .i64 v1, .int .i64 v2] 24)).alloc (.cells #[.bool false, .int .i64 0, .int .i64 0, .int .i64 0, .int .i64 0, .int .i64 0] 26)) w.heap.size [.bool on, .int .i64 x, .int .i64 y, .int .i64 z, .int .i64 s, .int .i64 p]) := ((hv_at rfl).alloc _).alloc _
  have Fv : Hid (HV (((w.alloc (.cells #[.bool on, .int .i64 x, .int .i64 y, .int .i64 z, .int .i64 s, .int .i64 p] 26)).alloc (.cells #[.int .i64 v0, .int .i64 v1, .int .i64 v2] 24)).alloc (.cells #[.bool false, .int .i64 0, .int .i64 0, .int .i64 0, .int .i64 0, .int .i64 0] 26)) (w.heap.size + 1) [.int .i64 v0, .int .i64 v1, .int .i64 v2]) := (hv_at (by simp)).alloc _
  have Fu : Hid (HV (((w.alloc (.cells #[.bool on, .int .i64 x, .int .i64 y, .int .i64 z, .int .i64 s, .int .i64 p] 26)).alloc (.cells #[.int .i64 v0, .int .i64 v1, .int .i64 v2] 24)).alloc (.cells #[.bool false, .int .i64 0, .int .i64 0, .int .i64 0, .int .i64 0, .int .i64 0] 26)) (w.heap.size + 2) [.bool false, .int .i64 0, .int .i64 0, .int .i64 0, .int .i64 0, .int .i64 0]) := hv_at (by simp)
  have Lu : Hid (w.heap.size ≤ w.heap.size + 2) := Nat.le_add_right _ _
  have FX : Hid (Ext w (((w.alloc (.cells #[.bool on, .int .i64 x, .int .i64 y, .int .i64 z, .int .i64 s, .int .i64 p] 26)).alloc (.cells #[.int .i64 v0, .int .i64 v1, .int .i64 v2] 24)).alloc (.cells #[.bool false, .int .i64 0, .int .i64 0, .int .i64 0, .int .i64 0, .int .i64 0] 26))) := (((Ext.refl w).alloc _).alloc _).alloc _
  go_enter Try.func8, Try.ntmps8
  go_upto_region 1 with fail
  generalize (((w.alloc (.cells #[.bool on, .int .i64 x, .int .i64 y, .int .i64 z, .int .i64 s, .int .i64 p] 26)).alloc (.cells #[.int .i64 v0, .int .i64 v1, .int .i64 v2] 24)).alloc (.cells #[.bool false, .int .i64 0, .int .i64 0, .int .i64 0, .int .i64 0, .int .i64 0] 26)) = wa at *
  have qt0 : wa.cell? ⟨w.heap.size, 0, none⟩ = some (.bool on) := Ft.out.c 0 rfl
  have qt1 : wa.cell? ⟨w.heap.size, 1, none⟩ = some (.int .i64 x) := Ft.out.c 1 rfl
  have qt2 : wa.cell? ⟨w.heap.size, 2, none⟩ = some (.int .i64 y) := Ft.out.c 2 rfl
  have qt3 : wa.cell? ⟨w.heap.size, 3, none⟩ = some (.int .i64 z) := Ft.out.c 3 rfl
  have qt4 : wa.cell? ⟨w.heap.size, 4, none⟩ = some (.int .i64 s) := Ft.out.c 4 rfl
  have qt5 : wa.cell? ⟨w.heap.size, 5, none⟩ = some (.int .i64 p) := Ft.out.c 5 rfl
  go_upto_region 2 with (first | (go_at_call 16; refine (HI.out _).mono ?_; rintro e w1 ⟨rfl, x1⟩; have a0 : w1.cell? ⟨(w.heap.size + 1), 0, none⟩ = some (.int .i64 v0) := (Fv.out.ext x1).c 0 rfl; have a1 : w1.cell? ⟨(w.heap.size + 1), 1, none⟩ = some (.int .i64 v1) := (Fv.out.ext x1).c 1 rfl; have a2 : w1.cell? ⟨(w.heap.size + 1), 2, none⟩ = some (.int .i64 v2) := (Fv.out.ext x1).c 2 rfl) | (go_at_call 17; refine (HC.out _).mono ?_; rintro e w2 ⟨rfl, x2⟩) | (go_at_call 18; refine (HT.out _).mono ?_; rintro e wx ⟨rfl, hwx⟩; have hwy := hwx.symm; clear hwx; subst hwy))
  have Ft : Hid (HV w2 w.heap.size [.bool on, .int .i64 x, .int .i64 y, .int .i64 z, .int .i64 s, .int .i64 p]) := Ft.out.ext (x1.trans x2)
  have Fv : Hid (HV w2 (w.heap.size + 1) [.int .i64 v0, .int .i64 v1, .int .i64 v2]) := Fv.out.ext (x1.trans x2)
  have Fu : Hid (HV w2 (w.heap.size + 2) [.bool false, .int .i64 0, .int .i64 0, .int .i64 0, .int .i64 0, .int .i64 0]) := Fu.out.ext (x1.trans x2)
  have FX : Hid (Ext w w2) := FX.out.trans (x1.trans x2)
  clear qt0 qt1 qt2 qt3 qt4 qt5 a0 a1 a2 HI HC HT
  clear x1 x2
  have o0 : w2.cell? ⟨(w.heap.size + 2), 0, none⟩ = some (.bool false) := Fu.out.c 0 rfl
  have z0 : w2.frozen? ⟨(w.heap.size + 2), 0, none⟩ = false := Fu.out.f 0 rfl
  have o1 : w2.cell? ⟨(w.heap.size + 2), 1, none⟩ = some (.int .i64 0) := Fu.out.c 1 rfl
  have z1 : w2.frozen? ⟨(w.heap.size + 2), 1, none⟩ = false := Fu.out.f 1 rfl
  have o2 : w2.cell? ⟨(w.heap.size + 2), 2, none⟩ = some (.int .i64 0) := Fu.out.c 2 rfl
  have z2 : w2.frozen? ⟨(w.heap.size + 2), 2, none⟩ = false := Fu.out.f 2 rfl
  have o3 : w2.cell? ⟨(w.heap.size + 2), 3, none⟩ = some (.int .i64 0) := Fu.out.c 3 rfl
  have z3 : w2.frozen? ⟨(w.heap.size + 2), 3, none⟩ = false := Fu.out.f 3 rfl
  have o4 : w2.cell? ⟨(w.heap.size + 2), 4, none⟩ = some (.int .i64 0) := Fu.out.c 4 rfl
  have z4 : w2.frozen? ⟨(w.heap.size + 2), 4, none⟩ = false := Fu.out.f 4 rfl
  have o5 : w2.cell? ⟨(w.heap.size + 2), 5, none⟩ = some (.int .i64 0) := Fu.out.c 5 rfl
  have z5 : w2.frozen? ⟨(w.heap.size + 2), 5, none⟩ = false := Fu.out.f 5 rfl
  go_wp2_with fail
  refine bodyPost_ret (v := .tuple #[.agg #[.bool false, .int .i64 0, .int .i64 0, .int .i64 0, .int .i64 0, .int .i64 0], .int .i64 0, .int .i64 1]) (by simp [results, Try.results8, go_sem, *]) rfl ⟨rfl, ?_⟩
  exact (Ext.set (Ext.set (Ext.set (Ext.set (Ext.set (Ext.set FX.out Lu.out _) Lu.out _) Lu.out _) Lu.out _) Lu.out _) Lu.out _)
set_option maxRecDepth 20000 in
set_option maxHeartbeats 16000000 in
theorem take_bad4 (on : Bool) (x y z s p v0 v1 v2 n : Int) (w : World) (h1 : okTp on x y z s p = true) (h2 : ok3 v0 v1 v2 = true) (h3 : okTm n = true) (h4 : n + 1 < s ∨ n + 1 < p) : Calls Try.prog 8 #[.agg #[.bool on, .int .i64 x, .int .i64 y, .int .i64 z, .int .i64 s, .int .i64 p], .agg #[.int .i64 v0, .int .i64 v1, .int .i64 v2], .int .i64 n] w fun e w' => e = .returned (.tuple #[.agg #[.bool false, .int .i64 0, .int .i64 0, .int .i64 0, .int .i64 0, .int .i64 0], .int .i64 0, .int .i64 1]) ∧ Ext w w' := by
  have HI : Hid (∀ w, Calls Try.prog 16 #[.agg #[.bool on, .int .i64 x, .int .i64 y, .int .i64 z, .int .i64 s, .int .i64 p]] w fun e w' => e = .returned (.bool (okTp on x y z s p)) ∧ Ext w w') := istap_any on x y z s p
  have HC : Hid (∀ w, Calls Try.prog 17 #[.agg #[.int .i64 v0, .int .i64 v1, .int .i64 v2]] w fun e w' => e = .returned (.int .i64 (chk3 v0 v1 v2)) ∧ Ext w w') := vCheck_any v0 v1 v2
  have HT : Hid (∀ w, Calls Try.prog 18 #[.int .i64 n] w fun e w' => e = .returned (.bool (okTm n)) ∧ w' = w) := istime_any n
  obtain ⟨n1, n2⟩ := okTm_iff.1 h3
  have en : wrap64 (n + 1) = n + 1 := neg_wrap64 (by omega) (by omega)
  have h5 : decide (n + 1 < max s p) = true := by simp; omega
  clear n1 n2 h4
  rw [h1] at HI
  have hc3 : chk3 v0 v1 v2 = 0 := by unfold chk3; rw [h2]; rfl
  rw [hc3] at HC
  clear hc3
  rw [h3] at HT
  clear h1 h2 h3
  have Ft : Hid (HV (((w.alloc (.cells #[.bool on, .int .i64 x, .int .i64 y, .int .i64 z, .int .i64 s, .int .i64 p] 26)).alloc (.cells #[.int .i64 v0, .int .i64 v1, .int .i64 v2] 24)).alloc (.cells #[.bool false, .int .i64 0, .int .i64 0, .int .i64 0, .int .i64 0, .int .i64 0] 26)) w.heap.size [.bool on, .int .i64 x, .int .i64 y, .int .i64 z, .int .i64 s, .int .i64 p]) := ((hv_at rfl).alloc _).alloc _
  have Fv : Hid (HV (((w.alloc (.cells #[.bool on, .int .i64 x, .int .i64 y, .int .i64 z, .int .i64 s, .int .i64 p] 26)).alloc (.cells #[.int .i64 v0, .int .i64 v1, .int .i64 v2] 24)).alloc (.cells #[.bool false, .int .i64 0, .int .i64 0, .int .i64 0, .int .i64 0, .int .i64 0] 26)) (w.heap.size + 1) [.int .i64 v0, .int .i64 v1, .int .i64 v2]) := (hv_at (by simp)).alloc _
  have Fu : Hid (HV (((w.alloc (.cells #[.bool on, .int .i64 x, .int .i64 y, .int .i64 z, .int .i64 s, .int .i64 p] 26)).alloc (.cells #[.int .i64 v0, .int .i64 v1, .int .i64 v2] 24)).alloc (.cells #[.bool false, .int .i64 0, .int .i64 0, .int .i64 0, .int .i64 0, .int .i64 0] 26)) (w.heap.size + 2) [.bool false, .int .i64 0, .int .i64 0, .int .i64 0, .int .i64 0, .int .i64 0]) := hv_at (by simp)
  have Lu : Hid (w.heap.size ≤ w.heap.size + 2) := Nat.le_add_right _ _
  have FX : Hid (Ext w (((w.alloc (.cells #[.bool on, .int .i64 x, .int .i64 y, .int .i64 z, .int .i64 s, .int .i64 p] 26)).alloc (.cells #[.int .i64 v0, .int .i64 v1, .int .i64 v2] 24)).alloc (.cells #[.bool false, .int .i64 0, .int .i64 0, .int .i64 0, .int .i64 0, .int .i64 0] 26))) := (((Ext.refl w).alloc _).alloc _).alloc _
  go_enter Try.func8, Try.ntmps8
  go_upto_region 1 with fail
  generalize (((w.alloc (.cells #[.bool on, .int .i64 x, .int .i64 y, .int .i64 z, .int .i64 s, .int .i64 p] 26)).alloc (.cells #[.int .i64 v0, .int .i64 v1, .int .i64 v2] 24)).alloc (.cells #[.bool false, .int .i64 0, .int .i64 0, .int .i64 0, .int .i64 0, .int .i64 0] 26)) = wa at *
  have qt0 : wa.cell? ⟨w.heap.size, 0, none⟩ = some (.bool on) := Ft.out.c 0 rfl
  have qt1 : wa.cell? ⟨w.heap.size, 1, none⟩ = some (.int .i64 x) := Ft.out.c 1 rfl
  have qt2 : wa.cell? ⟨w.heap.size, 2, none⟩ = some (.int .i64 y) := Ft.out.c 2 rfl
  have qt3 : wa.cell? ⟨w.heap.size, 3, none⟩ = some (.int .i64 z) := Ft.out.c 3 rfl
  have qt4 : wa.cell? ⟨w.heap.size, 4, none⟩ = some (.int .i64 s) := Ft.out.c 4 rfl
  have qt5 : wa.cell? ⟨w.heap.size, 5, none⟩ = some (.int .i64 p) := Ft.out.c 5 rfl
  go_upto_region 2 with (first | (go_at_call 16; refine (HI.out _).mono ?_; rintro e w1 ⟨rfl, x1⟩; have a0 : w1.cell? ⟨(w.heap.size + 1), 0, none⟩ = some (.int .i64 v0) := (Fv.out.ext x1).c 0 rfl; have a1 : w1.cell? ⟨(w.heap.size + 1), 1, none⟩ = some (.int .i64 v1) := (Fv.out.ext x1).c 1 rfl; have a2 : w1.cell? ⟨(w.heap.size + 1), 2, none⟩ = some (.int .i64 v2) := (Fv.out.ext x1).c 2 rfl) | (go_at_call 17; refine (HC.out _).mono ?_; rintro e w2 ⟨rfl, x2⟩; have b4 : w2.cell? ⟨w.heap.size, 4, none⟩ = some (.int .i64 s) := (Ft.out.ext (x1.trans x2)).c 4 rfl; have b5 : w2.cell? ⟨w.heap.size, 5, none⟩ = some (.int .i64 p) := (Ft.out.ext (x1.trans x2)).c 5 rfl) | (go_at_call 18; refine (HT.out _).mono ?_; rintro e wx ⟨rfl, hwx⟩; have hwy := hwx.symm; clear hwx; subst hwy))
  have Ft : Hid (HV w2 w.heap.size [.bool on, .int .i64 x, .int .i64 y, .int .i64 z, .int .i64 s, .int .i64 p]) := Ft.out.ext (x1.trans x2)
  have Fv : Hid (HV w2 (w.heap.size + 1) [.int .i64 v0, .int .i64 v1, .int .i64 v2]) := Fv.out.ext (x1.trans x2)
  have Fu : Hid (HV w2 (w.heap.size + 2) [.bool false, .int .i64 0, .int .i64 0, .int .i64 0, .int .i64 0, .int .i64 0]) := Fu.out.ext (x1.trans x2)
  have FX : Hid (Ext w w2) := FX.out.trans (x1.trans x2)
  clear qt0 qt1 qt2 qt3 qt4 qt5 a0 a1 a2 HI HC HT b4 b5
  clear x1 x2
  have o0 : w2.cell? ⟨(w.heap.size + 2), 0, none⟩ = some (.bool false) := Fu.out.c 0 rfl
  have z0 : w2.frozen? ⟨(w.heap.size + 2), 0, none⟩ = false := Fu.out.f 0 rfl
  have o1 : w2.cell? ⟨(w.heap.size + 2), 1, none⟩ = some (.int .i64 0) := Fu.out.c 1 rfl
  have z1 : w2.frozen? ⟨(w.heap.size + 2), 1, none⟩ = false := Fu.out.f 1 rfl
  have o2 : w2.cell? ⟨(w.heap.size + 2), 2, none⟩ = some (.int .i64 0) := Fu.out.c 2 rfl
  have z2 : w2.frozen? ⟨(w.heap.size + 2), 2, none⟩ = false := Fu.out.f 2 rfl
  have o3 : w2.cell? ⟨(w.heap.size + 2), 3, none⟩ = some (.int .i64 0) := Fu.out.c 3 rfl
  have z3 : w2.frozen? ⟨(w.heap.size + 2), 3, none⟩ = false := Fu.out.f 3 rfl
  have o4 : w2.cell? ⟨(w.heap.size + 2), 4, none⟩ = some (.int .i64 0) := Fu.out.c 4 rfl
  have z4 : w2.frozen? ⟨(w.heap.size + 2), 4, none⟩ = false := Fu.out.f 4 rfl
  have o5 : w2.cell? ⟨(w.heap.size + 2), 5, none⟩ = some (.int .i64 0) := Fu.out.c 5 rfl
  have z5 : w2.frozen? ⟨(w.heap.size + 2), 5, none⟩ = false := Fu.out.f 5 rfl
  go_wp2_with fail
  refine bodyPost_ret (v := .tuple #[.agg #[.bool false, .int .i64 0, .int .i64 0, .int .i64 0, .int .i64 0, .int .i64 0], .int .i64 0, .int .i64 1]) (by simp [results, Try.results8, go_sem, *]) rfl ⟨rfl, ?_⟩
  exact (Ext.set (Ext.set (Ext.set (Ext.set (Ext.set (Ext.set FX.out Lu.out _) Lu.out _) Lu.out _) Lu.out _) Lu.out _) Lu.out _)
set_option maxRecDepth 20000 in
set_option maxHeartbeats 16000000 in
theorem take_off (v0 v1 v2 n : Int) (w : World) (h2 : ok3 v0 v1 v2 = true) (h3 : okTm n = true) : Calls Try.prog 8 #[.agg #[.bool false, .int .i64 0, .int .i64 0, .int .i64 0, .int .i64 0, .int .i64 0], .agg #[.int .i64 v0, .int .i64 v1, .int .i64 v2], .int .i64 n] w fun e w' => e = .returned (.tuple #[.agg #[.bool true, .int .i64 v0, .int .i64 v1, .int .i64 v2, .int .i64 0, .int .i64 0], .int .i64 0, .int .i64 0]) ∧ Ext w w' := by
  have h1 : okTp false 0 0 0 0 0 = true := by kernel_rfl
  have HI : Hid (∀ w, Calls Try.prog 16 #[.agg #[.bool false, .int .i64 0, .int .i64 0, .int .i64 0, .int .i64 0, .int .i64 0]] w fun e w' => e = .returned (.bool (okTp false 0 0 0 0 0)) ∧ Ext w w') := istap_any false 0 0 0 0 0
  have HC : Hid (∀ w, Calls Try.prog 17 #[.agg #[.int .i64 v0, .int .i64 v1, .int .i64 v2]] w fun e w' => e = .returned (.int .i64 (chk3 v0 v1 v2)) ∧ Ext w w') := vCheck_any v0 v1 v2
  have HT : Hid (∀ w, Calls Try.prog 18 #[.int .i64 n] w fun e w' => e = .returned (.bool (okTm n)) ∧ w' = w) := istime_any n
  obtain ⟨n1, n2⟩ := okTm_iff.1 h3
  have en : wrap64 (n + 1) = n + 1 := neg_wrap64 (by omega) (by omega)
  have h5 : decide (n + 1 < 0) = false := by simp; omega
  clear n1 n2
  rw [h1] at HI
  have hc3 : chk3 v0 v1 v2 = 0 := by unfold chk3; rw [h2]; rfl
  rw [hc3] at HC
  clear hc3
  rw [h3] at HT
  clear h1 h2 h3
  have Ft : Hid (HV (((w.alloc (.cells #[.bool false, .int .i64 0, .int .i64 0, .int .i64 0, .int .i64 0, .int .i64 0] 26)).alloc (.cells #[.int .i64 v0, .int .i64 v1, .int .i64 v2] 24)).alloc (.cells #[.bool false, .int .i64 0, .int .i64 0, .int .i64 0, .int .i64 0, .int .i64 0] 26)) w.heap.size [.bool false, .int .i64 0, .int .i64 0, .int .i64 0, .int .i64 0, .int .i64 0]) := ((hv_at rfl).alloc _).alloc _
  have Fv : Hid (HV (((w.alloc (.cells #[.bool false, .int .i64 0, .int .i64 0, .int .i64 0, .int .i64 0, .int .i64 0] 26)).alloc (.cells #[.int .i64 v0, .int .i64 v1, .int .i64 v2] 24)).alloc (.cells #[.bool false, .int .i64 0, .int .i64 0, .int .i64 0, .int .i64 0, .int .i64 0] 26)) (w.heap.size + 1) [.int .i64 v0, .int .i64 v1, .int .i64 v2]) := (hv_at (by simp)).alloc _
  have Fu : Hid (HV (((w.alloc (.cells #[.bool false, .int .i64 0, .int .i64 0, .int .i64 0, .int .i64 0, .int .i64 0] 26)).alloc (.cells #[.int .i64 v0, .int .i64 v1, .int .i64 v2] 24)).alloc (.cells #[.bool false, .int .i64 0, .int .i64 0, .int .i64 0, .int .i64 0, .int .i64 0] 26)) (w.heap.size + 2) [.bool false, .int .i64 0, .int .i64 0, .int .i64 0, .int .i64 0, .int .i64 0]) := hv_at (by simp)
  have Lu : Hid (w.heap.size ≤ w.heap.size + 2) := Nat.le_add_right _ _
  have FX : Hid (Ext w (((w.alloc (.cells #[.bool false, .int .i64 0, .int .i64 0, .int .i64 0, .int .i64 0, .int .i64 0] 26)).alloc (.cells #[.int .i64 v0, .int .i64 v1, .int .i64 v2] 24)).alloc (.cells #[.bool false, .int .i64 0, .int .i64 0, .int .i64 0, .int .i64 0, .int .i64 0] 26))) := (((Ext.refl w).alloc _).alloc _).alloc _
  go_enter Try.func8, Try.ntmps8
  go_upto_region 1 with fail
  generalize (((w.alloc (.cells #[.bool false, .int .i64 0, .int .i64 0, .int .i64 0, .int .i64 0, .int .i64 0] 26)).alloc (.cells #[.int .i64 v0, .int .i64 v1, .int .i64 v2] 24)).alloc (.cells #[.bool false, .int .i64 0, .int .i64 0, .int .i64 0, .int .i64 0, .int .i64 0] 26)) = wa at *
  have qt0 : wa.cell? ⟨w.heap.size, 0, none⟩ = some (.bool false) := Ft.out.c 0 rfl
  have qt1 : wa.cell? ⟨w.heap.size, 1, none⟩ = some (.int .i64 0) := Ft.out.c 1 rfl
  have qt2 : wa.cell? ⟨w.heap.size, 2, none⟩ = some (.int .i64 0) := Ft.out.c 2 rfl
  have qt3 : wa.cell? ⟨w.heap.size, 3, none⟩ = some (.int .i64 0) := Ft.out.c 3 rfl
  have qt4 : wa.cell? ⟨w.heap.size, 4, none⟩ = some (.int .i64 0) := Ft.out.c 4 rfl
  have qt5 : wa.cell? ⟨w.heap.size, 5, none⟩ = some (.int .i64 0) := Ft.out.c 5 rfl
  go_upto_region 3 with (first | (go_at_call 16; refine (HI.out _).mono ?_; rintro e w1 ⟨rfl, x1⟩; have a0 : w1.cell? ⟨(w.heap.size + 1), 0, none⟩ = some (.int .i64 v0) := (Fv.out.ext x1).c 0 rfl; have a1 : w1.cell? ⟨(w.heap.size + 1), 1, none⟩ = some (.int .i64 v1) := (Fv.out.ext x1).c 1 rfl; have a2 : w1.cell? ⟨(w.heap.size + 1), 2, none⟩ = some (.int .i64 v2) := (Fv.out.ext x1).c 2 rfl) | (go_at_call 17; refine (HC.out _).mono ?_; rintro e w2 ⟨rfl, x2⟩; have b4 : w2.cell? ⟨w.heap.size, 4, none⟩ = some (.int .i64 0) := (Ft.out.ext (x1.trans x2)).c 4 rfl; have b5 : w2.cell? ⟨w.heap.size, 5, none⟩ = some (.int .i64 0) := (Ft.out.ext (x1.trans x2)).c 5 rfl) | (go_at_call 18; refine (HT.out _).mono ?_; rintro e wx ⟨rfl, hwx⟩; have hwy := hwx.symm; clear hwx; subst hwy))
  have Ft : Hid (HV w2 w.heap.size [.bool false, .int .i64 0, .int .i64 0, .int .i64 0, .int .i64 0, .int .i64 0]) := Ft.out.ext (x1.trans x2)
  have Fv : Hid (HV w2 (w.heap.size + 1) [.int .i64 v0, .int .i64 v1, .int .i64 v2]) := Fv.out.ext (x1.trans x2)
  have Fu : Hid (HV w2 (w.heap.size + 2) [.bool false, .int .i64 0, .int .i64 0, .int .i64 0, .int .i64 0, .int .i64 0]) := Fu.out.ext (x1.trans x2)
  have FX : Hid (Ext w w2) := FX.out.trans (x1.trans x2)
  clear qt0 qt1 qt2 qt3 qt4 qt5 a0 a1 a2 HI HC HT b4 b5
  clear x1 x2
  have qt0 : w2.cell? ⟨w.heap.size, 0, none⟩ = some (.bool false) := Ft.out.c 0 rfl
  have qv0 : w2.cell? ⟨(w.heap.size + 1), 0, none⟩ = some (.int .i64 v0) := Fv.out.c 0 rfl
  have qv1 : w2.cell? ⟨(w.heap.size + 1), 1, none⟩ = some (.int .i64 v1) := Fv.out.c 1 rfl
  have qv2 : w2.cell? ⟨(w.heap.size + 1), 2, none⟩ = some (.int .i64 v2) := Fv.out.c 2 rfl
  have o0 : w2.cell? ⟨(w.heap.size + 2), 0, none⟩ = some (.bool false) := Fu.out.c 0 rfl
  have z0 : w2.frozen? ⟨(w.heap.size + 2), 0, none⟩ = false := Fu.out.f 0 rfl
  have o1 : w2.cell? ⟨(w.heap.size + 2), 1, none⟩ = some (.int .i64 0) := Fu.out.c 1 rfl
  have z1 : w2.frozen? ⟨(w.heap.size + 2), 1, none⟩ = false := Fu.out.f 1 rfl
  have o2 : w2.cell? ⟨(w.heap.size + 2), 2, none⟩ = some (.int .i64 0) := Fu.out.c 2 rfl
  have z2 : w2.frozen? ⟨(w.heap.size + 2), 2, none⟩ = false := Fu.out.f 2 rfl
  have o3 : w2.cell? ⟨(w.heap.size + 2), 3, none⟩ = some (.int .i64 0) := Fu.out.c 3 rfl
  have z3 : w2.frozen? ⟨(w.heap.size + 2), 3, none⟩ = false := Fu.out.f 3 rfl
  have o4 : w2.cell? ⟨(w.heap.size + 2), 4, none⟩ = some (.int .i64 0) := Fu.out.c 4 rfl
  have z4 : w2.frozen? ⟨(w.heap.size + 2), 4, none⟩ = false := Fu.out.f 4 rfl
  have o5 : w2.cell? ⟨(w.heap.size + 2), 5, none⟩ = some (.int .i64 0) := Fu.out.c 5 rfl
  have z5 : w2.frozen? ⟨(w.heap.size + 2), 5, none⟩ = false := Fu.out.f 5 rfl
  go_wp2_with fail
  refine bodyPost_ret (v := .tuple #[.agg #[.bool true, .int .i64 v0, .int .i64 v1, .int .i64 v2, .int .i64 0, .int .i64 0], .int .i64 0, .int .i64 0]) (by simp [results, Try.results8, go_sem, *]) rfl ⟨rfl, ?_⟩
  exact (Ext.set (Ext.set (Ext.set (Ext.set (Ext.set (Ext.set FX.out Lu.out _) Lu.out _) Lu.out _) Lu.out _) Lu.out _) Lu.out _)
set_option maxRecDepth 20000 in
set_option maxHeartbeats 16000000 in
theorem take_far (x y z s p v0 v1 v2 n : Int) (w : World) (h1 : okTp true x y z s p = true) (h2 : ok3 v0 v1 v2 = true) (h3 : okTm n = true) (h4 : s ≤ n + 1) (h6 : p ≤ n + 1) (HA : Hid (∀ w, Calls Try.prog 19 #[.agg #[.int .i64 v0, .int .i64 v1, .int .i64 v2], .agg #[.int .i64 x, .int .i64 y, .int .i64 z]] w fun e w' => e = .returned (.tuple #[.int .i64 0, .int .i64 2]) ∧ Ext w w')) : Calls Try.prog 8 #[.agg #[.bool true, .int .i64 x, .int .i64 y, .int .i64 z, .int .i64 s, .int .i64 p], .agg #[.int .i64 v0, .int .i64 v1, .int .i64 v2], .int .i64 n] w fun e w' => e = .returned (.tuple #[.agg #[.bool false, .int .i64 0, .int .i64 0, .int .i64 0, .int .i64 0, .int .i64 0], .int .i64 0, .int .i64 2]) ∧ Ext w w' := by
  have HI : Hid (∀ w, Calls Try.prog 16 #[.agg #[.bool true, .int .i64 x, .int .i64 y, .int .i64 z, .int .i64 s, .int .i64 p]] w fun e w' => e = .returned (.bool (okTp true x y z s p)) ∧ Ext w w') := istap_any true x y z s p
  have HC : Hid (∀ w, Calls Try.prog 17 #[.agg #[.int .i64 v0, .int .i64 v1, .int .i64 v2]] w fun e w' => e = .returned (.int .i64 (chk3 v0 v1 v2)) ∧ Ext w w') := vCheck_any v0 v1 v2
  have HT : Hid (∀ w, Calls Try.prog 18 #[.int .i64 n] w fun e w' => e = .returned (.bool (okTm n)) ∧ w' = w) := istime_any n
  obtain ⟨n1, n2⟩ := okTm_iff.1 h3
  have en : wrap64 (n + 1) = n + 1 := neg_wrap64 (by omega) (by omega)
  have h5 : decide (n + 1 < max s p) = false := by simp; omega
  clear n1 n2 h4 h6
  rw [h1] at HI
  have hc3 : chk3 v0 v1 v2 = 0 := by unfold chk3; rw [h2]; rfl
  rw [hc3] at HC
  clear hc3
  rw [h3] at HT
  clear h1 h2 h3
  have Ft : Hid (HV (((w.alloc (.cells #[.bool true, .int .i64 x, .int .i64 y, .int .i64 z, .int .i64 s, .int .i64 p] 26)).alloc (.cells #[.int .i64 v0, .int .i64 v1, .int .i64 v2] 24)).alloc (.cells #[.bool false, .int .i64 0, .int .i64 0, .int .i64 0, .int .i64 0, .int .i64 0] 26)) w.heap.size [.bool true, .int .i64 x, .int .i64 y, .int .i64 z, .int .i64 s, .int .i64 p]) := ((hv_at rfl).alloc _).alloc _
  have Fv : Hid (HV (((w.alloc (.cells #[.bool true, .int .i64 x, .int .i64 y, .int .i64 z, .int .i64 s, .int .i64 p] 26)).alloc (.cells #[.int .i64 v0, .int .i64 v1, .int .i64 v2] 24)).alloc (.cells #[.bool false, .int .i64 0, .int .i64 0, .int .i64 0, .int .i64 0, .int .i64 0] 26)) (w.heap.size + 1) [.int .i64 v0, .int .i64 v1, .int .i64 v2]) := (hv_at (by simp)).alloc _
  have Fu : Hid (HV (((w.alloc (.cells #[.bool true, .int .i64 x, .int .i64 y, .int .i64 z, .int .i64 s, .int .i64 p] 26)).alloc (.cells #[.int .i64 v0, .int .i64 v1, .int .i64 v2] 24)).alloc (.cells #[.bool false, .int .i64 0, .int .i64 0, .int .i64 0, .int .i64 0, .int .i64 0] 26)) (w.heap.size + 2) [.bool false, .int .i64 0, .int .i64 0, .int .i64 0, .int .i64 0, .int .i64 0]) := hv_at (by simp)
  have Lu : Hid (w.heap.size ≤ w.heap.size + 2) := Nat.le_add_right _ _
  have FX : Hid (Ext w (((w.alloc (.cells #[.bool true, .int .i64 x, .int .i64 y, .int .i64 z, .int .i64 s, .int .i64 p] 26)).alloc (.cells #[.int .i64 v0, .int .i64 v1, .int .i64 v2] 24)).alloc (.cells #[.bool false, .int .i64 0, .int .i64 0, .int .i64 0, .int .i64 0, .int .i64 0] 26))) := (((Ext.refl w).alloc _).alloc _).alloc _
  go_enter Try.func8, Try.ntmps8
  go_upto_region 1 with fail
  generalize (((w.alloc (.cells #[.bool true, .int .i64 x, .int .i64 y, .int .i64 z, .int .i64 s, .int .i64 p] 26)).alloc (.cells #[.int .i64 v0, .int .i64 v1, .int .i64 v2] 24)).alloc (.cells #[.bool false, .int .i64 0, .int .i64 0, .int .i64 0, .int .i64 0, .int .i64 0] 26)) = wa at *
  have qt0 : wa.cell? ⟨w.heap.size, 0, none⟩ = some (.bool true) := Ft.out.c 0 rfl
  have qt1 : wa.cell? ⟨w.heap.size, 1, none⟩ = some (.int .i64 x) := Ft.out.c 1 rfl
  have qt2 : wa.cell? ⟨w.heap.size, 2, none⟩ = some (.int .i64 y) := Ft.out.c 2 rfl
  have qt3 : wa.cell? ⟨w.heap.size, 3, none⟩ = some (.int .i64 z) := Ft.out.c 3 rfl
  have qt4 : wa.cell? ⟨w.heap.size, 4, none⟩ = some (.int .i64 s) := Ft.out.c 4 rfl
  have qt5 : wa.cell? ⟨w.heap.size, 5, none⟩ = some (.int .i64 p) := Ft.out.c 5 rfl
  go_upto_region 3 with (first | (go_at_call 16; refine (HI.out _).mono ?_; rintro e w1 ⟨rfl, x1⟩; have a0 : w1.cell? ⟨(w.heap.size + 1), 0, none⟩ = some (.int .i64 v0) := (Fv.out.ext x1).c 0 rfl; have a1 : w1.cell? ⟨(w.heap.size + 1), 1, none⟩ = some (.int .i64 v1) := (Fv.out.ext x1).c 1 rfl; have a2 : w1.cell? ⟨(w.heap.size + 1), 2, none⟩ = some (.int .i64 v2) := (Fv.out.ext x1).c 2 rfl) | (go_at_call 17; refine (HC.out _).mono ?_; rintro e w2 ⟨rfl, x2⟩; have b4 : w2.cell? ⟨w.heap.size, 4, none⟩ = some (.int .i64 s) := (Ft.out.ext (x1.trans x2)).c 4 rfl; have b5 : w2.cell? ⟨w.heap.size, 5, none⟩ = some (.int .i64 p) := (Ft.out.ext (x1.trans x2)).c 5 rfl) | (go_at_call 18; refine (HT.out _).mono ?_; rintro e wx ⟨rfl, hwx⟩; have hwy := hwx.symm; clear hwx; subst hwy))
  have Ft : Hid (HV w2 w.heap.size [.bool true, .int .i64 x, .int .i64 y, .int .i64 z, .int .i64 s, .int .i64 p]) := Ft.out.ext (x1.trans x2)
  have Fv : Hid (HV w2 (w.heap.size + 1) [.int .i64 v0, .int .i64 v1, .int .i64 v2]) := Fv.out.ext (x1.trans x2)
  have Fu : Hid (HV w2 (w.heap.size + 2) [.bool false, .int .i64 0, .int .i64 0, .int .i64 0, .int .i64 0, .int .i64 0]) := Fu.out.ext (x1.trans x2)
  have FX : Hid (Ext w w2) := FX.out.trans (x1.trans x2)
  clear qt0 qt1 qt2 qt3 qt4 qt5 a0 a1 a2 HI HC HT b4 b5
  clear x1 x2
  have qt0 : w2.cell? ⟨w.heap.size, 0, none⟩ = some (.bool true) := Ft.out.c 0 rfl
  go_upto_region 5 with fail
  clear qt0
  have qt1 : w2.cell? ⟨w.heap.size, 1, none⟩ = some (.int .i64 x) := Ft.out.c 1 rfl
  have qt2 : w2.cell? ⟨w.heap.size, 2, none⟩ = some (.int .i64 y) := Ft.out.c 2 rfl
  have qt3 : w2.cell? ⟨w.heap.size, 3, none⟩ = some (.int .i64 z) := Ft.out.c 3 rfl
  have qv0 : w2.cell? ⟨(w.heap.size + 1), 0, none⟩ = some (.int .i64 v0) := Fv.out.c 0 rfl
  have qv1 : w2.cell? ⟨(w.heap.size + 1), 1, none⟩ = some (.int .i64 v1) := Fv.out.c 1 rfl
  have qv2 : w2.cell? ⟨(w.heap.size + 1), 2, none⟩ = some (.int .i64 v2) := Fv.out.c 2 rfl
  go_upto_region 6 with (first | (go_at_call 19; refine (HA.out _).mono ?_; rintro e w3 ⟨rfl, x3⟩))
  have Ft : Hid (HV w3 w.heap.size [.bool true, .int .i64 x, .int .i64 y, .int .i64 z, .int .i64 s, .int .i64 p]) := Ft.out.ext x3
  have Fv : Hid (HV w3 (w.heap.size + 1) [.int .i64 v0, .int .i64 v1, .int .i64 v2]) := Fv.out.ext x3
  have Fu : Hid (HV w3 (w.heap.size + 2) [.bool false, .int .i64 0, .int .i64 0, .int .i64 0, .int .i64 0, .int .i64 0]) := Fu.out.ext x3
  have FX : Hid (Ext w w3) := FX.out.trans x3
  clear qt1 qt2 qt3 qv0 qv1 qv2 x3 HA
  have o0 : w3.cell? ⟨(w.heap.size + 2), 0, none⟩ = some (.bool false) := Fu.out.c 0 rfl
  have z0 : w3.frozen? ⟨(w.heap.size + 2), 0, none⟩ = false := Fu.out.f 0 rfl
  have o1 : w3.cell? ⟨(w.heap.size + 2), 1, none⟩ = some (.int .i64 0) := Fu.out.c 1 rfl
  have z1 : w3.frozen? ⟨(w.heap.size + 2), 1, none⟩ = false := Fu.out.f 1 rfl
  have o2 : w3.cell? ⟨(w.heap.size + 2), 2, none⟩ = some (.int .i64 0) := Fu.out.c 2 rfl
  have z2 : w3.frozen? ⟨(w.heap.size + 2), 2, none⟩ = false := Fu.out.f 2 rfl
  have o3 : w3.cell? ⟨(w.heap.size + 2), 3, none⟩ = some (.int .i64 0) := Fu.out.c 3 rfl
  have z3 : w3.frozen? ⟨(w.heap.size + 2), 3, none⟩ = false := Fu.out.f 3 rfl
  have o4 : w3.cell? ⟨(w.heap.size + 2), 4, none⟩ = some (.int .i64 0) := Fu.out.c 4 rfl
  have z4 : w3.frozen? ⟨(w.heap.size + 2), 4, none⟩ = false := Fu.out.f 4 rfl
  have o5 : w3.cell? ⟨(w.heap.size + 2), 5, none⟩ = some (.int .i64 0) := Fu.out.c 5 rfl
  have z5 : w3.frozen? ⟨(w.heap.size + 2), 5, none⟩ = false := Fu.out.f 5 rfl
  go_wp2_with fail
  refine bodyPost_ret (v := .tuple #[.agg #[.bool false, .int .i64 0, .int .i64 0, .int .i64 0, .int .i64 0, .int .i64 0], .int .i64 0, .int .i64 2]) (by simp [results, Try.results8, go_sem, *]) rfl ⟨rfl, ?_⟩
  exact (Ext.set (Ext.set (Ext.set (Ext.set (Ext.set (Ext.set FX.out Lu.out _) Lu.out _) Lu.out _) Lu.out _) Lu.out _) Lu.out _)
set_option maxRecDepth 20000 in
set_option maxHeartbeats 16000000 in
theorem take_near (x y z s p v0 v1 v2 n j : Int) (w : World) (h1 : okTp true x y z s p = true) (h2 : ok3 v0 v1 v2 = true) (h3 : okTm n = true) (h4 : s ≤ n + 1) (h6 : p ≤ n + 1) (HA : Hid (∀ w, Calls Try.prog 19 #[.agg #[.int .i64 v0, .int .i64 v1, .int .i64 v2], .agg #[.int .i64 x, .int .i64 y, .int .i64 z]] w fun e w' => e = .returned (.tuple #[.int .i64 j, .int .i64 0]) ∧ Ext w w')) : Calls Try.prog 8 #[.agg #[.bool true, .int .i64 x, .int .i64 y, .int .i64 z, .int .i64 s, .int .i64 p], .agg #[.int .i64 v0, .int .i64 v1, .int .i64 v2], .int .i64 n] w fun e w' => e = .returned (.tuple #[.agg #[.bool true, .int .i64 v0, .int .i64 v1, .int .i64 v2, .int .i64 (rwS (phs s p j (n + 1)) s (n + 1)), .int .i64 (rwP (phs s p j (n + 1)) p (n + 1))], .int .i64 (rwK (phs s p j (n + 1))), .int .i64 0]) ∧ Ext w w' := by
  have HI : Hid (∀ w, Calls Try.prog 16 #[.agg #[.bool true, .int .i64 x, .int .i64 y, .int .i64 z, .int .i64 s, .int .i64 p]] w fun e w' => e = .returned (.bool (okTp true x y z s p)) ∧ Ext w w') := istap_any true x y z s p
  have HC : Hid (∀ w, Calls Try.prog 17 #[.agg #[.int .i64 v0, .int .i64 v1, .int .i64 v2]] w fun e w' => e = .returned (.int .i64 (chk3 v0 v1 v2)) ∧ Ext w w') := vCheck_any v0 v1 v2
  have HT : Hid (∀ w, Calls Try.prog 18 #[.int .i64 n] w fun e w' => e = .returned (.bool (okTm n)) ∧ w' = w) := istime_any n
  obtain ⟨n1, n2⟩ := okTm_iff.1 h3
  have en : wrap64 (n + 1) = n + 1 := neg_wrap64 (by omega) (by omega)
  have h5 : decide (n + 1 < max s p) = false := by simp; omega
  have HP : Hid (∀ w, Calls Try.prog 22 #[.agg #[.bool true, .int .i64 x, .int .i64 y, .int .i64 z, .int .i64 s, .int .i64 p], .int .i64 j, .int .i64 (n + 1)] w fun e w' => e = .returned (.int .i64 (phs s p j (n + 1))) ∧ Ext w w') := fun w => phase_any true x y z s p j (n + 1) w (okMk_iff.2 (okTp_parts h1).2.1) (okMk_iff.2 (okTp_parts h1).2.2) (okMk_iff.2 (by omega))
  have HR : Hid (∀ w, Calls Try.prog 20 #[.agg #[.bool true, .int .i64 x, .int .i64 y, .int .i64 z, .int .i64 s, .int .i64 p], .int .i64 (n + 1)] w fun e w' => ∃ b, e = .returned (.slice (some ⟨b, 0, none⟩) 6 6) ∧ Hid (TR w' b s p (n + 1)) ∧ Ext w w') := fun w => (rows_any true x y z s p (n + 1) w).mono fun e w' ⟨b, h1, h2, h3⟩ => ⟨b, h1, h2, h3⟩
  have HQ : Hid (∀ b w, TR w b s p (n + 1) → Calls Try.prog 21 #[.slice (some ⟨b, 0, none⟩) 6 6, .int .i64 (phs s p j (n + 1))] w fun e w' => e = .returned (.tuple #[.agg #[.int .i64 (rwK (phs s p j (n + 1))), .int .i64 (rwS (phs s p j (n + 1)) s (n + 1)), .int .i64 (rwP (phs s p j (n + 1)) p (n + 1))], .bool true]) ∧ Ext w w') := fun b w h => attap_any (phs s p j (n + 1)) (phs_lt _ _ _ _) b s p (n + 1) w h
  clear n1 n2 h4 h6
  rw [h1] at HI
  have hc3 : chk3 v0 v1 v2 = 0 := by unfold chk3; rw [h2]; rfl
  rw [hc3] at HC
  clear hc3
  rw [h3] at HT
  clear h1 h2 h3
  generalize rwK (phs s p j (n + 1)) = r0 at *
  generalize rwS (phs s p j (n + 1)) s (n + 1) = r1 at *
  generalize rwP (phs s p j (n + 1)) p (n + 1) = r2 at *
  generalize ((phs s p j (n + 1) : Nat) : Int) = ph at *
  have Ft : Hid (HV (((w.alloc (.cells #[.bool true, .int .i64 x, .int .i64 y, .int .i64 z, .int .i64 s, .int .i64 p] 26)).alloc (.cells #[.int .i64 v0, .int .i64 v1, .int .i64 v2] 24)).alloc (.cells #[.bool false, .int .i64 0, .int .i64 0, .int .i64 0, .int .i64 0, .int .i64 0] 26)) w.heap.size [.bool true, .int .i64 x, .int .i64 y, .int .i64 z, .int .i64 s, .int .i64 p]) := ((hv_at rfl).alloc _).alloc _
  have Fv : Hid (HV (((w.alloc (.cells #[.bool true, .int .i64 x, .int .i64 y, .int .i64 z, .int .i64 s, .int .i64 p] 26)).alloc (.cells #[.int .i64 v0, .int .i64 v1, .int .i64 v2] 24)).alloc (.cells #[.bool false, .int .i64 0, .int .i64 0, .int .i64 0, .int .i64 0, .int .i64 0] 26)) (w.heap.size + 1) [.int .i64 v0, .int .i64 v1, .int .i64 v2]) := (hv_at (by simp)).alloc _
  have Fu : Hid (HV (((w.alloc (.cells #[.bool true, .int .i64 x, .int .i64 y, .int .i64 z, .int .i64 s, .int .i64 p] 26)).alloc (.cells #[.int .i64 v0, .int .i64 v1, .int .i64 v2] 24)).alloc (.cells #[.bool false, .int .i64 0, .int .i64 0, .int .i64 0, .int .i64 0, .int .i64 0] 26)) (w.heap.size + 2) [.bool false, .int .i64 0, .int .i64 0, .int .i64 0, .int .i64 0, .int .i64 0]) := hv_at (by simp)
  have Lu : Hid (w.heap.size ≤ w.heap.size + 2) := Nat.le_add_right _ _
  have FX : Hid (Ext w (((w.alloc (.cells #[.bool true, .int .i64 x, .int .i64 y, .int .i64 z, .int .i64 s, .int .i64 p] 26)).alloc (.cells #[.int .i64 v0, .int .i64 v1, .int .i64 v2] 24)).alloc (.cells #[.bool false, .int .i64 0, .int .i64 0, .int .i64 0, .int .i64 0, .int .i64 0] 26))) := (((Ext.refl w).alloc _).alloc _).alloc _
  go_enter Try.func8, Try.ntmps8
  go_upto_region 1 with fail
  generalize (((w.alloc (.cells #[.bool true, .int .i64 x, .int .i64 y, .int .i64 z, .int .i64 s, .int .i64 p] 26)).alloc (.cells #[.int .i64 v0, .int .i64 v1, .int .i64 v2] 24)).alloc (.cells #[.bool false, .int .i64 0, .int .i64 0, .int .i64 0, .int .i64 0, .int .i64 0] 26)) = wa at *
  have qt0 : wa.cell? ⟨w.heap.size, 0, none⟩ = some (.bool true) := Ft.out.c 0 rfl
  have qt1 : wa.cell? ⟨w.heap.size, 1, none⟩ = some (.int .i64 x) := Ft.out.c 1 rfl
  have qt2 : wa.cell? ⟨w.heap.size, 2, none⟩ = some (.int .i64 y) := Ft.out.c 2 rfl
  have qt3 : wa.cell? ⟨w.heap.size, 3, none⟩ = some (.int .i64 z) := Ft.out.c 3 rfl
  have qt4 : wa.cell? ⟨w.heap.size, 4, none⟩ = some (.int .i64 s) := Ft.out.c 4 rfl
  have qt5 : wa.cell? ⟨w.heap.size, 5, none⟩ = some (.int .i64 p) := Ft.out.c 5 rfl
  go_upto_region 3 with (first | (go_at_call 16; refine (HI.out _).mono ?_; rintro e w1 ⟨rfl, x1⟩; have a0 : w1.cell? ⟨(w.heap.size + 1), 0, none⟩ = some (.int .i64 v0) := (Fv.out.ext x1).c 0 rfl; have a1 : w1.cell? ⟨(w.heap.size + 1), 1, none⟩ = some (.int .i64 v1) := (Fv.out.ext x1).c 1 rfl; have a2 : w1.cell? ⟨(w.heap.size + 1), 2, none⟩ = some (.int .i64 v2) := (Fv.out.ext x1).c 2 rfl) | (go_at_call 17; refine (HC.out _).mono ?_; rintro e w2 ⟨rfl, x2⟩; have b4 : w2.cell? ⟨w.heap.size, 4, none⟩ = some (.int .i64 s) := (Ft.out.ext (x1.trans x2)).c 4 rfl; have b5 : w2.cell? ⟨w.heap.size, 5, none⟩ = some (.int .i64 p) := (Ft.out.ext (x1.trans x2)).c 5 rfl) | (go_at_call 18; refine (HT.out _).mono ?_; rintro e wx ⟨rfl, hwx⟩; have hwy := hwx.symm; clear hwx; subst hwy))
  have Ft : Hid (HV w2 w.heap.size [.bool true, .int .i64 x, .int .i64 y, .int .i64 z, .int .i64 s, .int .i64 p]) := Ft.out.ext (x1.trans x2)
  have Fv : Hid (HV w2 (w.heap.size + 1) [.int .i64 v0, .int .i64 v1, .int .i64 v2]) := Fv.out.ext (x1.trans x2)
  have Fu : Hid (HV w2 (w.heap.size + 2) [.bool false, .int .i64 0, .int .i64 0, .int .i64 0, .int .i64 0, .int .i64 0]) := Fu.out.ext (x1.trans x2)
  have FX : Hid (Ext w w2) := FX.out.trans (x1.trans x2)
  clear qt0 qt1 qt2 qt3 qt4 qt5 a0 a1 a2 HI HC HT b4 b5
  clear x1 x2
  have qt0 : w2.cell? ⟨w.heap.size, 0, none⟩ = some (.bool true) := Ft.out.c 0 rfl
  go_upto_region 5 with fail
  clear qt0
  have qt1 : w2.cell? ⟨w.heap.size, 1, none⟩ = some (.int .i64 x) := Ft.out.c 1 rfl
  have qt2 : w2.cell? ⟨w.heap.size, 2, none⟩ = some (.int .i64 y) := Ft.out.c 2 rfl
  have qt3 : w2.cell? ⟨w.heap.size, 3, none⟩ = some (.int .i64 z) := Ft.out.c 3 rfl
  have qv0 : w2.cell? ⟨(w.heap.size + 1), 0, none⟩ = some (.int .i64 v0) := Fv.out.c 0 rfl
  have qv1 : w2.cell? ⟨(w.heap.size + 1), 1, none⟩ = some (.int .i64 v1) := Fv.out.c 1 rfl
  have qv2 : w2.cell? ⟨(w.heap.size + 1), 2, none⟩ = some (.int .i64 v2) := Fv.out.c 2 rfl
  go_upto_region 6 with (first | (go_at_call 19; refine (HA.out _).mono ?_; rintro e w3 ⟨rfl, x3⟩))
  have Ft : Hid (HV w3 w.heap.size [.bool true, .int .i64 x, .int .i64 y, .int .i64 z, .int .i64 s, .int .i64 p]) := Ft.out.ext x3
  have Fv : Hid (HV w3 (w.heap.size + 1) [.int .i64 v0, .int .i64 v1, .int .i64 v2]) := Fv.out.ext x3
  have Fu : Hid (HV w3 (w.heap.size + 2) [.bool false, .int .i64 0, .int .i64 0, .int .i64 0, .int .i64 0, .int .i64 0]) := Fu.out.ext x3
  have FX : Hid (Ext w w3) := FX.out.trans x3
  clear qt1 qt2 qt3 qv0 qv1 qv2 x3 HA
  go_upto_region 9 with fail
  rw [en]
  clear en h5
  go_cut [11, 12] (fun v11 v12 wx => ∃ g : Nat, v11 = .pointer (some ⟨g, 0, none⟩) ∧ v12 = .bool true ∧ Hid (w3.heap.size ≤ g) ∧ Hid (HV wx g [.int .i64 r0, .int .i64 r1, .int .i64 r2]) ∧ Hid (Ext w3 wx))
  case first =>
    have qt0 : w3.cell? ⟨w.heap.size, 0, none⟩ = some (.bool true) := Ft.out.c 0 rfl
    have qt1 : w3.cell? ⟨w.heap.size, 1, none⟩ = some (.int .i64 x) := Ft.out.c 1 rfl
    have qt2 : w3.cell? ⟨w.heap.size, 2, none⟩ = some (.int .i64 y) := Ft.out.c 2 rfl
    have qt3 : w3.cell? ⟨w.heap.size, 3, none⟩ = some (.int .i64 z) := Ft.out.c 3 rfl
    have qt4 : w3.cell? ⟨w.heap.size, 4, none⟩ = some (.int .i64 s) := Ft.out.c 4 rfl
    have qt5 : w3.cell? ⟨w.heap.size, 5, none⟩ = some (.int .i64 p) := Ft.out.c 5 rfl
    have bt : w.heap.size < w3.heap.size := Ft.out.1
    have mt1 := Nat.ne_of_lt bt
    have mt2 := Nat.ne_of_gt bt
    go_region_held3 (fun w' => w'.cell? ⟨w.heap.size, 0, none⟩ = some (.bool true) ∧ w'.cell? ⟨w.heap.size, 1, none⟩ = some (.int .i64 x) ∧ w'.cell? ⟨w.heap.size, 2, none⟩ = some (.int .i64 y) ∧ w'.cell? ⟨w.heap.size, 3, none⟩ = some (.int .i64 z) ∧ w'.cell? ⟨w.heap.size, 4, none⟩ = some (.int .i64 s) ∧ w'.cell? ⟨w.heap.size, 5, none⟩ = some (.int .i64 p)) (first | (go_keep; done) | (refine ⟨?_, ?_, ?_, ?_, ?_, ?_⟩ <;> (rw [World.cell?_setCell_far _ _ _ _ (by dsimp only; omega), World.cell?_setCell_far _ _ _ _ (by dsimp only; omega), World.cell?_setCell_far _ _ _ _ (by dsimp only; omega)]; with_reducible assumption)) | skip) (first | (go_at_call 20; refine (HR.out _).mono ?_; rintro e wz0 ⟨b0, rfl, T0, y0⟩; have Y0 : Ext w3 wz0 := Ext.trans (by repeat (first | with_reducible assumption | with_reducible exact Ext.refl _ | with_reducible refine Ext.drew ?_ | with_reducible refine Ext.drewN ?_ _ | with_reducible refine Ext.alloc ?_ _ | with_reducible refine Ext.set ?_ (by first | exact Nat.le_refl _ | (dsimp only; omega) | (simp; done)) _)) y0; have qt0u : wz0.cell? ⟨w.heap.size, 0, none⟩ = some (.bool true) := (Ft.out.ext Y0).c 0 rfl; have qt1u : wz0.cell? ⟨w.heap.size, 1, none⟩ = some (.int .i64 x) := (Ft.out.ext Y0).c 1 rfl; have qt2u : wz0.cell? ⟨w.heap.size, 2, none⟩ = some (.int .i64 y) := (Ft.out.ext Y0).c 2 rfl; have qt3u : wz0.cell? ⟨w.heap.size, 3, none⟩ = some (.int .i64 z) := (Ft.out.ext Y0).c 3 rfl; have qt4u : wz0.cell? ⟨w.heap.size, 4, none⟩ = some (.int .i64 s) := (Ft.out.ext Y0).c 4 rfl; have qt5u : wz0.cell? ⟨w.heap.size, 5, none⟩ = some (.int .i64 p) := (Ft.out.ext Y0).c 5 rfl; have btu : w.heap.size < wz0.heap.size := (Ft.out.ext Y0).1; have mt1u := Nat.ne_of_lt btu; have mt2u := Nat.ne_of_gt btu; (first | (have N : Hid (HV wz0 _ [.int .i64 0, .int .i64 0, .int .i64 0]) := N.out.ext y0) | (have N : Hid (HV wz0 _ [.int .i64 0, .int .i64 0, .int .i64 0]) := (hv_at rfl).ext y0) | (have N : Hid (HV wz0 _ [.int .i64 0, .int .i64 0, .int .i64 0]) := (HV.drew (hv_at rfl)).ext y0) | (have N : Hid (HV wz0 _ [.int .i64 0, .int .i64 0, .int .i64 0]) := (HV.alloc N.out _).ext y0) | skip)) | (go_at_call 22; refine (HP.out _).mono ?_; rintro e wz1 ⟨rfl, y1⟩; have Y1 : Ext w3 wz1 := Ext.trans (by repeat (first | with_reducible assumption | with_reducible exact Ext.refl _ | with_reducible refine Ext.drew ?_ | with_reducible refine Ext.drewN ?_ _ | with_reducible refine Ext.alloc ?_ _ | with_reducible refine Ext.set ?_ (by first | exact Nat.le_refl _ | (dsimp only; omega) | (simp; done)) _)) y1; have qt0u : wz1.cell? ⟨w.heap.size, 0, none⟩ = some (.bool true) := (Ft.out.ext Y1).c 0 rfl; have qt1u : wz1.cell? ⟨w.heap.size, 1, none⟩ = some (.int .i64 x) := (Ft.out.ext Y1).c 1 rfl; have qt2u : wz1.cell? ⟨w.heap.size, 2, none⟩ = some (.int .i64 y) := (Ft.out.ext Y1).c 2 rfl; have qt3u : wz1.cell? ⟨w.heap.size, 3, none⟩ = some (.int .i64 z) := (Ft.out.ext Y1).c 3 rfl; have qt4u : wz1.cell? ⟨w.heap.size, 4, none⟩ = some (.int .i64 s) := (Ft.out.ext Y1).c 4 rfl; have qt5u : wz1.cell? ⟨w.heap.size, 5, none⟩ = some (.int .i64 p) := (Ft.out.ext Y1).c 5 rfl; have btu : w.heap.size < wz1.heap.size := (Ft.out.ext Y1).1; have mt1u := Nat.ne_of_lt btu; have mt2u := Nat.ne_of_gt btu; (first | (have N : Hid (HV wz1 _ [.int .i64 0, .int .i64 0, .int .i64 0]) := N.out.ext y1) | (have N : Hid (HV wz1 _ [.int .i64 0, .int .i64 0, .int .i64 0]) := (hv_at rfl).ext y1) | (have N : Hid (HV wz1 _ [.int .i64 0, .int .i64 0, .int .i64 0]) := (HV.drew (hv_at rfl)).ext y1) | (have N : Hid (HV wz1 _ [.int .i64 0, .int .i64 0, .int .i64 0]) := (HV.alloc N.out _).ext y1) | skip); (first | (have T0 : Hid (TR wz1 _ s p (n + 1)) := T0.out.ext y1) | (have T0 : Hid (TR wz1 _ s p (n + 1)) := (T0.out.ext ((Ext.refl _).alloc _)).ext y1) | skip)) | (go_at_call 21; refine (HQ.out _ _ (by first | exact T0.out | exact T0.out.ext ((Ext.refl _).alloc _))).mono ?_; rintro e wz2 ⟨rfl, y2⟩; have Y2 : Ext w3 wz2 := Ext.trans (by repeat (first | with_reducible assumption | with_reducible exact Ext.refl _ | with_reducible refine Ext.drew ?_ | with_reducible refine Ext.drewN ?_ _ | with_reducible refine Ext.alloc ?_ _ | with_reducible refine Ext.set ?_ (by first | exact Nat.le_refl _ | (dsimp only; omega) | (simp; done)) _)) y2; have qt0u : wz2.cell? ⟨w.heap.size, 0, none⟩ = some (.bool true) := (Ft.out.ext Y2).c 0 rfl; have qt1u : wz2.cell? ⟨w.heap.size, 1, none⟩ = some (.int .i64 x) := (Ft.out.ext Y2).c 1 rfl; have qt2u : wz2.cell? ⟨w.heap.size, 2, none⟩ = some (.int .i64 y) := (Ft.out.ext Y2).c 2 rfl; have qt3u : wz2.cell? ⟨w.heap.size, 3, none⟩ = some (.int .i64 z) := (Ft.out.ext Y2).c 3 rfl; have qt4u : wz2.cell? ⟨w.heap.size, 4, none⟩ = some (.int .i64 s) := (Ft.out.ext Y2).c 4 rfl; have qt5u : wz2.cell? ⟨w.heap.size, 5, none⟩ = some (.int .i64 p) := (Ft.out.ext Y2).c 5 rfl; have btu : w.heap.size < wz2.heap.size := (Ft.out.ext Y2).1; have mt1u := Nat.ne_of_lt btu; have mt2u := Nat.ne_of_gt btu; (first | (have N : Hid (HV wz2 _ [.int .i64 0, .int .i64 0, .int .i64 0]) := N.out.ext y2) | (have N : Hid (HV wz2 _ [.int .i64 0, .int .i64 0, .int .i64 0]) := (hv_at rfl).ext y2) | (have N : Hid (HV wz2 _ [.int .i64 0, .int .i64 0, .int .i64 0]) := (HV.drew (hv_at rfl)).ext y2) | (have N : Hid (HV wz2 _ [.int .i64 0, .int .i64 0, .int .i64 0]) := (HV.alloc N.out _).ext y2) | skip); (first | (have n0 := N.out.c 0 rfl; have n1 := N.out.c 1 rfl; have n2 := N.out.c 2 rfl; have f0 := N.out.f 0 rfl; have f1 := N.out.f 1 rfl; have f2 := N.out.f 2 rfl) | skip)))
    all_goals
      go_wp2_with fail
      go_meet
      first | exact ⟨wz2.heap.size, rfl, rfl, Y2.size, hv_at rfl, Y2.alloc _⟩ | exact (have hg : w3.heap.size ≤ w3.heap.size := Nat.le_refl _; ⟨w3.heap.size, rfl, rfl, hg, (((N.out.set 0 (.int .i64 r0)).set 1 (.int .i64 r1)).set 2 (.int .i64 r2)), (((Y2.set (p := ⟨_, 0, none⟩) hg _).set (p := ⟨_, 1, none⟩) hg _).set (p := ⟨_, 2, none⟩) hg _)⟩) | exact (have hg : w3.heap.size ≤ wz0.heap.size := Y0.size; ⟨wz0.heap.size, rfl, rfl, hg, (((N.out.set 0 (.int .i64 r0)).set 1 (.int .i64 r1)).set 2 (.int .i64 r2)), (((Y2.set (p := ⟨_, 0, none⟩) hg _).set (p := ⟨_, 1, none⟩) hg _).set (p := ⟨_, 2, none⟩) hg _)⟩) | exact (have hg : w3.heap.size ≤ wz1.heap.size := Y1.size; ⟨wz1.heap.size, rfl, rfl, hg, (((N.out.set 0 (.int .i64 r0)).set 1 (.int .i64 r1)).set 2 (.int .i64 r2)), (((Y2.set (p := ⟨_, 0, none⟩) hg _).set (p := ⟨_, 1, none⟩) hg _).set (p := ⟨_, 2, none⟩) hg _)⟩)
  case rest =>
    obtain ⟨ng, rfl, rfl, Lr, Fr, hx⟩ := hcut
    have Fu0 := Fu
    have Ft : Hid (HV wc w.heap.size [.bool true, .int .i64 x, .int .i64 y, .int .i64 z, .int .i64 s, .int .i64 p]) := Ft.out.ext hx.out
    have Fv : Hid (HV wc (w.heap.size + 1) [.int .i64 v0, .int .i64 v1, .int .i64 v2]) := Fv.out.ext hx.out
    have Fu : Hid (HV wc (w.heap.size + 2) [.bool false, .int .i64 0, .int .i64 0, .int .i64 0, .int .i64 0, .int .i64 0]) := Fu.out.ext hx.out
    have FX : Hid (Ext w wc) := FX.out.trans hx.out
    have qv0 : wc.cell? ⟨(w.heap.size + 1), 0, none⟩ = some (.int .i64 v0) := Fv.out.c 0 rfl
    have qv1 : wc.cell? ⟨(w.heap.size + 1), 1, none⟩ = some (.int .i64 v1) := Fv.out.c 1 rfl
    have qv2 : wc.cell? ⟨(w.heap.size + 1), 2, none⟩ = some (.int .i64 v2) := Fv.out.c 2 rfl
    have qr0 : wc.cell? ⟨ng, 0, none⟩ = some (.int .i64 r0) := Fr.out.c 0 rfl
    have qr1 : wc.cell? ⟨ng, 1, none⟩ = some (.int .i64 r1) := Fr.out.c 1 rfl
    have qr2 : wc.cell? ⟨ng, 2, none⟩ = some (.int .i64 r2) := Fr.out.c 2 rfl
    have o0 : wc.cell? ⟨(w.heap.size + 2), 0, none⟩ = some (.bool false) := Fu.out.c 0 rfl
    have z0 : wc.frozen? ⟨(w.heap.size + 2), 0, none⟩ = false := Fu.out.f 0 rfl
    have o1 : wc.cell? ⟨(w.heap.size + 2), 1, none⟩ = some (.int .i64 0) := Fu.out.c 1 rfl
    have z1 : wc.frozen? ⟨(w.heap.size + 2), 1, none⟩ = false := Fu.out.f 1 rfl
    have o2 : wc.cell? ⟨(w.heap.size + 2), 2, none⟩ = some (.int .i64 0) := Fu.out.c 2 rfl
    have z2 : wc.frozen? ⟨(w.heap.size + 2), 2, none⟩ = false := Fu.out.f 2 rfl
    have o3 : wc.cell? ⟨(w.heap.size + 2), 3, none⟩ = some (.int .i64 0) := Fu.out.c 3 rfl
    have z3 : wc.frozen? ⟨(w.heap.size + 2), 3, none⟩ = false := Fu.out.f 3 rfl
    have o4 : wc.cell? ⟨(w.heap.size + 2), 4, none⟩ = some (.int .i64 0) := Fu.out.c 4 rfl
    have z4 : wc.frozen? ⟨(w.heap.size + 2), 4, none⟩ = false := Fu.out.f 4 rfl
    have o5 : wc.cell? ⟨(w.heap.size + 2), 5, none⟩ = some (.int .i64 0) := Fu.out.c 5 rfl
    have z5 : wc.frozen? ⟨(w.heap.size + 2), 5, none⟩ = false := Fu.out.f 5 rfl
    have lu2 : (w.heap.size + 2) < ng := by have := Fu.out.1; have := Lr.out; have h6 : (w.heap.size + 2) < w3.heap.size := Fu0.out.1; omega
    have lu3 := Nat.ne_of_lt lu2
    have lu4 := Nat.ne_of_gt lu2
    go_upto_region 10 with fail
    go_region_held3 (fun w' => w'.cell? ⟨(w.heap.size + 1), 0, none⟩ = some (.int .i64 v0) ∧ w'.cell? ⟨(w.heap.size + 1), 1, none⟩ = some (.int .i64 v1) ∧ w'.cell? ⟨(w.heap.size + 1), 2, none⟩ = some (.int .i64 v2) ∧ w'.cell? ⟨ng, 0, none⟩ = some (.int .i64 r0) ∧ w'.cell? ⟨ng, 1, none⟩ = some (.int .i64 r1) ∧ w'.cell? ⟨ng, 2, none⟩ = some (.int .i64 r2)) (first | (go_keep; done) | (refine ⟨?_, ?_, ?_, ?_, ?_, ?_⟩ <;> (rw [World.cell?_setCell_far _ _ _ _ (by dsimp only; omega), World.cell?_setCell_far _ _ _ _ (by dsimp only; omega), World.cell?_setCell_far _ _ _ _ (by dsimp only; omega), World.cell?_setCell_far _ _ _ _ (by dsimp only; omega), World.cell?_setCell_far _ _ _ _ (by dsimp only; omega), World.cell?_setCell_far _ _ _ _ (by dsimp only; omega)]; with_reducible assumption)) | skip) (fail)
    all_goals
      go_wp2_with fail
      refine bodyPost_ret (v := .tuple #[.agg #[.bool true, .int .i64 v0, .int .i64 v1, .int .i64 v2, .int .i64 r1, .int .i64 r2], .int .i64 r0, .int .i64 0]) (by simp [results, Try.results8, go_sem, o0, o1, o2, o3, o4, o5]) rfl ⟨rfl, ?_⟩
      exact (Ext.drew (Ext.set (Ext.set (Ext.set (Ext.set (Ext.set (Ext.set FX.out Lu.out _) Lu.out _) Lu.out _) Lu.out _) Lu.out _) Lu.out _))
end Go.Proofs.Ytojcndgoihkfnaa
