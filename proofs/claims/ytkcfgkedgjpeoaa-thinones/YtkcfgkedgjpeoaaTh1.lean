/- thin: through. -/
import Derived.Test.YtkcfgkedgjpeoaaTh0
namespace Go.Proofs.Ytkcfgkedgjpeoaa
open Go.RowKit Go.Shelf
set_option maxRecDepth 20000 in
set_option maxHeartbeats 8000000 in
theorem thr_plus (a0 a1 a2 b0 b1 b2 r0 r1 r2 : Int) (w : World)
    (H0 : Hid (∀ w', Calls Try.prog 31 #[.int .i64 a0, .int .i64 b0] w' fun e w'' => e = .returned (.tuple #[.int .i64 r0, .int .i64 0]) ∧ Ext w' w''))
    (H1 : Hid (∀ w', Calls Try.prog 31 #[.int .i64 a1, .int .i64 b1] w' fun e w'' => e = .returned (.tuple #[.int .i64 r1, .int .i64 0]) ∧ Ext w' w''))
    (H2 : Hid (∀ w', Calls Try.prog 31 #[.int .i64 a2, .int .i64 b2] w' fun e w'' => e = .returned (.tuple #[.int .i64 r2, .int .i64 0]) ∧ Ext w' w'')) :
    Calls Try.prog 29 #[.agg #[.int .i64 a0, .int .i64 a1, .int .i64 a2], .agg #[.int .i64 b0, .int .i64 b1, .int .i64 b2], .func (.func 31) #[] #[]] w fun e w' => e = .returned (.tuple #[.agg #[.int .i64 r0, .int .i64 r1, .int .i64 r2], .int .i64 0]) ∧ Ext w w' := by
  have BA : Hid (HV ((((w.alloc (.cells #[.int .i64 a0, .int .i64 a1, .int .i64 a2] 56)).alloc (.cells #[.int .i64 b0, .int .i64 b1, .int .i64 b2] 56)).alloc (.cells #[.int .i64 0, .int .i64 0, .int .i64 0] 56)).alloc (.cells #[.int .i64 0, .int .i64 0, .int .i64 0] 56)) w.heap.size [.int .i64 a0, .int .i64 a1, .int .i64 a2]) := (((hv_at rfl).alloc _).alloc _).alloc _
  have BB : Hid (HV ((((w.alloc (.cells #[.int .i64 a0, .int .i64 a1, .int .i64 a2] 56)).alloc (.cells #[.int .i64 b0, .int .i64 b1, .int .i64 b2] 56)).alloc (.cells #[.int .i64 0, .int .i64 0, .int .i64 0] 56)).alloc (.cells #[.int .i64 0, .int .i64 0, .int .i64 0] 56)) (w.heap.size + 1) [.int .i64 b0, .int .i64 b1, .int .i64 b2]) := ((hv_at (by simp)).alloc _).alloc _
  have BR : Hid (HV ((((w.alloc (.cells #[.int .i64 a0, .int .i64 a1, .int .i64 a2] 56)).alloc (.cells #[.int .i64 b0, .int .i64 b1, .int .i64 b2] 56)).alloc (.cells #[.int .i64 0, .int .i64 0, .int .i64 0] 56)).alloc (.cells #[.int .i64 0, .int .i64 0, .int .i64 0] 56)) (w.heap.size + 2) [.int .i64 0, .int .i64 0, .int .i64 0]) := (hv_at (by simp)).alloc _
  have BM : Hid (HV ((((w.alloc (.cells #[.int .i64 a0, .int .i64 a1, .int .i64 a2] 56)).alloc (.cells #[.int .i64 b0, .int .i64 b1, .int .i64 b2] 56)).alloc (.cells #[.int .i64 0, .int .i64 0, .int .i64 0] 56)).alloc (.cells #[.int .i64 0, .int .i64 0, .int .i64 0] 56)) (w.heap.size + 3) [.int .i64 0, .int .i64 0, .int .i64 0]) := hv_at (by simp)
  have HX : Hid (Ext w ((((w.alloc (.cells #[.int .i64 a0, .int .i64 a1, .int .i64 a2] 56)).alloc (.cells #[.int .i64 b0, .int .i64 b1, .int .i64 b2] 56)).alloc (.cells #[.int .i64 0, .int .i64 0, .int .i64 0] 56)).alloc (.cells #[.int .i64 0, .int .i64 0, .int .i64 0] 56))) := ((((Ext.refl w).alloc _).alloc _).alloc _).alloc _
  have lt2 : Hid (w.heap.size ≤ w.heap.size + 2) := Nat.le_add_right _ _
  have lt3 : Hid (w.heap.size ≤ w.heap.size + 3) := Nat.le_add_right _ _
  go_enter Try.func29, Try.ntmps29
  go_wp2_with fail
  generalize ((((w.alloc (.cells #[.int .i64 a0, .int .i64 a1, .int .i64 a2] 56)).alloc (.cells #[.int .i64 b0, .int .i64 b1, .int .i64 b2] 56)).alloc (.cells #[.int .i64 0, .int .i64 0, .int .i64 0] 56)).alloc (.cells #[.int .i64 0, .int .i64 0, .int .i64 0] 56)) = wa at *
  refine wp_loop_rounds 4 ?_
  rw [rounds_succ]
  go_upto_region 5 with fail
  have qa : wa.cell? ⟨w.heap.size, 0, none⟩ = some (.int .i64 a0) := BA.out.c 0 rfl
  have qb : wa.cell? ⟨w.heap.size + 1, 0, none⟩ = some (.int .i64 b0) := BB.out.c 0 rfl
  go_region_held3 (fun w' => w'.cell? ⟨w.heap.size, 0, none⟩ = some (.int .i64 a0) ∧ w'.cell? ⟨w.heap.size + 1, 0, none⟩ = some (.int .i64 b0)) (first | (simp [*]; done) | skip) (first | (go_at_call 31; refine (H0.out _).mono ?_; rintro e ua ⟨rfl, xa0⟩; have xa : Ext wa ua := Ext.trans (by repeat (first | with_reducible assumption | with_reducible exact Ext.refl _ | with_reducible refine Ext.drew ?_ | with_reducible refine Ext.drewN ?_ _ | with_reducible refine Ext.alloc ?_ _ | with_reducible refine Ext.set ?_ (by first | exact Nat.le_refl _ | (dsimp only; omega) | (simp; done)) _)) xa0; clear xa0; have ka : ua.cell? ⟨w.heap.size, 0, none⟩ = some (.int .i64 a0) := (BA.out.ext xa).c 0 rfl; have kb : ua.cell? ⟨w.heap.size + 1, 0, none⟩ = some (.int .i64 b0) := (BB.out.ext xa).c 0 rfl))
  have BA : Hid (HV ua w.heap.size [.int .i64 a0, .int .i64 a1, .int .i64 a2]) := BA.out.ext xa
  have BB : Hid (HV ua (w.heap.size + 1) [.int .i64 b0, .int .i64 b1, .int .i64 b2]) := BB.out.ext xa
  have BR : Hid (HV ua (w.heap.size + 2) [.int .i64 0, .int .i64 0, .int .i64 0]) := BR.out.ext xa
  have BM : Hid (HV ua (w.heap.size + 3) [.int .i64 0, .int .i64 0, .int .i64 0]) := BM.out.ext xa
  have HX : Hid (Ext w ua) := HX.out.trans xa
  clear qa qb ka kb xa H0
  have m0 : ua.cell? ⟨w.heap.size + 3, 0, none⟩ = some (.int .i64 0) := BM.out.c 0 rfl
  have m1 : ua.frozen? ⟨w.heap.size + 3, 0, none⟩ = false := BM.out.f 0 rfl
  go_wp2_with fail
  have BA : Hid (HV (ua.setCell ⟨w.heap.size + 3, 0, none⟩ (.int .i64 r0)) w.heap.size [.int .i64 a0, .int .i64 a1, .int .i64 a2]) := BA.out.far (by omega)
  have BB : Hid (HV (ua.setCell ⟨w.heap.size + 3, 0, none⟩ (.int .i64 r0)) (w.heap.size + 1) [.int .i64 b0, .int .i64 b1, .int .i64 b2]) := BB.out.far (by omega)
  have BR : Hid (HV (ua.setCell ⟨w.heap.size + 3, 0, none⟩ (.int .i64 r0)) (w.heap.size + 2) [.int .i64 0, .int .i64 0, .int .i64 0]) := BR.out.far (by omega)
  have BM : Hid (HV (ua.setCell ⟨w.heap.size + 3, 0, none⟩ (.int .i64 r0)) (w.heap.size + 3) [.int .i64 r0, .int .i64 0, .int .i64 0]) := BM.out.set 0 _
  have HX : Hid (Ext w (ua.setCell ⟨w.heap.size + 3, 0, none⟩ (.int .i64 r0))) := HX.out.set (p := ⟨w.heap.size + 3, 0, none⟩) lt3.out _
  clear m0 m1
  generalize (ua.setCell ⟨w.heap.size + 3, 0, none⟩ (.int .i64 r0)) = va at *
  rw [rounds_succ]
  go_upto_region 5 with fail
  have qa : va.cell? ⟨w.heap.size, 1, none⟩ = some (.int .i64 a1) := BA.out.c 1 rfl
  have qb : va.cell? ⟨w.heap.size + 1, 1, none⟩ = some (.int .i64 b1) := BB.out.c 1 rfl
  go_region_held3 (fun w' => w'.cell? ⟨w.heap.size, 1, none⟩ = some (.int .i64 a1) ∧ w'.cell? ⟨w.heap.size + 1, 1, none⟩ = some (.int .i64 b1)) (first | (simp [*]; done) | skip) (first | (go_at_call 31; refine (H1.out _).mono ?_; rintro e ub ⟨rfl, xb0⟩; have xb : Ext va ub := Ext.trans (by repeat (first | with_reducible assumption | with_reducible exact Ext.refl _ | with_reducible refine Ext.drew ?_ | with_reducible refine Ext.drewN ?_ _ | with_reducible refine Ext.alloc ?_ _ | with_reducible refine Ext.set ?_ (by first | exact Nat.le_refl _ | (dsimp only; omega) | (simp; done)) _)) xb0; clear xb0; have ka : ub.cell? ⟨w.heap.size, 1, none⟩ = some (.int .i64 a1) := (BA.out.ext xb).c 1 rfl; have kb : ub.cell? ⟨w.heap.size + 1, 1, none⟩ = some (.int .i64 b1) := (BB.out.ext xb).c 1 rfl))
  have BA : Hid (HV ub w.heap.size [.int .i64 a0, .int .i64 a1, .int .i64 a2]) := BA.out.ext xb
  have BB : Hid (HV ub (w.heap.size + 1) [.int .i64 b0, .int .i64 b1, .int .i64 b2]) := BB.out.ext xb
  have BR : Hid (HV ub (w.heap.size + 2) [.int .i64 0, .int .i64 0, .int .i64 0]) := BR.out.ext xb
  have BM : Hid (HV ub (w.heap.size + 3) [.int .i64 r0, .int .i64 0, .int .i64 0]) := BM.out.ext xb
  have HX : Hid (Ext w ub) := HX.out.trans xb
  clear qa qb ka kb xb H1
  have m0 : ub.cell? ⟨w.heap.size + 3, 1, none⟩ = some (.int .i64 0) := BM.out.c 1 rfl
  have m1 : ub.frozen? ⟨w.heap.size + 3, 1, none⟩ = false := BM.out.f 1 rfl
  go_wp2_with fail
  have BA : Hid (HV (ub.setCell ⟨w.heap.size + 3, 1, none⟩ (.int .i64 r1)) w.heap.size [.int .i64 a0, .int .i64 a1, .int .i64 a2]) := BA.out.far (by omega)
  have BB : Hid (HV (ub.setCell ⟨w.heap.size + 3, 1, none⟩ (.int .i64 r1)) (w.heap.size + 1) [.int .i64 b0, .int .i64 b1, .int .i64 b2]) := BB.out.far (by omega)
  have BR : Hid (HV (ub.setCell ⟨w.heap.size + 3, 1, none⟩ (.int .i64 r1)) (w.heap.size + 2) [.int .i64 0, .int .i64 0, .int .i64 0]) := BR.out.far (by omega)
  have BM : Hid (HV (ub.setCell ⟨w.heap.size + 3, 1, none⟩ (.int .i64 r1)) (w.heap.size + 3) [.int .i64 r0, .int .i64 r1, .int .i64 0]) := BM.out.set 1 _
  have HX : Hid (Ext w (ub.setCell ⟨w.heap.size + 3, 1, none⟩ (.int .i64 r1))) := HX.out.set (p := ⟨w.heap.size + 3, 1, none⟩) lt3.out _
  clear m0 m1
  generalize (ub.setCell ⟨w.heap.size + 3, 1, none⟩ (.int .i64 r1)) = vb at *
  rw [rounds_succ]
  go_upto_region 5 with fail
  have qa : vb.cell? ⟨w.heap.size, 2, none⟩ = some (.int .i64 a2) := BA.out.c 2 rfl
  have qb : vb.cell? ⟨w.heap.size + 1, 2, none⟩ = some (.int .i64 b2) := BB.out.c 2 rfl
  go_region_held3 (fun w' => w'.cell? ⟨w.heap.size, 2, none⟩ = some (.int .i64 a2) ∧ w'.cell? ⟨w.heap.size + 1, 2, none⟩ = some (.int .i64 b2)) (first | (simp [*]; done) | skip) (first | (go_at_call 31; refine (H2.out _).mono ?_; rintro e uc ⟨rfl, xc0⟩; have xc : Ext vb uc := Ext.trans (by repeat (first | with_reducible assumption | with_reducible exact Ext.refl _ | with_reducible refine Ext.drew ?_ | with_reducible refine Ext.drewN ?_ _ | with_reducible refine Ext.alloc ?_ _ | with_reducible refine Ext.set ?_ (by first | exact Nat.le_refl _ | (dsimp only; omega) | (simp; done)) _)) xc0; clear xc0; have ka : uc.cell? ⟨w.heap.size, 2, none⟩ = some (.int .i64 a2) := (BA.out.ext xc).c 2 rfl; have kb : uc.cell? ⟨w.heap.size + 1, 2, none⟩ = some (.int .i64 b2) := (BB.out.ext xc).c 2 rfl))
  have BA : Hid (HV uc w.heap.size [.int .i64 a0, .int .i64 a1, .int .i64 a2]) := BA.out.ext xc
  have BB : Hid (HV uc (w.heap.size + 1) [.int .i64 b0, .int .i64 b1, .int .i64 b2]) := BB.out.ext xc
  have BR : Hid (HV uc (w.heap.size + 2) [.int .i64 0, .int .i64 0, .int .i64 0]) := BR.out.ext xc
  have BM : Hid (HV uc (w.heap.size + 3) [.int .i64 r0, .int .i64 r1, .int .i64 0]) := BM.out.ext xc
  have HX : Hid (Ext w uc) := HX.out.trans xc
  clear qa qb ka kb xc H2
  have m0 : uc.cell? ⟨w.heap.size + 3, 2, none⟩ = some (.int .i64 0) := BM.out.c 2 rfl
  have m1 : uc.frozen? ⟨w.heap.size + 3, 2, none⟩ = false := BM.out.f 2 rfl
  go_wp2_with fail
  have BA : Hid (HV (uc.setCell ⟨w.heap.size + 3, 2, none⟩ (.int .i64 r2)) w.heap.size [.int .i64 a0, .int .i64 a1, .int .i64 a2]) := BA.out.far (by omega)
  have BB : Hid (HV (uc.setCell ⟨w.heap.size + 3, 2, none⟩ (.int .i64 r2)) (w.heap.size + 1) [.int .i64 b0, .int .i64 b1, .int .i64 b2]) := BB.out.far (by omega)
  have BR : Hid (HV (uc.setCell ⟨w.heap.size + 3, 2, none⟩ (.int .i64 r2)) (w.heap.size + 2) [.int .i64 0, .int .i64 0, .int .i64 0]) := BR.out.far (by omega)
  have BM : Hid (HV (uc.setCell ⟨w.heap.size + 3, 2, none⟩ (.int .i64 r2)) (w.heap.size + 3) [.int .i64 r0, .int .i64 r1, .int .i64 r2]) := BM.out.set 2 _
  have HX : Hid (Ext w (uc.setCell ⟨w.heap.size + 3, 2, none⟩ (.int .i64 r2))) := HX.out.set (p := ⟨w.heap.size + 3, 2, none⟩) lt3.out _
  clear m0 m1
  generalize (uc.setCell ⟨w.heap.size + 3, 2, none⟩ (.int .i64 r2)) = vc at *
  rw [rounds_succ]
  obtain ⟨m0, m1, m2⟩ := BM.out.k3
  obtain ⟨y0, y1, y2⟩ := BR.out.k3
  obtain ⟨f0, f1, f2⟩ := BR.out.z3
  go_wp2_with fail
  refine bodyPost_ret (v := .tuple #[.agg #[.int .i64 r0, .int .i64 r1, .int .i64 r2], .int .i64 0]) (by simp [results, Try.results29, go_sem, y0, y1, y2]) rfl ⟨rfl, ?_⟩
  exact Ext.set (Ext.set (Ext.set HX.out lt2.out _) lt2.out _) lt2.out _
set_option maxRecDepth 20000 in
set_option maxHeartbeats 8000000 in
theorem thr_ratio0 (a0 a1 a2 b0 b1 b2  : Int) (w : World)
    (H0 : Hid (∀ w', Calls Try.prog 33 #[.int .i64 a0, .int .i64 b0] w' fun e w'' => e = .returned (.tuple #[.int .i64 0, .int .i64 2]) ∧ Ext w' w'')) :
    Calls Try.prog 29 #[.agg #[.int .i64 a0, .int .i64 a1, .int .i64 a2], .agg #[.int .i64 b0, .int .i64 b1, .int .i64 b2], .func (.func 33) #[] #[]] w fun e w' => e = .returned (.tuple #[.agg #[.int .i64 0, .int .i64 0, .int .i64 0], .int .i64 2]) ∧ Ext w w' := by
  have BA : Hid (HV ((((w.alloc (.cells #[.int .i64 a0, .int .i64 a1, .int .i64 a2] 56)).alloc (.cells #[.int .i64 b0, .int .i64 b1, .int .i64 b2] 56)).alloc (.cells #[.int .i64 0, .int .i64 0, .int .i64 0] 56)).alloc (.cells #[.int .i64 0, .int .i64 0, .int .i64 0] 56)) w.heap.size [.int .i64 a0, .int .i64 a1, .int .i64 a2]) := (((hv_at rfl).alloc _).alloc _).alloc _
  have BB : Hid (HV ((((w.alloc (.cells #[.int .i64 a0, .int .i64 a1, .int .i64 a2] 56)).alloc (.cells #[.int .i64 b0, .int .i64 b1, .int .i64 b2] 56)).alloc (.cells #[.int .i64 0, .int .i64 0, .int .i64 0] 56)).alloc (.cells #[.int .i64 0, .int .i64 0, .int .i64 0] 56)) (w.heap.size + 1) [.int .i64 b0, .int .i64 b1, .int .i64 b2]) := ((hv_at (by simp)).alloc _).alloc _
  have BR : Hid (HV ((((w.alloc (.cells #[.int .i64 a0, .int .i64 a1, .int .i64 a2] 56)).alloc (.cells #[.int .i64 b0, .int .i64 b1, .int .i64 b2] 56)).alloc (.cells #[.int .i64 0, .int .i64 0, .int .i64 0] 56)).alloc (.cells #[.int .i64 0, .int .i64 0, .int .i64 0] 56)) (w.heap.size + 2) [.int .i64 0, .int .i64 0, .int .i64 0]) := (hv_at (by simp)).alloc _
  have BM : Hid (HV ((((w.alloc (.cells #[.int .i64 a0, .int .i64 a1, .int .i64 a2] 56)).alloc (.cells #[.int .i64 b0, .int .i64 b1, .int .i64 b2] 56)).alloc (.cells #[.int .i64 0, .int .i64 0, .int .i64 0] 56)).alloc (.cells #[.int .i64 0, .int .i64 0, .int .i64 0] 56)) (w.heap.size + 3) [.int .i64 0, .int .i64 0, .int .i64 0]) := hv_at (by simp)
  have HX : Hid (Ext w ((((w.alloc (.cells #[.int .i64 a0, .int .i64 a1, .int .i64 a2] 56)).alloc (.cells #[.int .i64 b0, .int .i64 b1, .int .i64 b2] 56)).alloc (.cells #[.int .i64 0, .int .i64 0, .int .i64 0] 56)).alloc (.cells #[.int .i64 0, .int .i64 0, .int .i64 0] 56))) := ((((Ext.refl w).alloc _).alloc _).alloc _).alloc _
  have lt2 : Hid (w.heap.size ≤ w.heap.size + 2) := Nat.le_add_right _ _
  have lt3 : Hid (w.heap.size ≤ w.heap.size + 3) := Nat.le_add_right _ _
  go_enter Try.func29, Try.ntmps29
  go_wp2_with fail
  generalize ((((w.alloc (.cells #[.int .i64 a0, .int .i64 a1, .int .i64 a2] 56)).alloc (.cells #[.int .i64 b0, .int .i64 b1, .int .i64 b2] 56)).alloc (.cells #[.int .i64 0, .int .i64 0, .int .i64 0] 56)).alloc (.cells #[.int .i64 0, .int .i64 0, .int .i64 0] 56)) = wa at *
  refine wp_loop_rounds 4 ?_
  rw [rounds_succ]
  go_upto_region 5 with fail
  have qa : wa.cell? ⟨w.heap.size, 0, none⟩ = some (.int .i64 a0) := BA.out.c 0 rfl
  have qb : wa.cell? ⟨w.heap.size + 1, 0, none⟩ = some (.int .i64 b0) := BB.out.c 0 rfl
  go_region_held3 (fun w' => w'.cell? ⟨w.heap.size, 0, none⟩ = some (.int .i64 a0) ∧ w'.cell? ⟨w.heap.size + 1, 0, none⟩ = some (.int .i64 b0)) (first | (simp [*]; done) | skip) (first | (go_at_call 33; refine (H0.out _).mono ?_; rintro e ua ⟨rfl, xa0⟩; have xa : Ext wa ua := Ext.trans (by repeat (first | with_reducible assumption | with_reducible exact Ext.refl _ | with_reducible refine Ext.drew ?_ | with_reducible refine Ext.drewN ?_ _ | with_reducible refine Ext.alloc ?_ _ | with_reducible refine Ext.set ?_ (by first | exact Nat.le_refl _ | (dsimp only; omega) | (simp; done)) _)) xa0; clear xa0; have ka : ua.cell? ⟨w.heap.size, 0, none⟩ = some (.int .i64 a0) := (BA.out.ext xa).c 0 rfl; have kb : ua.cell? ⟨w.heap.size + 1, 0, none⟩ = some (.int .i64 b0) := (BB.out.ext xa).c 0 rfl))
  have BA : Hid (HV ua w.heap.size [.int .i64 a0, .int .i64 a1, .int .i64 a2]) := BA.out.ext xa
  have BB : Hid (HV ua (w.heap.size + 1) [.int .i64 b0, .int .i64 b1, .int .i64 b2]) := BB.out.ext xa
  have BR : Hid (HV ua (w.heap.size + 2) [.int .i64 0, .int .i64 0, .int .i64 0]) := BR.out.ext xa
  have BM : Hid (HV ua (w.heap.size + 3) [.int .i64 0, .int .i64 0, .int .i64 0]) := BM.out.ext xa
  have HX : Hid (Ext w ua) := HX.out.trans xa
  clear qa qb ka kb xa H0
  obtain ⟨y0, y1, y2⟩ := BR.out.k3
  obtain ⟨f0, f1, f2⟩ := BR.out.z3
  go_wp2_with fail
  refine bodyPost_ret (v := .tuple #[.agg #[.int .i64 0, .int .i64 0, .int .i64 0], .int .i64 2]) (by simp [results, Try.results29, go_sem, y0, y1, y2]) rfl ⟨rfl, ?_⟩
  exact Ext.set (Ext.set (Ext.set HX.out lt2.out _) lt2.out _) lt2.out _
set_option maxRecDepth 20000 in
set_option maxHeartbeats 8000000 in
theorem thr_ratio1 (a0 a1 a2 b0 b1 b2 r0 : Int) (w : World)
    (H0 : Hid (∀ w', Calls Try.prog 33 #[.int .i64 a0, .int .i64 b0] w' fun e w'' => e = .returned (.tuple #[.int .i64 r0, .int .i64 0]) ∧ Ext w' w''))
    (H1 : Hid (∀ w', Calls Try.prog 33 #[.int .i64 a1, .int .i64 b1] w' fun e w'' => e = .returned (.tuple #[.int .i64 0, .int .i64 2]) ∧ Ext w' w'')) :
    Calls Try.prog 29 #[.agg #[.int .i64 a0, .int .i64 a1, .int .i64 a2], .agg #[.int .i64 b0, .int .i64 b1, .int .i64 b2], .func (.func 33) #[] #[]] w fun e w' => e = .returned (.tuple #[.agg #[.int .i64 0, .int .i64 0, .int .i64 0], .int .i64 2]) ∧ Ext w w' := by
  have BA : Hid (HV ((((w.alloc (.cells #[.int .i64 a0, .int .i64 a1, .int .i64 a2] 56)).alloc (.cells #[.int .i64 b0, .int .i64 b1, .int .i64 b2] 56)).alloc (.cells #[.int .i64 0, .int .i64 0, .int .i64 0] 56)).alloc (.cells #[.int .i64 0, .int .i64 0, .int .i64 0] 56)) w.heap.size [.int .i64 a0, .int .i64 a1, .int .i64 a2]) := (((hv_at rfl).alloc _).alloc _).alloc _
  have BB : Hid (HV ((((w.alloc (.cells #[.int .i64 a0, .int .i64 a1, .int .i64 a2] 56)).alloc (.cells #[.int .i64 b0, .int .i64 b1, .int .i64 b2] 56)).alloc (.cells #[.int .i64 0, .int .i64 0, .int .i64 0] 56)).alloc (.cells #[.int .i64 0, .int .i64 0, .int .i64 0] 56)) (w.heap.size + 1) [.int .i64 b0, .int .i64 b1, .int .i64 b2]) := ((hv_at (by simp)).alloc _).alloc _
  have BR : Hid (HV ((((w.alloc (.cells #[.int .i64 a0, .int .i64 a1, .int .i64 a2] 56)).alloc (.cells #[.int .i64 b0, .int .i64 b1, .int .i64 b2] 56)).alloc (.cells #[.int .i64 0, .int .i64 0, .int .i64 0] 56)).alloc (.cells #[.int .i64 0, .int .i64 0, .int .i64 0] 56)) (w.heap.size + 2) [.int .i64 0, .int .i64 0, .int .i64 0]) := (hv_at (by simp)).alloc _
  have BM : Hid (HV ((((w.alloc (.cells #[.int .i64 a0, .int .i64 a1, .int .i64 a2] 56)).alloc (.cells #[.int .i64 b0, .int .i64 b1, .int .i64 b2] 56)).alloc (.cells #[.int .i64 0, .int .i64 0, .int .i64 0] 56)).alloc (.cells #[.int .i64 0, .int .i64 0, .int .i64 0] 56)) (w.heap.size + 3) [.int .i64 0, .int .i64 0, .int .i64 0]) := hv_at (by simp)
  have HX : Hid (Ext w ((((w.alloc (.cells #[.int .i64 a0, .int .i64 a1, .int .i64 a2] 56)).alloc (.cells #[.int .i64 b0, .int .i64 b1, .int .i64 b2] 56)).alloc (.cells #[.int .i64 0, .int .i64 0, .int .i64 0] 56)).alloc (.cells #[.int .i64 0, .int .i64 0, .int .i64 0] 56))) := ((((Ext.refl w).alloc _).alloc _).alloc _).alloc _
  have lt2 : Hid (w.heap.size ≤ w.heap.size + 2) := Nat.le_add_right _ _
  have lt3 : Hid (w.heap.size ≤ w.heap.size + 3) := Nat.le_add_right _ _
  go_enter Try.func29, Try.ntmps29
  go_wp2_with fail
  generalize ((((w.alloc (.cells #[.int .i64 a0, .int .i64 a1, .int .i64 a2] 56)).alloc (.cells #[.int .i64 b0, .int .i64 b1, .int .i64 b2] 56)).alloc (.cells #[.int .i64 0, .int .i64 0, .int .i64 0] 56)).alloc (.cells #[.int .i64 0, .int .i64 0, .int .i64 0] 56)) = wa at *
  refine wp_loop_rounds 4 ?_
  rw [rounds_succ]
  go_upto_region 5 with fail
  have qa : wa.cell? ⟨w.heap.size, 0, none⟩ = some (.int .i64 a0) := BA.out.c 0 rfl
  have qb : wa.cell? ⟨w.heap.size + 1, 0, none⟩ = some (.int .i64 b0) := BB.out.c 0 rfl
  go_region_held3 (fun w' => w'.cell? ⟨w.heap.size, 0, none⟩ = some (.int .i64 a0) ∧ w'.cell? ⟨w.heap.size + 1, 0, none⟩ = some (.int .i64 b0)) (first | (simp [*]; done) | skip) (first | (go_at_call 33; refine (H0.out _).mono ?_; rintro e ua ⟨rfl, xa0⟩; have xa : Ext wa ua := Ext.trans (by repeat (first | with_reducible assumption | with_reducible exact Ext.refl _ | with_reducible refine Ext.drew ?_ | with_reducible refine Ext.drewN ?_ _ | with_reducible refine Ext.alloc ?_ _ | with_reducible refine Ext.set ?_ (by first | exact Nat.le_refl _ | (dsimp only; omega) | (simp; done)) _)) xa0; clear xa0; have ka : ua.cell? ⟨w.heap.size, 0, none⟩ = some (.int .i64 a0) := (BA.out.ext xa).c 0 rfl; have kb : ua.cell? ⟨w.heap.size + 1, 0, none⟩ = some (.int .i64 b0) := (BB.out.ext xa).c 0 rfl))
  have BA : Hid (HV ua w.heap.size [.int .i64 a0, .int .i64 a1, .int .i64 a2]) := BA.out.ext xa
  have BB : Hid (HV ua (w.heap.size + 1) [.int .i64 b0, .int .i64 b1, .int .i64 b2]) := BB.out.ext xa
  have BR : Hid (HV ua (w.heap.size + 2) [.int .i64 0, .int .i64 0, .int .i64 0]) := BR.out.ext xa
  have BM : Hid (HV ua (w.heap.size + 3) [.int .i64 0, .int .i64 0, .int .i64 0]) := BM.out.ext xa
  have HX : Hid (Ext w ua) := HX.out.trans xa
  clear qa qb ka kb xa H0
  have m0 : ua.cell? ⟨w.heap.size + 3, 0, none⟩ = some (.int .i64 0) := BM.out.c 0 rfl
  have m1 : ua.frozen? ⟨w.heap.size + 3, 0, none⟩ = false := BM.out.f 0 rfl
  go_wp2_with fail
  have BA : Hid (HV (ua.setCell ⟨w.heap.size + 3, 0, none⟩ (.int .i64 r0)) w.heap.size [.int .i64 a0, .int .i64 a1, .int .i64 a2]) := BA.out.far (by omega)
  have BB : Hid (HV (ua.setCell ⟨w.heap.size + 3, 0, none⟩ (.int .i64 r0)) (w.heap.size + 1) [.int .i64 b0, .int .i64 b1, .int .i64 b2]) := BB.out.far (by omega)
  have BR : Hid (HV (ua.setCell ⟨w.heap.size + 3, 0, none⟩ (.int .i64 r0)) (w.heap.size + 2) [.int .i64 0, .int .i64 0, .int .i64 0]) := BR.out.far (by omega)
  have BM : Hid (HV (ua.setCell ⟨w.heap.size + 3, 0, none⟩ (.int .i64 r0)) (w.heap.size + 3) [.int .i64 r0, .int .i64 0, .int .i64 0]) := BM.out.set 0 _
  have HX : Hid (Ext w (ua.setCell ⟨w.heap.size + 3, 0, none⟩ (.int .i64 r0))) := HX.out.set (p := ⟨w.heap.size + 3, 0, none⟩) lt3.out _
  clear m0 m1
  generalize (ua.setCell ⟨w.heap.size + 3, 0, none⟩ (.int .i64 r0)) = va at *
  rw [rounds_succ]
  go_upto_region 5 with fail
  have qa : va.cell? ⟨w.heap.size, 1, none⟩ = some (.int .i64 a1) := BA.out.c 1 rfl
  have qb : va.cell? ⟨w.heap.size + 1, 1, none⟩ = some (.int .i64 b1) := BB.out.c 1 rfl
  go_region_held3 (fun w' => w'.cell? ⟨w.heap.size, 1, none⟩ = some (.int .i64 a1) ∧ w'.cell? ⟨w.heap.size + 1, 1, none⟩ = some (.int .i64 b1)) (first | (simp [*]; done) | skip) (first | (go_at_call 33; refine (H1.out _).mono ?_; rintro e ub ⟨rfl, xb0⟩; have xb : Ext va ub := Ext.trans (by repeat (first | with_reducible assumption | with_reducible exact Ext.refl _ | with_reducible refine Ext.drew ?_ | with_reducible refine Ext.drewN ?_ _ | with_reducible refine Ext.alloc ?_ _ | with_reducible refine Ext.set ?_ (by first | exact Nat.le_refl _ | (dsimp only; omega) | (simp; done)) _)) xb0; clear xb0; have ka : ub.cell? ⟨w.heap.size, 1, none⟩ = some (.int .i64 a1) := (BA.out.ext xb).c 1 rfl; have kb : ub.cell? ⟨w.heap.size + 1, 1, none⟩ = some (.int .i64 b1) := (BB.out.ext xb).c 1 rfl))
  have BA : Hid (HV ub w.heap.size [.int .i64 a0, .int .i64 a1, .int .i64 a2]) := BA.out.ext xb
  have BB : Hid (HV ub (w.heap.size + 1) [.int .i64 b0, .int .i64 b1, .int .i64 b2]) := BB.out.ext xb
  have BR : Hid (HV ub (w.heap.size + 2) [.int .i64 0, .int .i64 0, .int .i64 0]) := BR.out.ext xb
  have BM : Hid (HV ub (w.heap.size + 3) [.int .i64 r0, .int .i64 0, .int .i64 0]) := BM.out.ext xb
  have HX : Hid (Ext w ub) := HX.out.trans xb
  clear qa qb ka kb xb H1
  obtain ⟨y0, y1, y2⟩ := BR.out.k3
  obtain ⟨f0, f1, f2⟩ := BR.out.z3
  go_wp2_with fail
  refine bodyPost_ret (v := .tuple #[.agg #[.int .i64 0, .int .i64 0, .int .i64 0], .int .i64 2]) (by simp [results, Try.results29, go_sem, y0, y1, y2]) rfl ⟨rfl, ?_⟩
  exact Ext.set (Ext.set (Ext.set HX.out lt2.out _) lt2.out _) lt2.out _
set_option maxRecDepth 20000 in
set_option maxHeartbeats 8000000 in
theorem thr_ratio2 (a0 a1 a2 b0 b1 b2 r0 r1 : Int) (w : World)
    (H0 : Hid (∀ w', Calls Try.prog 33 #[.int .i64 a0, .int .i64 b0] w' fun e w'' => e = .returned (.tuple #[.int .i64 r0, .int .i64 0]) ∧ Ext w' w''))
    (H1 : Hid (∀ w', Calls Try.prog 33 #[.int .i64 a1, .int .i64 b1] w' fun e w'' => e = .returned (.tuple #[.int .i64 r1, .int .i64 0]) ∧ Ext w' w''))
    (H2 : Hid (∀ w', Calls Try.prog 33 #[.int .i64 a2, .int .i64 b2] w' fun e w'' => e = .returned (.tuple #[.int .i64 0, .int .i64 2]) ∧ Ext w' w'')) :
    Calls Try.prog 29 #[.agg #[.int .i64 a0, .int .i64 a1, .int .i64 a2], .agg #[.int .i64 b0, .int .i64 b1, .int .i64 b2], .func (.func 33) #[] #[]] w fun e w' => e = .returned (.tuple #[.agg #[.int .i64 0, .int .i64 0, .int .i64 0], .int .i64 2]) ∧ Ext w w' := by
  have BA : Hid (HV ((((w.alloc (.cells #[.int .i64 a0, .int .i64 a1, .int .i64 a2] 56)).alloc (.cells #[.int .i64 b0, .int .i64 b1, .int .i64 b2] 56)).alloc (.cells #[.int .i64 0, .int .i64 0, .int .i64 0] 56)).alloc (.cells #[.int .i64 0, .int .i64 0, .int .i64 0] 56)) w.heap.size [.int .i64 a0, .int .i64 a1, .int .i64 a2]) := (((hv_at rfl).alloc _).alloc _).alloc _
  have BB : Hid (HV ((((w.alloc (.cells #[.int .i64 a0, .int .i64 a1, .int .i64 a2] 56)).alloc (.cells #[.int .i64 b0, .int .i64 b1, .int .i64 b2] 56)).alloc (.cells #[.int .i64 0, .int .i64 0, .int .i64 0] 56)).alloc (.cells #[.int .i64 0, .int .i64 0, .int .i64 0] 56)) (w.heap.size + 1) [.int .i64 b0, .int .i64 b1, .int .i64 b2]) := ((hv_at (by simp)).alloc _).alloc _
  have BR : Hid (HV ((((w.alloc (.cells #[.int .i64 a0, .int .i64 a1, .int .i64 a2] 56)).alloc (.cells #[.int .i64 b0, .int .i64 b1, .int .i64 b2] 56)).alloc (.cells #[.int .i64 0, .int .i64 0, .int .i64 0] 56)).alloc (.cells #[.int .i64 0, .int .i64 0, .int .i64 0] 56)) (w.heap.size + 2) [.int .i64 0, .int .i64 0, .int .i64 0]) := (hv_at (by simp)).alloc _
  have BM : Hid (HV ((((w.alloc (.cells #[.int .i64 a0, .int .i64 a1, .int .i64 a2] 56)).alloc (.cells #[.int .i64 b0, .int .i64 b1, .int .i64 b2] 56)).alloc (.cells #[.int .i64 0, .int .i64 0, .int .i64 0] 56)).alloc (.cells #[.int .i64 0, .int .i64 0, .int .i64 0] 56)) (w.heap.size + 3) [.int .i64 0, .int .i64 0, .int .i64 0]) := hv_at (by simp)
  have HX : Hid (Ext w ((((w.alloc (.cells #[.int .i64 a0, .int .i64 a1, .int .i64 a2] 56)).alloc (.cells #[.int .i64 b0, .int .i64 b1, .int .i64 b2] 56)).alloc (.cells #[.int .i64 0, .int .i64 0, .int .i64 0] 56)).alloc (.cells #[.int .i64 0, .int .i64 0, .int .i64 0] 56))) := ((((Ext.refl w).alloc _).alloc _).alloc _).alloc _
  have lt2 : Hid (w.heap.size ≤ w.heap.size + 2) := Nat.le_add_right _ _
  have lt3 : Hid (w.heap.size ≤ w.heap.size + 3) := Nat.le_add_right _ _
  go_enter Try.func29, Try.ntmps29
  go_wp2_with fail
  generalize ((((w.alloc (.cells #[.int .i64 a0, .int .i64 a1, .int .i64 a2] 56)).alloc (.cells #[.int .i64 b0, .int .i64 b1, .int .i64 b2] 56)).alloc (.cells #[.int .i64 0, .int .i64 0, .int .i64 0] 56)).alloc (.cells #[.int .i64 0, .int .i64 0, .int .i64 0] 56)) = wa at *
  refine wp_loop_rounds 4 ?_
  rw [rounds_succ]
  go_upto_region 5 with fail
  have qa : wa.cell? ⟨w.heap.size, 0, none⟩ = some (.int .i64 a0) := BA.out.c 0 rfl
  have qb : wa.cell? ⟨w.heap.size + 1, 0, none⟩ = some (.int .i64 b0) := BB.out.c 0 rfl
  go_region_held3 (fun w' => w'.cell? ⟨w.heap.size, 0, none⟩ = some (.int .i64 a0) ∧ w'.cell? ⟨w.heap.size + 1, 0, none⟩ = some (.int .i64 b0)) (first | (simp [*]; done) | skip) (first | (go_at_call 33; refine (H0.out _).mono ?_; rintro e ua ⟨rfl, xa0⟩; have xa : Ext wa ua := Ext.trans (by repeat (first | with_reducible assumption | with_reducible exact Ext.refl _ | with_reducible refine Ext.drew ?_ | with_reducible refine Ext.drewN ?_ _ | with_reducible refine Ext.alloc ?_ _ | with_reducible refine Ext.set ?_ (by first | exact Nat.le_refl _ | (dsimp only; omega) | (simp; done)) _)) xa0; clear xa0; have ka : ua.cell? ⟨w.heap.size, 0, none⟩ = some (.int .i64 a0) := (BA.out.ext xa).c 0 rfl; have kb : ua.cell? ⟨w.heap.size + 1, 0, none⟩ = some (.int .i64 b0) := (BB.out.ext xa).c 0 rfl))
  have BA : Hid (HV ua w.heap.size [.int .i64 a0, .int .i64 a1, .int .i64 a2]) := BA.out.ext xa
  have BB : Hid (HV ua (w.heap.size + 1) [.int .i64 b0, .int .i64 b1, .int .i64 b2]) := BB.out.ext xa
  have BR : Hid (HV ua (w.heap.size + 2) [.int .i64 0, .int .i64 0, .int .i64 0]) := BR.out.ext xa
  have BM : Hid (HV ua (w.heap.size + 3) [.int .i64 0, .int .i64 0, .int .i64 0]) := BM.out.ext xa
  have HX : Hid (Ext w ua) := HX.out.trans xa
  clear qa qb ka kb xa H0
  have m0 : ua.cell? ⟨w.heap.size + 3, 0, none⟩ = some (.int .i64 0) := BM.out.c 0 rfl
  have m1 : ua.frozen? ⟨w.heap.size + 3, 0, none⟩ = false := BM.out.f 0 rfl
  go_wp2_with fail
  have BA : Hid (HV (ua.setCell ⟨w.heap.size + 3, 0, none⟩ (.int .i64 r0)) w.heap.size [.int .i64 a0, .int .i64 a1, .int .i64 a2]) := BA.out.far (by omega)
  have BB : Hid (HV (ua.setCell ⟨w.heap.size + 3, 0, none⟩ (.int .i64 r0)) (w.heap.size + 1) [.int .i64 b0, .int .i64 b1, .int .i64 b2]) := BB.out.far (by omega)
  have BR : Hid (HV (ua.setCell ⟨w.heap.size + 3, 0, none⟩ (.int .i64 r0)) (w.heap.size + 2) [.int .i64 0, .int .i64 0, .int .i64 0]) := BR.out.far (by omega)
  have BM : Hid (HV (ua.setCell ⟨w.heap.size + 3, 0, none⟩ (.int .i64 r0)) (w.heap.size + 3) [.int .i64 r0, .int .i64 0, .int .i64 0]) := BM.out.set 0 _
  have HX : Hid (Ext w (ua.setCell ⟨w.heap.size + 3, 0, none⟩ (.int .i64 r0))) := HX.out.set (p := ⟨w.heap.size + 3, 0, none⟩) lt3.out _
  clear m0 m1
  generalize (ua.setCell ⟨w.heap.size + 3, 0, none⟩ (.int .i64 r0)) = va at *
  rw [rounds_succ]
  go_upto_region 5 with fail
  have qa : va.cell? ⟨w.heap.size, 1, none⟩ = some (.int .i64 a1) := BA.out.c 1 rfl
  have qb : va.cell? ⟨w.heap.size + 1, 1, none⟩ = some (.int .i64 b1) := BB.out.c 1 rfl
  go_region_held3 (fun w' => w'.cell? ⟨w.heap.size, 1, none⟩ = some (.int .i64 a1) ∧ w'.cell? ⟨w.heap.size + 1, 1, none⟩ = some (.int .i64 b1)) (first | (simp [*]; done) | skip) (first | (go_at_call 33; refine (H1.out _).mono ?_; rintro e ub ⟨rfl, xb0⟩; have xb : Ext va ub := Ext.trans (by repeat (first | with_reducible assumption | with_reducible exact Ext.refl _ | with_reducible refine Ext.drew ?_ | with_reducible refine Ext.drewN ?_ _ | with_reducible refine Ext.alloc ?_ _ | with_reducible refine Ext.set ?_ (by first | exact Nat.le_refl _ | (dsimp only; omega) | (simp; done)) _)) xb0; clear xb0; have ka : ub.cell? ⟨w.heap.size, 1, none⟩ = some (.int .i64 a1) := (BA.out.ext xb).c 1 rfl; have kb : ub.cell? ⟨w.heap.size + 1, 1, none⟩ = some (.int .i64 b1) := (BB.out.ext xb).c 1 rfl))
  have BA : Hid (HV ub w.heap.size [.int .i64 a0, .int .i64 a1, .int .i64 a2]) := BA.out.ext xb
  have BB : Hid (HV ub (w.heap.size + 1) [.int .i64 b0, .int .i64 b1, .int .i64 b2]) := BB.out.ext xb
  have BR : Hid (HV ub (w.heap.size + 2) [.int .i64 0, .int .i64 0, .int .i64 0]) := BR.out.ext xb
  have BM : Hid (HV ub (w.heap.size + 3) [.int .i64 r0, .int .i64 0, .int .i64 0]) := BM.out.ext xb
  have HX : Hid (Ext w ub) := HX.out.trans xb
  clear qa qb ka kb xb H1
  have m0 : ub.cell? ⟨w.heap.size + 3, 1, none⟩ = some (.int .i64 0) := BM.out.c 1 rfl
  have m1 : ub.frozen? ⟨w.heap.size + 3, 1, none⟩ = false := BM.out.f 1 rfl
  go_wp2_with fail
  have BA : Hid (HV (ub.setCell ⟨w.heap.size + 3, 1, none⟩ (.int .i64 r1)) w.heap.size [.int .i64 a0, .int .i64 a1, .int .i64 a2]) := BA.out.far (by omega)
  have BB : Hid (HV (ub.setCell ⟨w.heap.size + 3, 1, none⟩ (.int .i64 r1)) (w.heap.size + 1) [.int .i64 b0, .int .i64 b1, .int .i64 b2]) := BB.out.far (by omega)
  have BR : Hid (HV (ub.setCell ⟨w.heap.size + 3, 1, none⟩ (.int .i64 r1)) (w.heap.size + 2) [.int .i64 0, .int .i64 0, .int .i64 0]) := BR.out.far (by omega)
  have BM : Hid (HV (ub.setCell ⟨w.heap.size + 3, 1, none⟩ (.int .i64 r1)) (w.heap.size + 3) [.int .i64 r0, .int .i64 r1, .int .i64 0]) := BM.out.set 1 _
  have HX : Hid (Ext w (ub.setCell ⟨w.heap.size + 3, 1, none⟩ (.int .i64 r1))) := HX.out.set (p := ⟨w.heap.size + 3, 1, none⟩) lt3.out _
  clear m0 m1
  generalize (ub.setCell ⟨w.heap.size + 3, 1, none⟩ (.int .i64 r1)) = vb at *
  rw [rounds_succ]
  go_upto_region 5 with fail
  have qa : vb.cell? ⟨w.heap.size, 2, none⟩ = some (.int .i64 a2) := BA.out.c 2 rfl
  have qb : vb.cell? ⟨w.heap.size + 1, 2, none⟩ = some (.int .i64 b2) := BB.out.c 2 rfl
  go_region_held3 (fun w' => w'.cell? ⟨w.heap.size, 2, none⟩ = some (.int .i64 a2) ∧ w'.cell? ⟨w.heap.size + 1, 2, none⟩ = some (.int .i64 b2)) (first | (simp [*]; done) | skip) (first | (go_at_call 33; refine (H2.out _).mono ?_; rintro e uc ⟨rfl, xc0⟩; have xc : Ext vb uc := Ext.trans (by repeat (first | with_reducible assumption | with_reducible exact Ext.refl _ | with_reducible refine Ext.drew ?_ | with_reducible refine Ext.drewN ?_ _ | with_reducible refine Ext.alloc ?_ _ | with_reducible refine Ext.set ?_ (by first | exact Nat.le_refl _ | (dsimp only; omega) | (simp; done)) _)) xc0; clear xc0; have ka : uc.cell? ⟨w.heap.size, 2, none⟩ = some (.int .i64 a2) := (BA.out.ext xc).c 2 rfl; have kb : uc.cell? ⟨w.heap.size + 1, 2, none⟩ = some (.int .i64 b2) := (BB.out.ext xc).c 2 rfl))
  have BA : Hid (HV uc w.heap.size [.int .i64 a0, .int .i64 a1, .int .i64 a2]) := BA.out.ext xc
  have BB : Hid (HV uc (w.heap.size + 1) [.int .i64 b0, .int .i64 b1, .int .i64 b2]) := BB.out.ext xc
  have BR : Hid (HV uc (w.heap.size + 2) [.int .i64 0, .int .i64 0, .int .i64 0]) := BR.out.ext xc
  have BM : Hid (HV uc (w.heap.size + 3) [.int .i64 r0, .int .i64 r1, .int .i64 0]) := BM.out.ext xc
  have HX : Hid (Ext w uc) := HX.out.trans xc
  clear qa qb ka kb xc H2
  obtain ⟨y0, y1, y2⟩ := BR.out.k3
  obtain ⟨f0, f1, f2⟩ := BR.out.z3
  go_wp2_with fail
  refine bodyPost_ret (v := .tuple #[.agg #[.int .i64 0, .int .i64 0, .int .i64 0], .int .i64 2]) (by simp [results, Try.results29, go_sem, y0, y1, y2]) rfl ⟨rfl, ?_⟩
  exact Ext.set (Ext.set (Ext.set HX.out lt2.out _) lt2.out _) lt2.out _
set_option maxRecDepth 20000 in
set_option maxHeartbeats 8000000 in
theorem thr_ratio3 (a0 a1 a2 b0 b1 b2 r0 r1 r2 : Int) (w : World)
    (H0 : Hid (∀ w', Calls Try.prog 33 #[.int .i64 a0, .int .i64 b0] w' fun e w'' => e = .returned (.tuple #[.int .i64 r0, .int .i64 0]) ∧ Ext w' w''))
    (H1 : Hid (∀ w', Calls Try.prog 33 #[.int .i64 a1, .int .i64 b1] w' fun e w'' => e = .returned (.tuple #[.int .i64 r1, .int .i64 0]) ∧ Ext w' w''))
    (H2 : Hid (∀ w', Calls Try.prog 33 #[.int .i64 a2, .int .i64 b2] w' fun e w'' => e = .returned (.tuple #[.int .i64 r2, .int .i64 0]) ∧ Ext w' w'')) :
    Calls Try.prog 29 #[.agg #[.int .i64 a0, .int .i64 a1, .int .i64 a2], .agg #[.int .i64 b0, .int .i64 b1, .int .i64 b2], .func (.func 33) #[] #[]] w fun e w' => e = .returned (.tuple #[.agg #[.int .i64 r0, .int .i64 r1, .int .i64 r2], .int .i64 0]) ∧ Ext w w' := by
  have BA : Hid (HV ((((w.alloc (.cells #[.int .i64 a0, .int .i64 a1, .int .i64 a2] 56)).alloc (.cells #[.int .i64 b0, .int .i64 b1, .int .i64 b2] 56)).alloc (.cells #[.int .i64 0, .int .i64 0, .int .i64 0] 56)).alloc (.cells #[.int .i64 0, .int .i64 0, .int .i64 0] 56)) w.heap.size [.int .i64 a0, .int .i64 a1, .int .i64 a2]) := (((hv_at rfl).alloc _).alloc _).alloc _
  have BB : Hid (HV ((((w.alloc (.cells #[.int .i64 a0, .int .i64 a1, .int .i64 a2] 56)).alloc (.cells #[.int .i64 b0, .int .i64 b1, .int .i64 b2] 56)).alloc (.cells #[.int .i64 0, .int .i64 0, .int .i64 0] 56)).alloc (.cells #[.int .i64 0, .int .i64 0, .int .i64 0] 56)) (w.heap.size + 1) [.int .i64 b0, .int .i64 b1, .int .i64 b2]) := ((hv_at (by simp)).alloc _).alloc _
  have BR : Hid (HV ((((w.alloc (.cells #[.int .i64 a0, .int .i64 a1, .int .i64 a2] 56)).alloc (.cells #[.int .i64 b0, .int .i64 b1, .int .i64 b2] 56)).alloc (.cells #[.int .i64 0, .int .i64 0, .int .i64 0] 56)).alloc (.cells #[.int .i64 0, .int .i64 0, .int .i64 0] 56)) (w.heap.size + 2) [.int .i64 0, .int .i64 0, .int .i64 0]) := (hv_at (by simp)).alloc _
  have BM : Hid (HV ((((w.alloc (.cells #[.int .i64 a0, .int .i64 a1, .int .i64 a2] 56)).alloc (.cells #[.int .i64 b0, .int .i64 b1, .int .i64 b2] 56)).alloc (.cells #[.int .i64 0, .int .i64 0, .int .i64 0] 56)).alloc (.cells #[.int .i64 0, .int .i64 0, .int .i64 0] 56)) (w.heap.size + 3) [.int .i64 0, .int .i64 0, .int .i64 0]) := hv_at (by simp)
  have HX : Hid (Ext w ((((w.alloc (.cells #[.int .i64 a0, .int .i64 a1, .int .i64 a2] 56)).alloc (.cells #[.int .i64 b0, .int .i64 b1, .int .i64 b2] 56)).alloc (.cells #[.int .i64 0, .int .i64 0, .int .i64 0] 56)).alloc (.cells #[.int .i64 0, .int .i64 0, .int .i64 0] 56))) := ((((Ext.refl w).alloc _).alloc _).alloc _).alloc _
  have lt2 : Hid (w.heap.size ≤ w.heap.size + 2) := Nat.le_add_right _ _
  have lt3 : Hid (w.heap.size ≤ w.heap.size + 3) := Nat.le_add_right _ _
  go_enter Try.func29, Try.ntmps29
  go_wp2_with fail
  generalize ((((w.alloc (.cells #[.int .i64 a0, .int .i64 a1, .int .i64 a2] 56)).alloc (.cells #[.int .i64 b0, .int .i64 b1, .int .i64 b2] 56)).alloc (.cells #[.int .i64 0, .int .i64 0, .int .i64 0] 56)).alloc (.cells #[.int .i64 0, .int .i64 0, .int .i64 0] 56)) = wa at *
  refine wp_loop_rounds 4 ?_
  rw [rounds_succ]
  go_upto_region 5 with fail
  have qa : wa.cell? ⟨w.heap.size, 0, none⟩ = some (.int .i64 a0) := BA.out.c 0 rfl
  have qb : wa.cell? ⟨w.heap.size + 1, 0, none⟩ = some (.int .i64 b0) := BB.out.c 0 rfl
  go_region_held3 (fun w' => w'.cell? ⟨w.heap.size, 0, none⟩ = some (.int .i64 a0) ∧ w'.cell? ⟨w.heap.size + 1, 0, none⟩ = some (.int .i64 b0)) (first | (simp [*]; done) | skip) (first | (go_at_call 33; refine (H0.out _).mono ?_; rintro e ua ⟨rfl, xa0⟩; have xa : Ext wa ua := Ext.trans (by repeat (first | with_reducible assumption | with_reducible exact Ext.refl _ | with_reducible refine Ext.drew ?_ | with_reducible refine Ext.drewN ?_ _ | with_reducible refine Ext.alloc ?_ _ | with_reducible refine Ext.set ?_ (by first | exact Nat.le_refl _ | (dsimp only; omega) | (simp; done)) _)) xa0; clear xa0; have ka : ua.cell? ⟨w.heap.size, 0, none⟩ = some (.int .i64 a0) := (BA.out.ext xa).c 0 rfl; have kb : ua.cell? ⟨w.heap.size + 1, 0, none⟩ = some (.int .i64 b0) := (BB.out.ext xa).c 0 rfl))
  have BA : Hid (HV ua w.heap.size [.int .i64 a0, .int .i64 a1, .int .i64 a2]) := BA.out.ext xa
  have BB : Hid (HV ua (w.heap.size + 1) [.int .i64 b0, .int .i64 b1, .int .i64 b2]) := BB.out.ext xa
  have BR : Hid (HV ua (w.heap.size + 2) [.int .i64 0, .int .i64 0, .int .i64 0]) := BR.out.ext xa
  have BM : Hid (HV ua (w.heap.size + 3) [.int .i64 0, .int .i64 0, .int .i64 0]) := BM.out.ext xa
  have HX : Hid (Ext w ua) := HX.out.trans xa
  clear qa qb ka kb xa H0
  have m0 : ua.cell? ⟨w.heap.size + 3, 0, none⟩ = some (.int .i64 0) := BM.out.c 0 rfl
  have m1 : ua.frozen? ⟨w.heap.size + 3, 0, none⟩ = false := BM.out.f 0 rfl
  go_wp2_with fail
  have BA : Hid (HV (ua.setCell ⟨w.heap.size + 3, 0, none⟩ (.int .i64 r0)) w.heap.size [.int .i64 a0, .int .i64 a1, .int .i64 a2]) := BA.out.far (by omega)
  have BB : Hid (HV (ua.setCell ⟨w.heap.size + 3, 0, none⟩ (.int .i64 r0)) (w.heap.size + 1) [.int .i64 b0, .int .i64 b1, .int .i64 b2]) := BB.out.far (by omega)
  have BR : Hid (HV (ua.setCell ⟨w.heap.size + 3, 0, none⟩ (.int .i64 r0)) (w.heap.size + 2) [.int .i64 0, .int .i64 0, .int .i64 0]) := BR.out.far (by omega)
  have BM : Hid (HV (ua.setCell ⟨w.heap.size + 3, 0, none⟩ (.int .i64 r0)) (w.heap.size + 3) [.int .i64 r0, .int .i64 0, .int .i64 0]) := BM.out.set 0 _
  have HX : Hid (Ext w (ua.setCell ⟨w.heap.size + 3, 0, none⟩ (.int .i64 r0))) := HX.out.set (p := ⟨w.heap.size + 3, 0, none⟩) lt3.out _
  clear m0 m1
  generalize (ua.setCell ⟨w.heap.size + 3, 0, none⟩ (.int .i64 r0)) = va at *
  rw [rounds_succ]
  go_upto_region 5 with fail
  have qa : va.cell? ⟨w.heap.size, 1, none⟩ = some (.int .i64 a1) := BA.out.c 1 rfl
  have qb : va.cell? ⟨w.heap.size + 1, 1, none⟩ = some (.int .i64 b1) := BB.out.c 1 rfl
  go_region_held3 (fun w' => w'.cell? ⟨w.heap.size, 1, none⟩ = some (.int .i64 a1) ∧ w'.cell? ⟨w.heap.size + 1, 1, none⟩ = some (.int .i64 b1)) (first | (simp [*]; done) | skip) (first | (go_at_call 33; refine (H1.out _).mono ?_; rintro e ub ⟨rfl, xb0⟩; have xb : Ext va ub := Ext.trans (by repeat (first | with_reducible assumption | with_reducible exact Ext.refl _ | with_reducible refine Ext.drew ?_ | with_reducible refine Ext.drewN ?_ _ | with_reducible refine Ext.alloc ?_ _ | with_reducible refine Ext.set ?_ (by first | exact Nat.le_refl _ | (dsimp only; omega) | (simp; done)) _)) xb0; clear xb0; have ka : ub.cell? ⟨w.heap.size, 1, none⟩ = some (.int .i64 a1) := (BA.out.ext xb).c 1 rfl; have kb : ub.cell? ⟨w.heap.size + 1, 1, none⟩ = some (.int .i64 b1) := (BB.out.ext xb).c 1 rfl))
  have BA : Hid (HV ub w.heap.size [.int .i64 a0, .int .i64 a1, .int .i64 a2]) := BA.out.ext xb
  have BB : Hid (HV ub (w.heap.size + 1) [.int .i64 b0, .int .i64 b1, .int .i64 b2]) := BB.out.ext xb
  have BR : Hid (HV ub (w.heap.size + 2) [.int .i64 0, .int .i64 0, .int .i64 0]) := BR.out.ext xb
  have BM : Hid (HV ub (w.heap.size + 3) [.int .i64 r0, .int .i64 0, .int .i64 0]) := BM.out.ext xb
  have HX : Hid (Ext w ub) := HX.out.trans xb
  clear qa qb ka kb xb H1
  have m0 : ub.cell? ⟨w.heap.size + 3, 1, none⟩ = some (.int .i64 0) := BM.out.c 1 rfl
  have m1 : ub.frozen? ⟨w.heap.size + 3, 1, none⟩ = false := BM.out.f 1 rfl
  go_wp2_with fail
  have BA : Hid (HV (ub.setCell ⟨w.heap.size + 3, 1, none⟩ (.int .i64 r1)) w.heap.size [.int .i64 a0, .int .i64 a1, .int .i64 a2]) := BA.out.far (by omega)
  have BB : Hid (HV (ub.setCell ⟨w.heap.size + 3, 1, none⟩ (.int .i64 r1)) (w.heap.size + 1) [.int .i64 b0, .int .i64 b1, .int .i64 b2]) := BB.out.far (by omega)
  have BR : Hid (HV (ub.setCell ⟨w.heap.size + 3, 1, none⟩ (.int .i64 r1)) (w.heap.size + 2) [.int .i64 0, .int .i64 0, .int .i64 0]) := BR.out.far (by omega)
  have BM : Hid (HV (ub.setCell ⟨w.heap.size + 3, 1, none⟩ (.int .i64 r1)) (w.heap.size + 3) [.int .i64 r0, .int .i64 r1, .int .i64 0]) := BM.out.set 1 _
  have HX : Hid (Ext w (ub.setCell ⟨w.heap.size + 3, 1, none⟩ (.int .i64 r1))) := HX.out.set (p := ⟨w.heap.size + 3, 1, none⟩) lt3.out _
  clear m0 m1
  generalize (ub.setCell ⟨w.heap.size + 3, 1, none⟩ (.int .i64 r1)) = vb at *
  rw [rounds_succ]
  go_upto_region 5 with fail
  have qa : vb.cell? ⟨w.heap.size, 2, none⟩ = some (.int .i64 a2) := BA.out.c 2 rfl
  have qb : vb.cell? ⟨w.heap.size + 1, 2, none⟩ = some (.int .i64 b2) := BB.out.c 2 rfl
  go_region_held3 (fun w' => w'.cell? ⟨w.heap.size, 2, none⟩ = some (.int .i64 a2) ∧ w'.cell? ⟨w.heap.size + 1, 2, none⟩ = some (.int .i64 b2)) (first | (simp [*]; done) | skip) (first | (go_at_call 33; refine (H2.out _).mono ?_; rintro e uc ⟨rfl, xc0⟩; have xc : Ext vb uc := Ext.trans (by repeat (first | with_reducible assumption | with_reducible exact Ext.refl _ | with_reducible refine Ext.drew ?_ | with_reducible refine Ext.drewN ?_ _ | with_reducible refine Ext.alloc ?_ _ | with_reducible refine Ext.set ?_ (by first | exact Nat.le_refl _ | (dsimp only; omega) | (simp; done)) _)) xc0; clear xc0; have ka : uc.cell? ⟨w.heap.size, 2, none⟩ = some (.int .i64 a2) := (BA.out.ext xc).c 2 rfl; have kb : uc.cell? ⟨w.heap.size + 1, 2, none⟩ = some (.int .i64 b2) := (BB.out.ext xc).c 2 rfl))
  have BA : Hid (HV uc w.heap.size [.int .i64 a0, .int .i64 a1, .int .i64 a2]) := BA.out.ext xc
  have BB : Hid (HV uc (w.heap.size + 1) [.int .i64 b0, .int .i64 b1, .int .i64 b2]) := BB.out.ext xc
  have BR : Hid (HV uc (w.heap.size + 2) [.int .i64 0, .int .i64 0, .int .i64 0]) := BR.out.ext xc
  have BM : Hid (HV uc (w.heap.size + 3) [.int .i64 r0, .int .i64 r1, .int .i64 0]) := BM.out.ext xc
  have HX : Hid (Ext w uc) := HX.out.trans xc
  clear qa qb ka kb xc H2
  have m0 : uc.cell? ⟨w.heap.size + 3, 2, none⟩ = some (.int .i64 0) := BM.out.c 2 rfl
  have m1 : uc.frozen? ⟨w.heap.size + 3, 2, none⟩ = false := BM.out.f 2 rfl
  go_wp2_with fail
  have BA : Hid (HV (uc.setCell ⟨w.heap.size + 3, 2, none⟩ (.int .i64 r2)) w.heap.size [.int .i64 a0, .int .i64 a1, .int .i64 a2]) := BA.out.far (by omega)
  have BB : Hid (HV (uc.setCell ⟨w.heap.size + 3, 2, none⟩ (.int .i64 r2)) (w.heap.size + 1) [.int .i64 b0, .int .i64 b1, .int .i64 b2]) := BB.out.far (by omega)
  have BR : Hid (HV (uc.setCell ⟨w.heap.size + 3, 2, none⟩ (.int .i64 r2)) (w.heap.size + 2) [.int .i64 0, .int .i64 0, .int .i64 0]) := BR.out.far (by omega)
  have BM : Hid (HV (uc.setCell ⟨w.heap.size + 3, 2, none⟩ (.int .i64 r2)) (w.heap.size + 3) [.int .i64 r0, .int .i64 r1, .int .i64 r2]) := BM.out.set 2 _
  have HX : Hid (Ext w (uc.setCell ⟨w.heap.size + 3, 2, none⟩ (.int .i64 r2))) := HX.out.set (p := ⟨w.heap.size + 3, 2, none⟩) lt3.out _
  clear m0 m1
  generalize (uc.setCell ⟨w.heap.size + 3, 2, none⟩ (.int .i64 r2)) = vc at *
  rw [rounds_succ]
  obtain ⟨m0, m1, m2⟩ := BM.out.k3
  obtain ⟨y0, y1, y2⟩ := BR.out.k3
  obtain ⟨f0, f1, f2⟩ := BR.out.z3
  go_wp2_with fail
  refine bodyPost_ret (v := .tuple #[.agg #[.int .i64 r0, .int .i64 r1, .int .i64 r2], .int .i64 0]) (by simp [results, Try.results29, go_sem, y0, y1, y2]) rfl ⟨rfl, ?_⟩
  exact Ext.set (Ext.set (Ext.set HX.out lt2.out _) lt2.out _) lt2.out _
theorem thr_mean (a0 a1 a2 n : Int) (w : World) (hn : 1 ≤ n ∧ n ≤ 32768) (h0 : -9223372036854775808 ≤ a0 ∧ a0 ≤ 9223372036854775807) (h1 : -9223372036854775808 ≤ a1 ∧ a1 ≤ 9223372036854775807) (h2 : -9223372036854775808 ≤ a2 ∧ a2 ≤ 9223372036854775807) :
    Calls Try.prog 29 #[.agg #[.int .i64 a0, .int .i64 a1, .int .i64 a2], .agg #[.int .i64 n, .int .i64 n, .int .i64 n], .func (.func 33) #[] #[]] w fun e w' => e = .returned (vres (nearI a0 n) (nearI a1 n) (nearI a2 n)) ∧ Ext w w' := by
  have R0 := fun w => ratio_n a0 n w hn h0.1 h0.2
  have R1 := fun w => ratio_n a1 n w hn h1.1 h1.2
  have R2 := fun w => ratio_n a2 n w hn h2.1 h2.2
  cases k0 : okW (nearI a0 n)
  · rw [fit_no' k0] at R0
    have e : vres (nearI a0 n) (nearI a1 n) (nearI a2 n) = .tuple #[.agg #[.int .i64 0, .int .i64 0, .int .i64 0], .int .i64 2] := by unfold vres ok3; rw [k0]; rfl
    rw [e]
    exact thr_ratio0 _ _ _ _ _ _ w R0
  · rw [fit_yes' k0] at R0
    cases k1 : okW (nearI a1 n)
    · rw [fit_no' k1] at R1
      have e : vres (nearI a0 n) (nearI a1 n) (nearI a2 n) = .tuple #[.agg #[.int .i64 0, .int .i64 0, .int .i64 0], .int .i64 2] := by unfold vres ok3; rw [k0, k1]; rfl
      rw [e]
      exact thr_ratio1 _ _ _ _ _ _ _ w R0 R1
    · rw [fit_yes' k1] at R1
      cases k2 : okW (nearI a2 n)
      · rw [fit_no' k2] at R2
        have e : vres (nearI a0 n) (nearI a1 n) (nearI a2 n) = .tuple #[.agg #[.int .i64 0, .int .i64 0, .int .i64 0], .int .i64 2] := by unfold vres ok3; rw [k0, k1, k2]; rfl
        rw [e]
        exact thr_ratio2 _ _ _ _ _ _ _ _ w R0 R1 R2
      · rw [fit_yes' k2] at R2
        have e : vres (nearI a0 n) (nearI a1 n) (nearI a2 n) = .tuple #[.agg #[.int .i64 (nearI a0 n), .int .i64 (nearI a1 n), .int .i64 (nearI a2 n)], .int .i64 0] := by unfold vres ok3; rw [k0, k1, k2]; rfl
        rw [e]
        exact thr_ratio3 _ _ _ _ _ _ _ _ _ w R0 R1 R2
end Go.Proofs.Ytkcfgkedgjpeoaa
