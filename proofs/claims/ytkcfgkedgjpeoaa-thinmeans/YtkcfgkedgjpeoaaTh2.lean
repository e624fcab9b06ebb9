/- thin: with, mean. -/
import Derived.Test.YtkcfgkedgjpeoaaTh1
namespace Go.Proofs.Ytkcfgkedgjpeoaa
open Go.RowKit Go.Shelf
set_option maxRecDepth 20000 in
set_option maxHeartbeats 16000000 in
theorem twith_any (s0 s1 s2 n v0 v1 v2 t0 t1 t2 m : Int) (w : World) (h0 : wrap64 (s0 + v0) = t0) (h1 : wrap64 (s1 + v1) = t1) (h2 : wrap64 (s2 + v2) = t2) (hm : wrap64 (n + 1) = m) :
    Calls Try.prog 21 #[.agg #[.int .i64 s0, .int .i64 s1, .int .i64 s2, .int .i64 n], .agg #[.int .i64 v0, .int .i64 v1, .int .i64 v2]] w fun e w' => e = .returned (.tuple #[.agg #[.int .i64 t0, .int .i64 t1, .int .i64 t2, .int .i64 m], .int .i64 0]) ∧ Ext w w' := by
  have NS : Hid (∀ w, Calls Try.prog 30 #[.agg #[.int .i64 s0, .int .i64 s1, .int .i64 s2]] w fun e w' => e = .returned (.agg #[.int .i64 s0, .int .i64 s1, .int .i64 s2]) ∧ Ext w w') := numbersof_any s0 s1 s2
  have NV : Hid (∀ w, Calls Try.prog 30 #[.agg #[.int .i64 v0, .int .i64 v1, .int .i64 v2]] w fun e w' => e = .returned (.agg #[.int .i64 v0, .int .i64 v1, .int .i64 v2]) ∧ Ext w w') := numbersof_any v0 v1 v2
  have HT : Hid (∀ w, Calls Try.prog 29 #[.agg #[.int .i64 s0, .int .i64 s1, .int .i64 s2], .agg #[.int .i64 v0, .int .i64 v1, .int .i64 v2], .func (.func 31) #[] #[]] w fun e w' => e = .returned (.tuple #[.agg #[.int .i64 t0, .int .i64 t1, .int .i64 t2], .int .i64 0]) ∧ Ext w w') := fun w => thr_plus _ _ _ _ _ _ _ _ _ w (fun w => plus1_any _ _ _ w h0) (fun w => plus1_any _ _ _ w h1) (fun w => plus1_any _ _ _ w h2)
  have HO : Hid (∀ w, Calls Try.prog 32 #[.agg #[.int .i64 t0, .int .i64 t1, .int .i64 t2]] w fun e w' => e = .returned (.agg #[.int .i64 t0, .int .i64 t1, .int .i64 t2]) ∧ Ext w w') := vectorof_any t0 t1 t2
  clear h0 h1 h2
  have B1 : Hid (HV (((w.alloc (.cells #[.int .i64 s0, .int .i64 s1, .int .i64 s2, .int .i64 n] 26)).alloc (.cells #[.int .i64 v0, .int .i64 v1, .int .i64 v2] 24)).alloc (.cells #[.int .i64 0, .int .i64 0, .int .i64 0, .int .i64 0] 26)) w.heap.size [.int .i64 s0, .int .i64 s1, .int .i64 s2, .int .i64 n]) := ((hv_at rfl).alloc _).alloc _
  have B2 : Hid (HV (((w.alloc (.cells #[.int .i64 s0, .int .i64 s1, .int .i64 s2, .int .i64 n] 26)).alloc (.cells #[.int .i64 v0, .int .i64 v1, .int .i64 v2] 24)).alloc (.cells #[.int .i64 0, .int .i64 0, .int .i64 0, .int .i64 0] 26)) (w.heap.size + 1) [.int .i64 v0, .int .i64 v1, .int .i64 v2]) := (hv_at (by simp)).alloc _
  have B3 : Hid (HV (((w.alloc (.cells #[.int .i64 s0, .int .i64 s1, .int .i64 s2, .int .i64 n] 26)).alloc (.cells #[.int .i64 v0, .int .i64 v1, .int .i64 v2] 24)).alloc (.cells #[.int .i64 0, .int .i64 0, .int .i64 0, .int .i64 0] 26)) (w.heap.size + 2) [.int .i64 0, .int .i64 0, .int .i64 0, .int .i64 0]) := hv_at (by simp)
  have lt2 : Hid (w.heap.size ≤ w.heap.size + 2) := Nat.le_add_right _ _
  have HX : Hid (Ext w (((w.alloc (.cells #[.int .i64 s0, .int .i64 s1, .int .i64 s2, .int .i64 n] 26)).alloc (.cells #[.int .i64 v0, .int .i64 v1, .int .i64 v2] 24)).alloc (.cells #[.int .i64 0, .int .i64 0, .int .i64 0, .int .i64 0] 26))) := (((Ext.refl w).alloc _).alloc _).alloc _
  go_enter Try.func21, Try.ntmps21
  go_upto_region 1 with fail
  generalize (((w.alloc (.cells #[.int .i64 s0, .int .i64 s1, .int .i64 s2, .int .i64 n] 26)).alloc (.cells #[.int .i64 v0, .int .i64 v1, .int .i64 v2] 24)).alloc (.cells #[.int .i64 0, .int .i64 0, .int .i64 0, .int .i64 0] 26)) = w2 at *
  go_cut [6, 7] (fun v6 v7 wx => ∃ g : Nat, v6 = .pointer (some ⟨g, 0, none⟩) ∧ v7 = .int .i64 0 ∧ w.heap.size + 2 < g ∧ Hid (HV wx g [.int .i64 t0, .int .i64 t1, .int .i64 t2]) ∧ Hid (Ext w2 wx))
  case first =>
    have c0 : w2.cell? ⟨w.heap.size, 0, none⟩ = some (.int .i64 s0) := B1.out.c 0 rfl
    have c1 : w2.cell? ⟨w.heap.size, 1, none⟩ = some (.int .i64 s1) := B1.out.c 1 rfl
    have c2 : w2.cell? ⟨w.heap.size, 2, none⟩ = some (.int .i64 s2) := B1.out.c 2 rfl
    have d0 : w2.cell? ⟨w.heap.size + 1, 0, none⟩ = some (.int .i64 v0) := B2.out.c 0 rfl
    have d1 : w2.cell? ⟨w.heap.size + 1, 1, none⟩ = some (.int .i64 v1) := B2.out.c 1 rfl
    have d2 : w2.cell? ⟨w.heap.size + 1, 2, none⟩ = some (.int .i64 v2) := B2.out.c 2 rfl
    have lt3 : w.heap.size + 2 < w2.heap.size := B3.out.1
    obtain ⟨nea, neb, nec, ned⟩ : w.heap.size ≠ w2.heap.size ∧ w2.heap.size ≠ w.heap.size ∧ w.heap.size + 1 ≠ w2.heap.size ∧ w2.heap.size ≠ w.heap.size + 1 := by omega
    go_region_held3 (fun w' => w'.cell? ⟨w.heap.size, 0, none⟩ = some (.int .i64 s0) ∧ w'.cell? ⟨w.heap.size, 1, none⟩ = some (.int .i64 s1) ∧ w'.cell? ⟨w.heap.size, 2, none⟩ = some (.int .i64 s2) ∧ w'.cell? ⟨w.heap.size + 1, 0, none⟩ = some (.int .i64 v0) ∧ w'.cell? ⟨w.heap.size + 1, 1, none⟩ = some (.int .i64 v1) ∧ w'.cell? ⟨w.heap.size + 1, 2, none⟩ = some (.int .i64 v2)) (first | (go_keep; done) | (refine ⟨?_, ?_, ?_, ?_, ?_, ?_⟩ <;> (rw [World.cell?_setCell_far _ _ _ _ (by dsimp only; omega), World.cell?_setCell_far _ _ _ _ (by dsimp only; omega), World.cell?_setCell_far _ _ _ _ (by dsimp only; omega)]; with_reducible assumption)) | skip) (first | (go_at_call_of 30 ((Value.agg #[Value.int IntKind.i64 s0, Value.int IntKind.i64 s1, Value.int IntKind.i64 s2])); refine (NS.out _).mono ?_; rintro e m1 ⟨rfl, zm1⟩; have Ym1 : Ext w2 m1 := Ext.trans (by repeat (first | with_reducible assumption | with_reducible exact Ext.refl _ | with_reducible refine Ext.drew ?_ | with_reducible refine Ext.drewN ?_ _ | with_reducible refine Ext.alloc ?_ _ | with_reducible refine Ext.set ?_ (by first | exact Nat.le_refl _ | (dsimp only; omega) | (simp; done)) _)) zm1; have cm10 : m1.cell? ⟨w.heap.size, 0, none⟩ = some (.int .i64 s0) := (B1.out.ext Ym1).c 0 rfl; have cm11 : m1.cell? ⟨w.heap.size, 1, none⟩ = some (.int .i64 s1) := (B1.out.ext Ym1).c 1 rfl; have cm12 : m1.cell? ⟨w.heap.size, 2, none⟩ = some (.int .i64 s2) := (B1.out.ext Ym1).c 2 rfl; have dm10 : m1.cell? ⟨w.heap.size + 1, 0, none⟩ = some (.int .i64 v0) := (B2.out.ext Ym1).c 0 rfl; have dm11 : m1.cell? ⟨w.heap.size + 1, 1, none⟩ = some (.int .i64 v1) := (B2.out.ext Ym1).c 1 rfl; have dm12 : m1.cell? ⟨w.heap.size + 1, 2, none⟩ = some (.int .i64 v2) := (B2.out.ext Ym1).c 2 rfl; obtain ⟨nem1a, nem1b, nem1c, nem1d, lem1⟩ : w.heap.size ≠ m1.heap.size ∧ m1.heap.size ≠ w.heap.size ∧ w.heap.size + 1 ≠ m1.heap.size ∧ m1.heap.size ≠ w.heap.size + 1 ∧ w2.heap.size ≤ m1.heap.size := (by have := Ym1.size; omega); first | (have G : Hid (HV m1 w2.heap.size [.int .i64 0, .int .i64 0, .int .i64 0]) := (hv_at (w := w2) (T := 56) rfl).drew.ext zm1; obtain ⟨gm10, gm11, gm12⟩ := G.out.k3; obtain ⟨fm10, fm11, fm12⟩ := G.out.z3) | (have G : Hid (HV m1 w2.heap.size [.int .i64 0, .int .i64 0, .int .i64 0]) := (hv_at (w := w2) (T := 56) rfl).ext zm1; obtain ⟨gm10, gm11, gm12⟩ := G.out.k3; obtain ⟨fm10, fm11, fm12⟩ := G.out.z3) | skip) | (go_at_call_of 30 ((Value.agg #[Value.int IntKind.i64 v0, Value.int IntKind.i64 v1, Value.int IntKind.i64 v2])); refine (NV.out _).mono ?_; rintro e m2 ⟨rfl, zm2⟩; have Ym2 : Ext w2 m2 := Ext.trans (by repeat (first | with_reducible assumption | with_reducible exact Ext.refl _ | with_reducible refine Ext.drew ?_ | with_reducible refine Ext.drewN ?_ _ | with_reducible refine Ext.alloc ?_ _ | with_reducible refine Ext.set ?_ (by first | exact Nat.le_refl _ | (dsimp only; omega) | (simp; done)) _)) zm2; have cm20 : m2.cell? ⟨w.heap.size, 0, none⟩ = some (.int .i64 s0) := (B1.out.ext Ym2).c 0 rfl; have cm21 : m2.cell? ⟨w.heap.size, 1, none⟩ = some (.int .i64 s1) := (B1.out.ext Ym2).c 1 rfl; have cm22 : m2.cell? ⟨w.heap.size, 2, none⟩ = some (.int .i64 s2) := (B1.out.ext Ym2).c 2 rfl; have dm20 : m2.cell? ⟨w.heap.size + 1, 0, none⟩ = some (.int .i64 v0) := (B2.out.ext Ym2).c 0 rfl; have dm21 : m2.cell? ⟨w.heap.size + 1, 1, none⟩ = some (.int .i64 v1) := (B2.out.ext Ym2).c 1 rfl; have dm22 : m2.cell? ⟨w.heap.size + 1, 2, none⟩ = some (.int .i64 v2) := (B2.out.ext Ym2).c 2 rfl; obtain ⟨nem2a, nem2b, nem2c, nem2d, lem2⟩ : w.heap.size ≠ m2.heap.size ∧ m2.heap.size ≠ w.heap.size ∧ w.heap.size + 1 ≠ m2.heap.size ∧ m2.heap.size ≠ w.heap.size + 1 ∧ w2.heap.size ≤ m2.heap.size := (by have := Ym2.size; omega); first | (have G : Hid (HV m2 _ [.int .i64 0, .int .i64 0, .int .i64 0]) := G.out.ext zm2; obtain ⟨gm20, gm21, gm22⟩ := G.out.k3; obtain ⟨fm20, fm21, fm22⟩ := G.out.z3) | (have G : Hid (HV m2 _ [.int .i64 0, .int .i64 0, .int .i64 0]) := G.out.drew.ext zm2; obtain ⟨gm20, gm21, gm22⟩ := G.out.k3; obtain ⟨fm20, fm21, fm22⟩ := G.out.z3) | (have G : Hid (HV m2 m1.heap.size [.int .i64 0, .int .i64 0, .int .i64 0]) := (hv_at (w := m1) (T := 56) rfl).drew.ext zm2; obtain ⟨gm20, gm21, gm22⟩ := G.out.k3; obtain ⟨fm20, fm21, fm22⟩ := G.out.z3) | (have G : Hid (HV m2 m1.heap.size [.int .i64 0, .int .i64 0, .int .i64 0]) := (hv_at (w := m1) (T := 56) rfl).ext zm2; obtain ⟨gm20, gm21, gm22⟩ := G.out.k3; obtain ⟨fm20, fm21, fm22⟩ := G.out.z3) | skip) | (go_at_call 29; refine (HT.out _).mono ?_; rintro e m3 ⟨rfl, zm3⟩; have Ym3 : Ext w2 m3 := Ext.trans (by repeat (first | with_reducible assumption | with_reducible exact Ext.refl _ | with_reducible refine Ext.drew ?_ | with_reducible refine Ext.drewN ?_ _ | with_reducible refine Ext.alloc ?_ _ | with_reducible refine Ext.set ?_ (by first | exact Nat.le_refl _ | (dsimp only; omega) | (simp; done)) _)) zm3; have cm30 : m3.cell? ⟨w.heap.size, 0, none⟩ = some (.int .i64 s0) := (B1.out.ext Ym3).c 0 rfl; have cm31 : m3.cell? ⟨w.heap.size, 1, none⟩ = some (.int .i64 s1) := (B1.out.ext Ym3).c 1 rfl; have cm32 : m3.cell? ⟨w.heap.size, 2, none⟩ = some (.int .i64 s2) := (B1.out.ext Ym3).c 2 rfl; have dm30 : m3.cell? ⟨w.heap.size + 1, 0, none⟩ = some (.int .i64 v0) := (B2.out.ext Ym3).c 0 rfl; have dm31 : m3.cell? ⟨w.heap.size + 1, 1, none⟩ = some (.int .i64 v1) := (B2.out.ext Ym3).c 1 rfl; have dm32 : m3.cell? ⟨w.heap.size + 1, 2, none⟩ = some (.int .i64 v2) := (B2.out.ext Ym3).c 2 rfl; obtain ⟨nem3a, nem3b, nem3c, nem3d, lem3⟩ : w.heap.size ≠ m3.heap.size ∧ m3.heap.size ≠ w.heap.size ∧ w.heap.size + 1 ≠ m3.heap.size ∧ m3.heap.size ≠ w.heap.size + 1 ∧ w2.heap.size ≤ m3.heap.size := (by have := Ym3.size; omega); first | (have G : Hid (HV m3 _ [.int .i64 0, .int .i64 0, .int .i64 0]) := G.out.ext zm3; obtain ⟨gm30, gm31, gm32⟩ := G.out.k3; obtain ⟨fm30, fm31, fm32⟩ := G.out.z3) | (have G : Hid (HV m3 _ [.int .i64 0, .int .i64 0, .int .i64 0]) := G.out.drew.ext zm3; obtain ⟨gm30, gm31, gm32⟩ := G.out.k3; obtain ⟨fm30, fm31, fm32⟩ := G.out.z3) | (have G : Hid (HV m3 m2.heap.size [.int .i64 0, .int .i64 0, .int .i64 0]) := (hv_at (w := m2) (T := 56) rfl).drew.ext zm3; obtain ⟨gm30, gm31, gm32⟩ := G.out.k3; obtain ⟨fm30, fm31, fm32⟩ := G.out.z3) | (have G : Hid (HV m3 m2.heap.size [.int .i64 0, .int .i64 0, .int .i64 0]) := (hv_at (w := m2) (T := 56) rfl).ext zm3; obtain ⟨gm30, gm31, gm32⟩ := G.out.k3; obtain ⟨fm30, fm31, fm32⟩ := G.out.z3) | skip))
    all_goals
      go_wp2_with fail
      go_meet
      first | exact ⟨m3.heap.size, rfl, rfl, by omega, hv_at rfl, Ym3.alloc _⟩ | exact ⟨w2.heap.size, rfl, rfl, lt3, (((G.out.set 0 _).set 1 _).set 2 _), ((Ym3.set (Nat.le_refl _) _).set (Nat.le_refl _) _).set (Nat.le_refl _) _⟩ | exact ⟨m1.heap.size, rfl, rfl, by omega, (((G.out.set 0 _).set 1 _).set 2 _), ((Ym3.set lem1 _).set lem1 _).set lem1 _⟩ | exact ⟨m2.heap.size, rfl, rfl, by omega, (((G.out.set 0 _).set 1 _).set 2 _), ((Ym3.set lem2 _).set lem2 _).set lem2 _⟩
  case rest =>
    obtain ⟨g, rfl, rfl, hg, G, hx⟩ := hcut
    have hx := hx.out
    have B1 : Hid (HV wc w.heap.size [.int .i64 s0, .int .i64 s1, .int .i64 s2, .int .i64 n]) := B1.out.ext hx
    have B2 : Hid (HV wc (w.heap.size + 1) [.int .i64 v0, .int .i64 v1, .int .i64 v2]) := B2.out.ext hx
    have B3 : Hid (HV wc (w.heap.size + 2) [.int .i64 0, .int .i64 0, .int .i64 0, .int .i64 0]) := B3.out.ext hx
    have HX : Hid (Ext w wc) := HX.out.trans hx
    clear hx
    clear NS NV HT
    go_upto_region 4 with fail
    obtain ⟨g0, g1, g2⟩ := G.out.k3
    have c3 : wc.cell? ⟨w.heap.size, 3, none⟩ = some (.int .i64 n) := B1.out.c 3 rfl
    have o0 : wc.cell? ⟨w.heap.size + 2, 0, none⟩ = some (.int .i64 0) := B3.out.c 0 rfl
    have o1 : wc.cell? ⟨w.heap.size + 2, 1, none⟩ = some (.int .i64 0) := B3.out.c 1 rfl
    have o2 : wc.cell? ⟨w.heap.size + 2, 2, none⟩ = some (.int .i64 0) := B3.out.c 2 rfl
    have o3 : wc.cell? ⟨w.heap.size + 2, 3, none⟩ = some (.int .i64 0) := B3.out.c 3 rfl
    have z0 : wc.frozen? ⟨w.heap.size + 2, 0, none⟩ = false := B3.out.f 0 rfl
    have z1 : wc.frozen? ⟨w.heap.size + 2, 1, none⟩ = false := B3.out.f 1 rfl
    have z2 : wc.frozen? ⟨w.heap.size + 2, 2, none⟩ = false := B3.out.f 2 rfl
    have z3 : wc.frozen? ⟨w.heap.size + 2, 3, none⟩ = false := B3.out.f 3 rfl
    have hm' : IntKind.i64.wrap (n + 1) = m := by rw [IntKind.wrap_i64]; unfold wrap64 at hm; omega
    go_region_held3 (fun w' => (w'.cell? ⟨w.heap.size, 3, none⟩ = some (.int .i64 n)) ∧ w'.cell? ⟨g, 0, none⟩ = some (.int .i64 t0) ∧ w'.cell? ⟨g, 1, none⟩ = some (.int .i64 t1) ∧ w'.cell? ⟨g, 2, none⟩ = some (.int .i64 t2)) (first | (simp [*]; done) | (refine ⟨?_, ?_, ?_, ?_⟩ <;> (rw [World.cell?_setCell_far _ _ _ _ (by dsimp only; omega), World.cell?_setCell_far _ _ _ _ (by dsimp only; omega), World.cell?_setCell_far _ _ _ _ (by dsimp only; omega), World.cell?_setCell_far _ _ _ _ (by dsimp only; omega)]; with_reducible assumption)) | skip) (first | (go_at_call 32; refine (HO.out _).mono ?_; rintro e wd ⟨rfl, xd0⟩; have xd : Ext wc wd := Ext.trans (by repeat (first | with_reducible assumption | with_reducible exact Ext.refl _ | with_reducible refine Ext.drew ?_ | with_reducible refine Ext.drewN ?_ _ | with_reducible refine Ext.alloc ?_ _ | with_reducible refine Ext.set ?_ (by first | exact Nat.le_refl _ | (dsimp only; omega) | (simp; done)) _)) xd0; clear xd0; have k0 : wd.cell? ⟨g, 0, none⟩ = some (.int .i64 t0) := (G.out.ext xd).c 0 rfl; have k1 : wd.cell? ⟨g, 1, none⟩ = some (.int .i64 t1) := (G.out.ext xd).c 1 rfl; have k2 : wd.cell? ⟨g, 2, none⟩ = some (.int .i64 t2) := (G.out.ext xd).c 2 rfl; have k3 : wd.cell? ⟨w.heap.size, 3, none⟩ = some (.int .i64 n) := (B1.out.ext xd).c 3 rfl; have p0 : wd.cell? ⟨w.heap.size + 2, 0, none⟩ = some (.int .i64 0) := (B3.out.ext xd).c 0 rfl; have p1 : wd.cell? ⟨w.heap.size + 2, 1, none⟩ = some (.int .i64 0) := (B3.out.ext xd).c 1 rfl; have p2 : wd.cell? ⟨w.heap.size + 2, 2, none⟩ = some (.int .i64 0) := (B3.out.ext xd).c 2 rfl; have p3 : wd.cell? ⟨w.heap.size + 2, 3, none⟩ = some (.int .i64 0) := (B3.out.ext xd).c 3 rfl; have q0 : wd.frozen? ⟨w.heap.size + 2, 0, none⟩ = false := (B3.out.ext xd).f 0 rfl; have q1 : wd.frozen? ⟨w.heap.size + 2, 1, none⟩ = false := (B3.out.ext xd).f 1 rfl; have q2 : wd.frozen? ⟨w.heap.size + 2, 2, none⟩ = false := (B3.out.ext xd).f 2 rfl; have q3 : wd.frozen? ⟨w.heap.size + 2, 3, none⟩ = false := (B3.out.ext xd).f 3 rfl))
    go_wp2_with fail
    refine bodyPost_ret (v := .tuple #[.agg #[.int .i64 t0, .int .i64 t1, .int .i64 t2, .int .i64 m], .int .i64 0]) (by simp [results, Try.results21, go_sem, *]) rfl ⟨rfl, ?_⟩
    have HX : Hid (Ext w wd) := HX.out.trans xd
    exact (Ext.set (Ext.set (Ext.set (Ext.set HX.out lt2.out _) lt2.out _) lt2.out _) lt2.out _)
set_option maxRecDepth 20000 in
set_option maxHeartbeats 16000000 in
theorem tmean_good (s0 s1 s2 n y0 y1 y2 : Int) (w : World) (HT : Hid (∀ w, Calls Try.prog 29 #[.agg #[.int .i64 s0, .int .i64 s1, .int .i64 s2], .agg #[.int .i64 n, .int .i64 n, .int .i64 n], .func (.func 33) #[] #[]] w fun e w' => e = .returned (.tuple #[.agg #[.int .i64 y0, .int .i64 y1, .int .i64 y2], .int .i64 0]) ∧ Ext w w')) :
    Calls Try.prog 22 #[.agg #[.int .i64 s0, .int .i64 s1, .int .i64 s2, .int .i64 n]] w fun e w' => e = .returned (.tuple #[.agg #[.int .i64 y0, .int .i64 y1, .int .i64 y2], .int .i64 0]) ∧ Ext w w' := by
  have NS : Hid (∀ w, Calls Try.prog 30 #[.agg #[.int .i64 s0, .int .i64 s1, .int .i64 s2]] w fun e w' => e = .returned (.agg #[.int .i64 s0, .int .i64 s1, .int .i64 s2]) ∧ Ext w w') := numbersof_any s0 s1 s2
  have HO : Hid (∀ w, Calls Try.prog 32 #[.agg #[.int .i64 y0, .int .i64 y1, .int .i64 y2]] w fun e w' => e = .returned (.agg #[.int .i64 y0, .int .i64 y1, .int .i64 y2]) ∧ Ext w w') := vectorof_any y0 y1 y2
  have B1 : Hid (HV ((w.alloc (.cells #[.int .i64 s0, .int .i64 s1, .int .i64 s2, .int .i64 n] 26)).alloc (.cells #[.int .i64 0, .int .i64 0, .int .i64 0] 24)) w.heap.size [.int .i64 s0, .int .i64 s1, .int .i64 s2, .int .i64 n]) := (hv_at rfl).alloc _
  have B3 : Hid (HV ((w.alloc (.cells #[.int .i64 s0, .int .i64 s1, .int .i64 s2, .int .i64 n] 26)).alloc (.cells #[.int .i64 0, .int .i64 0, .int .i64 0] 24)) (w.heap.size + 1) [.int .i64 0, .int .i64 0, .int .i64 0]) := hv_at (by simp)
  have lt2 : Hid (w.heap.size ≤ w.heap.size + 1) := Nat.le_add_right _ _
  have HX : Hid (Ext w ((w.alloc (.cells #[.int .i64 s0, .int .i64 s1, .int .i64 s2, .int .i64 n] 26)).alloc (.cells #[.int .i64 0, .int .i64 0, .int .i64 0] 24))) := ((Ext.refl w).alloc _).alloc _
  go_enter Try.func22, Try.ntmps22
  go_upto_region 2 with fail
  generalize ((w.alloc (.cells #[.int .i64 s0, .int .i64 s1, .int .i64 s2, .int .i64 n] 26)).alloc (.cells #[.int .i64 0, .int .i64 0, .int .i64 0] 24)) = wa at *
  have c0 : wa.cell? ⟨w.heap.size, 0, none⟩ = some (.int .i64 s0) := B1.out.c 0 rfl
  have c1 : wa.cell? ⟨w.heap.size, 1, none⟩ = some (.int .i64 s1) := B1.out.c 1 rfl
  have c2 : wa.cell? ⟨w.heap.size, 2, none⟩ = some (.int .i64 s2) := B1.out.c 2 rfl
  go_upto_region 3 with (first | (go_at_call 30; refine (NS.out _).mono ?_; rintro e w1 ⟨rfl, x1⟩) | (go_at_call 29; refine (HT.out _).mono ?_; rintro e w2 ⟨rfl, x2⟩))
  clear c0 c1 c2 NS HT
  have B1 : Hid (HV w1 w.heap.size [.int .i64 s0, .int .i64 s1, .int .i64 s2, .int .i64 n]) := B1.out.ext x1
  have B3 : Hid (HV w1 (w.heap.size + 1) [.int .i64 0, .int .i64 0, .int .i64 0]) := B3.out.ext x1
  have HX : Hid (Ext w w1) := HX.out.trans x1
  clear x1
  have B1 : Hid (HV w2 w.heap.size [.int .i64 s0, .int .i64 s1, .int .i64 s2, .int .i64 n]) := B1.out.ext x2
  have B3 : Hid (HV w2 (w.heap.size + 1) [.int .i64 0, .int .i64 0, .int .i64 0]) := B3.out.ext x2
  have HX : Hid (Ext w w2) := HX.out.trans x2
  clear x2
  have lt7 : w.heap.size + 1 < w2.heap.size := B3.out.1
  have M : Hid (HV (w2.alloc (.cells #[.int .i64 y0, .int .i64 y1, .int .i64 y2] 56)) w2.heap.size [.int .i64 y0, .int .i64 y1, .int .i64 y2]) := hv_at rfl
  have B3 : Hid (HV (w2.alloc (.cells #[.int .i64 y0, .int .i64 y1, .int .i64 y2] 56)) (w.heap.size + 1) [.int .i64 0, .int .i64 0, .int .i64 0]) := B3.out.alloc _
  have HX : Hid (Ext w (w2.alloc (.cells #[.int .i64 y0, .int .i64 y1, .int .i64 y2] 56))) := HX.out.alloc _
  clear B1
  generalize (w2.alloc (.cells #[.int .i64 y0, .int .i64 y1, .int .i64 y2] 56)) = w8 at *
  generalize w2.heap.size = mm at *
  have m0 : w8.cell? ⟨mm, 0, none⟩ = some (.int .i64 y0) := M.out.c 0 rfl
  have m1 : w8.cell? ⟨mm, 1, none⟩ = some (.int .i64 y1) := M.out.c 1 rfl
  have m2 : w8.cell? ⟨mm, 2, none⟩ = some (.int .i64 y2) := M.out.c 2 rfl
  go_wp2_with fail
  refine (HO.out _).mono ?_
  rintro e w9 ⟨rfl, x9⟩
  have B3 : Hid (HV w9 (w.heap.size + 1) [.int .i64 0, .int .i64 0, .int .i64 0]) := B3.out.ext x9
  have HX : Hid (Ext w w9) := HX.out.trans x9
  clear m0 m1 m2 x9
  have o0 : w9.cell? ⟨w.heap.size + 1, 0, none⟩ = some (.int .i64 0) := B3.out.c 0 rfl
  have o1 : w9.cell? ⟨w.heap.size + 1, 1, none⟩ = some (.int .i64 0) := B3.out.c 1 rfl
  have o2 : w9.cell? ⟨w.heap.size + 1, 2, none⟩ = some (.int .i64 0) := B3.out.c 2 rfl
  have z0 : w9.frozen? ⟨w.heap.size + 1, 0, none⟩ = false := B3.out.f 0 rfl
  have z1 : w9.frozen? ⟨w.heap.size + 1, 1, none⟩ = false := B3.out.f 1 rfl
  have z2 : w9.frozen? ⟨w.heap.size + 1, 2, none⟩ = false := B3.out.f 2 rfl
  go_wp2_with fail
  refine bodyPost_ret (v := .tuple #[.agg #[.int .i64 y0, .int .i64 y1, .int .i64 y2], .int .i64 0]) (by simp [results, Try.results22, go_sem, o0, o1, o2]) rfl ⟨rfl, ?_⟩
  exact (Ext.set (Ext.set (Ext.set HX.out lt2.out _) lt2.out _) lt2.out _)
set_option maxRecDepth 20000 in
set_option maxHeartbeats 16000000 in
theorem tmean_bad (s0 s1 s2 n : Int) (w : World) (HT : Hid (∀ w, Calls Try.prog 29 #[.agg #[.int .i64 s0, .int .i64 s1, .int .i64 s2], .agg #[.int .i64 n, .int .i64 n, .int .i64 n], .func (.func 33) #[] #[]] w fun e w' => e = .returned (.tuple #[.agg #[.int .i64 0, .int .i64 0, .int .i64 0], .int .i64 2]) ∧ Ext w w')) :
    Calls Try.prog 22 #[.agg #[.int .i64 s0, .int .i64 s1, .int .i64 s2, .int .i64 n]] w fun e w' => e = .returned (.tuple #[.agg #[.int .i64 0, .int .i64 0, .int .i64 0], .int .i64 2]) ∧ Ext w w' := by
  have NS : Hid (∀ w, Calls Try.prog 30 #[.agg #[.int .i64 s0, .int .i64 s1, .int .i64 s2]] w fun e w' => e = .returned (.agg #[.int .i64 s0, .int .i64 s1, .int .i64 s2]) ∧ Ext w w') := numbersof_any s0 s1 s2
  have B1 : Hid (HV ((w.alloc (.cells #[.int .i64 s0, .int .i64 s1, .int .i64 s2, .int .i64 n] 26)).alloc (.cells #[.int .i64 0, .int .i64 0, .int .i64 0] 24)) w.heap.size [.int .i64 s0, .int .i64 s1, .int .i64 s2, .int .i64 n]) := (hv_at rfl).alloc _
  have B3 : Hid (HV ((w.alloc (.cells #[.int .i64 s0, .int .i64 s1, .int .i64 s2, .int .i64 n] 26)).alloc (.cells #[.int .i64 0, .int .i64 0, .int .i64 0] 24)) (w.heap.size + 1) [.int .i64 0, .int .i64 0, .int .i64 0]) := hv_at (by simp)
  have lt2 : Hid (w.heap.size ≤ w.heap.size + 1) := Nat.le_add_right _ _
  have HX : Hid (Ext w ((w.alloc (.cells #[.int .i64 s0, .int .i64 s1, .int .i64 s2, .int .i64 n] 26)).alloc (.cells #[.int .i64 0, .int .i64 0, .int .i64 0] 24))) := ((Ext.refl w).alloc _).alloc _
  go_enter Try.func22, Try.ntmps22
  go_upto_region 2 with fail
  generalize ((w.alloc (.cells #[.int .i64 s0, .int .i64 s1, .int .i64 s2, .int .i64 n] 26)).alloc (.cells #[.int .i64 0, .int .i64 0, .int .i64 0] 24)) = wa at *
  have c0 : wa.cell? ⟨w.heap.size, 0, none⟩ = some (.int .i64 s0) := B1.out.c 0 rfl
  have c1 : wa.cell? ⟨w.heap.size, 1, none⟩ = some (.int .i64 s1) := B1.out.c 1 rfl
  have c2 : wa.cell? ⟨w.heap.size, 2, none⟩ = some (.int .i64 s2) := B1.out.c 2 rfl
  go_upto_region 3 with (first | (go_at_call 30; refine (NS.out _).mono ?_; rintro e w1 ⟨rfl, x1⟩) | (go_at_call 29; refine (HT.out _).mono ?_; rintro e w2 ⟨rfl, x2⟩))
  clear c0 c1 c2 NS HT
  have B1 : Hid (HV w1 w.heap.size [.int .i64 s0, .int .i64 s1, .int .i64 s2, .int .i64 n]) := B1.out.ext x1
  have B3 : Hid (HV w1 (w.heap.size + 1) [.int .i64 0, .int .i64 0, .int .i64 0]) := B3.out.ext x1
  have HX : Hid (Ext w w1) := HX.out.trans x1
  clear x1
  have B1 : Hid (HV w2 w.heap.size [.int .i64 s0, .int .i64 s1, .int .i64 s2, .int .i64 n]) := B1.out.ext x2
  have B3 : Hid (HV w2 (w.heap.size + 1) [.int .i64 0, .int .i64 0, .int .i64 0]) := B3.out.ext x2
  have HX : Hid (Ext w w2) := HX.out.trans x2
  clear x2
  have lt7 : w.heap.size + 1 < w2.heap.size := B3.out.1
  have M : Hid (HV (w2.alloc (.cells #[.int .i64 0, .int .i64 0, .int .i64 0] 56)) w2.heap.size [.int .i64 0, .int .i64 0, .int .i64 0]) := hv_at rfl
  have B3 : Hid (HV (w2.alloc (.cells #[.int .i64 0, .int .i64 0, .int .i64 0] 56)) (w.heap.size + 1) [.int .i64 0, .int .i64 0, .int .i64 0]) := B3.out.alloc _
  have HX : Hid (Ext w (w2.alloc (.cells #[.int .i64 0, .int .i64 0, .int .i64 0] 56))) := HX.out.alloc _
  clear B1
  generalize (w2.alloc (.cells #[.int .i64 0, .int .i64 0, .int .i64 0] 56)) = w8 at *
  generalize w2.heap.size = mm at *
  have o0 : w8.cell? ⟨w.heap.size + 1, 0, none⟩ = some (.int .i64 0) := B3.out.c 0 rfl
  have o1 : w8.cell? ⟨w.heap.size + 1, 1, none⟩ = some (.int .i64 0) := B3.out.c 1 rfl
  have o2 : w8.cell? ⟨w.heap.size + 1, 2, none⟩ = some (.int .i64 0) := B3.out.c 2 rfl
  have z0 : w8.frozen? ⟨w.heap.size + 1, 0, none⟩ = false := B3.out.f 0 rfl
  have z1 : w8.frozen? ⟨w.heap.size + 1, 1, none⟩ = false := B3.out.f 1 rfl
  have z2 : w8.frozen? ⟨w.heap.size + 1, 2, none⟩ = false := B3.out.f 2 rfl
  go_wp2_with fail
  refine bodyPost_ret (v := .tuple #[.agg #[.int .i64 0, .int .i64 0, .int .i64 0], .int .i64 2]) (by simp [results, Try.results22, go_sem, o0, o1, o2]) rfl ⟨rfl, ?_⟩
  exact (Ext.set (Ext.set (Ext.set HX.out lt2.out _) lt2.out _) lt2.out _)
end Go.Proofs.Ytkcfgkedgjpeoaa
