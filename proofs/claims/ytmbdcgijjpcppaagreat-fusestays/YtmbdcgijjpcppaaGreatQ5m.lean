/- quat: what is told of each number; turned. -/
import Derived.Test.YtmbdcgijjpcppaaGreatMg13
import Derived.Test.YtmbdcgijjpcppaaGreatQ4tm
import Derived.Test.YtmbdcgijjpcppaaGreatW8m
import Derived.Deep.RegionHeld
import Derived.Deep.DeepCutAuto
namespace Go.Proofs.YtmbdcgijjpcppaaGreat
open Go.RowKit Go.Shelf

theorem H12.set12 {w : World} {b : Nat} {v0 v1 v2 v3 v4 v5 v6 v7 v8 v9 v10 v11 : Value} (h : H12 w b v0 v1 v2 v3 v4 v5 v6 v7 v8 v9 v10 v11) (y0 y1 y2 y3 y4 y5 y6 y7 y8 y9 y10 y11 : Value) : H12 ((((((((((((w.setCell ⟨b, 0, none⟩ y0).setCell ⟨b, 1, none⟩ y1).setCell ⟨b, 2, none⟩ y2).setCell ⟨b, 3, none⟩ y3).setCell ⟨b, 4, none⟩ y4).setCell ⟨b, 5, none⟩ y5).setCell ⟨b, 6, none⟩ y6).setCell ⟨b, 7, none⟩ y7).setCell ⟨b, 8, none⟩ y8).setCell ⟨b, 9, none⟩ y9).setCell ⟨b, 10, none⟩ y10).setCell ⟨b, 11, none⟩ y11) b y0 y1 y2 y3 y4 y5 y6 y7 y8 y9 y10 y11 := by
  obtain ⟨c0, c1, c2, c3, c4, c5, c6, c7, c8, c9, c10, c11, f0, f1, f2, f3, f4, f5, f6, f7, f8, f9, f10, f11, hb⟩ := h
  refine ⟨?_, ?_, ?_, ?_, ?_, ?_, ?_, ?_, ?_, ?_, ?_, ?_, ?_, ?_, ?_, ?_, ?_, ?_, ?_, ?_, ?_, ?_, ?_, ?_, ?_⟩ <;> simp [go_sem, c0, c1, c2, c3, c4, c5, c6, c7, c8, c9, c10, c11, f0, f1, f2, f3, f4, f5, f6, f7, f8, f9, f10, f11, hb]
theorem ext_new12 {X w' : World} {v0 v1 v2 v3 v4 v5 v6 v7 v8 v9 v10 v11 : Value} {T : TypeId} (h : Ext (X.alloc (.cells #[v0, v1, v2, v3, v4, v5, v6, v7, v8, v9, v10, v11] T)) w') : Hid (H12 w' X.heap.size v0 v1 v2 v3 v4 v5 v6 v7 v8 v9 v10 v11) := (h12_at rfl).ext h
theorem ext_new12d {X w' : World} {v0 v1 v2 v3 v4 v5 v6 v7 v8 v9 v10 v11 : Value} {T : TypeId} (h : Ext (X.alloc (.cells #[v0, v1, v2, v3, v4, v5, v6, v7, v8, v9, v10, v11] T)).drew w') : Hid (H12 w' X.heap.size v0 v1 v2 v3 v4 v5 v6 v7 v8 v9 v10 v11) := (H12.drew (h12_at rfl)).ext h
theorem hid12_ext {w w' : World} {b : Nat} {v0 v1 v2 v3 v4 v5 v6 v7 v8 v9 v10 v11 : Value} (h : Hid (H12 w b v0 v1 v2 v3 v4 v5 v6 v7 v8 v9 v10 v11)) (hx : Ext w w') : Hid (H12 w' b v0 v1 v2 v3 v4 v5 v6 v7 v8 v9 v10 v11) := h.out.ext hx
/-- the variable behind, behind its region -/
def Part12 (w wx : World) (g : Nat) (z0 z1 z2 z3 : Int) : Prop := ∃ m0 m1 m2 m3 m4 m5 m6 m7 m8 m9 m10 m11 : Int, H12 wx g (.int .u64 m0) (.int .u64 m1) (.int .u64 m2) (.int .u64 m3) (.int .u64 m4) (.int .u64 m5) (.int .u64 m6) (.int .u64 m7) (.int .u64 m8) (.int .u64 m9) (.int .u64 m10) (.int .u64 m11) ∧ IsF (.agg #[.int .u64 m0, .int .u64 m1, .int .u64 m2, .int .u64 m3, .int .u64 m4, .int .u64 m5, .int .u64 m6, .int .u64 m7, .int .u64 m8, .int .u64 m9, .int .u64 m10, .int .u64 m11]) z0 z1 z2 z3 ∧ Ext w wx ∧ w.heap.size ≤ g
theorem part12_a {w wR : World} {m0 m1 m2 m3 m4 m5 m6 m7 m8 m9 m10 m11 z0 z1 z2 z3 : Int} {T : TypeId} (hR : Hid (IsF (.agg #[.int .u64 m0, .int .u64 m1, .int .u64 m2, .int .u64 m3, .int .u64 m4, .int .u64 m5, .int .u64 m6, .int .u64 m7, .int .u64 m8, .int .u64 m9, .int .u64 m10, .int .u64 m11]) z0 z1 z2 z3)) (y : Ext w wR) : Hid (Part12 w (wR.alloc (.cells #[.int .u64 m0, .int .u64 m1, .int .u64 m2, .int .u64 m3, .int .u64 m4, .int .u64 m5, .int .u64 m6, .int .u64 m7, .int .u64 m8, .int .u64 m9, .int .u64 m10, .int .u64 m11] T)) wR.heap.size z0 z1 z2 z3) :=
  ⟨_, _, _, _, _, _, _, _, _, _, _, _, h12_at rfl, hR.out, y.alloc _, y.size⟩
theorem part12_b {w wR : World} {g : Nat} {v0 v1 v2 v3 v4 v5 v6 v7 v8 v9 v10 v11 : Value} {m0 m1 m2 m3 m4 m5 m6 m7 m8 m9 m10 m11 z0 z1 z2 z3 : Int} (hN : Hid (H12 wR g v0 v1 v2 v3 v4 v5 v6 v7 v8 v9 v10 v11)) (hR : Hid (IsF (.agg #[.int .u64 m0, .int .u64 m1, .int .u64 m2, .int .u64 m3, .int .u64 m4, .int .u64 m5, .int .u64 m6, .int .u64 m7, .int .u64 m8, .int .u64 m9, .int .u64 m10, .int .u64 m11]) z0 z1 z2 z3)) (y : Ext w wR) (hg : w.heap.size ≤ g) :
    Hid (Part12 w ((((((((((((wR.setCell ⟨g, 0, none⟩ (.int .u64 m0)).setCell ⟨g, 1, none⟩ (.int .u64 m1)).setCell ⟨g, 2, none⟩ (.int .u64 m2)).setCell ⟨g, 3, none⟩ (.int .u64 m3)).setCell ⟨g, 4, none⟩ (.int .u64 m4)).setCell ⟨g, 5, none⟩ (.int .u64 m5)).setCell ⟨g, 6, none⟩ (.int .u64 m6)).setCell ⟨g, 7, none⟩ (.int .u64 m7)).setCell ⟨g, 8, none⟩ (.int .u64 m8)).setCell ⟨g, 9, none⟩ (.int .u64 m9)).setCell ⟨g, 10, none⟩ (.int .u64 m10)).setCell ⟨g, 11, none⟩ (.int .u64 m11)) g z0 z1 z2 z3) :=
  ⟨_, _, _, _, _, _, _, _, _, _, _, _, hN.out.set12 _ _ _ _ _ _ _ _ _ _ _ _, hR.out, (((((((((((y.set hg _).set hg _).set hg _).set hg _).set hg _).set hg _).set hg _).set hg _).set hg _).set hg _).set hg _).set hg _, hg⟩
theorem isF_keep {a0 a1 a2 a3 a4 a5 a6 a7 a8 a9 a10 a11 z0 z1 z2 z3 : Int} (h : IsW (.agg #[.int .u64 a0, .int .u64 a1, .int .u64 a2]) z0 ∧ IsW (.agg #[.int .u64 a3, .int .u64 a4, .int .u64 a5]) z1 ∧ IsW (.agg #[.int .u64 a6, .int .u64 a7, .int .u64 a8]) z2 ∧ IsW (.agg #[.int .u64 a9, .int .u64 a10, .int .u64 a11]) z3) : Hid (IsF (.agg #[.int .u64 a0, .int .u64 a1, .int .u64 a2, .int .u64 a3, .int .u64 a4, .int .u64 a5, .int .u64 a6, .int .u64 a7, .int .u64 a8, .int .u64 a9, .int .u64 a10, .int .u64 a11]) z0 z1 z2 z3) := ⟨_, _, _, _, _, _, _, _, _, _, _, _, rfl, h⟩

set_option maxHeartbeats 2000000 in
theorem turned1_raw (a0 a1 a2 b0 b1 b2 z : Int) (g : Nat) (w : World) (GB : H3 w g (.int .u64 b0) (.int .u64 b1) (.int .u64 b2))
    (HO : Hid (∀ w', Calls Tryz.prog 172 #[.agg #[.int .u64 a0, .int .u64 a1, .int .u64 a2], .agg #[.int .u64 b0, .int .u64 b1, .int .u64 b2]] w' fun e w'' => (∃ r, e = .returned r ∧ IsW r z) ∧ Ext w' w'')) :
    Calls Tryz.prog 171 #[.agg #[.int .u64 a0, .int .u64 a1, .int .u64 a2], .pointer (some ⟨g, 0, none⟩)] w fun e w' => (∃ r, e = .returned r ∧ IsW r z) ∧ Ext w w' := by
  have hg := GB.2.2.2.2.2.2
  have GG := (GB.alloc (.cells #[.int .u64 a0, .int .u64 a1, .int .u64 a2] 167)).alloc (.cells #[.int .u64 0, .int .u64 0, .int .u64 0] 167)
  obtain ⟨g0, g1, g2, g3, g4, g5, g6⟩ := GG
  clear GB
  go_enter Tryz.func171, Tryz.ntmps171
  go_wp2_with fail
  refine (HO.out _).mono ?_
  rintro e w1 ⟨⟨r, rfl, s0, s1, s2, rfl, hr⟩, x1⟩
  have HR : Hid _ := hr
  clear hr
  have X1 : Ext w w1 := Ext.trans (by repeat (first | with_reducible assumption | with_reducible exact Ext.refl _ | with_reducible refine Ext.drew ?_ | with_reducible refine Ext.drewN ?_ _ | with_reducible refine Ext.alloc ?_ _ | with_reducible refine Ext.set ?_ (by first | exact Nat.le_refl _ | (dsimp only; omega) | (simp; done)) _)) x1
  obtain ⟨c0, c1, c2, c3, c4, c5, c6⟩ : H3 w1 (w.heap.size + 1) _ _ _ := (h3_at (by simp)).ext x1
  clear x1 g0 g1 g2 g3 g4 g5 g6
  go_wp2_with fail
  exact bodyPost_ret (v := .agg #[.int .u64 s0, .int .u64 s1, .int .u64 s2]) (by simp [results, Tryz.results171, go_sem, c0, c1, c2]) rfl ⟨⟨_, rfl, _, _, _, rfl, HR.out⟩, by repeat (first | with_reducible assumption | with_reducible exact Ext.refl _ | with_reducible refine Ext.drew ?_ | with_reducible refine Ext.drewN ?_ _ | with_reducible refine Ext.alloc ?_ _ | with_reducible refine Ext.set ?_ (by first | exact Nat.le_refl _ | (dsimp only; omega) | (simp; done)) _)⟩
theorem turned1_any (p : Int) (n : Nat) (a0 a1 a2 b0 b1 b2 : Int) (g : Nat) (w : World) (hu : IsW (.agg #[.int .u64 a0, .int .u64 a1, .int .u64 a2]) p) (hv : IsW (.agg #[.int .u64 b0, .int .u64 b1, .int .u64 b2]) n) (GB : H3 w g (.int .u64 b0) (.int .u64 b1) (.int .u64 b2)) (h0 : 0 < n) (hn : n < 4951760157141521099596496896) (hp : p.natAbs / n < 70368744177664) (hp2 : p.natAbs < 98079714615416886934934209737619787751599303819750539264) :
    Calls Tryz.prog 171 #[.agg #[.int .u64 a0, .int .u64 a1, .int .u64 a2], .pointer (some ⟨g, 0, none⟩)] w fun e w' => (∃ r, e = .returned r ∧ IsW r (nearI p n)) ∧ Ext w w' := by
  refine turned1_raw a0 a1 a2 b0 b1 b2 _ g w GB (fun w' => ?_)
  refine (overw_any p n _ _ w' hu hv h0 hn hp hp2).mono ?_
  rintro e w1 ⟨⟨r, rfl, k, k1, k2, _⟩, x1⟩
  rw [IsNear.unique (by omega) k2 (nearI_spec p n (by omega))] at k1
  exact ⟨⟨r, rfl, k1⟩, x1⟩

set_option maxRecDepth 20000 in
set_option maxHeartbeats 8000000 in
theorem turned_raw (a b c d x y z nb nc nd N z0 z1 z2 z3 T0 T1 T2 T3 E0 E1 E2 E3 ee : Int) (w : World)
    (HS : Hid (∀ w', Calls Tryz.prog 136 #[.agg #[.int .i64 a, .int .i64 b, .int .i64 c, .int .i64 d]] w' fun e w'' => (∃ r, e = .returned r ∧ IsW r N) ∧ Ext w' w''))
    (HC : Hid (∀ w', Calls Tryz.prog 125 #[.agg #[.int .i64 a, .int .i64 b, .int .i64 c, .int .i64 d]] w' fun e w'' => e = .returned (.agg #[.int .i64 a, .int .i64 nb, .int .i64 nc, .int .i64 nd]) ∧ Ext w' w''))
    (HP : Hid (∀ w', Calls Tryz.prog 130 #[.agg #[.int .i64 0, .int .i64 x, .int .i64 y, .int .i64 z], .agg #[.int .i64 a, .int .i64 nb, .int .i64 nc, .int .i64 nd], .func (.func 131) #[] #[]] w' fun e w'' => (∃ r, e = .returned r ∧ IsF r z0 z1 z2 z3) ∧ Ext w' w''))
    (HX : Hid (∀ v w', IsF v z0 z1 z2 z3 → Calls Tryz.prog 170 #[.agg #[.int .i64 a, .int .i64 b, .int .i64 c, .int .i64 d], v, .func (.func 168) #[] #[]] w' fun e w'' => (∃ r, e = .returned r ∧ IsF r T0 T1 T2 T3) ∧ Ext w' w''))
    (HT : Hid (∀ g b0 b1 b2 v w', IsF v T0 T1 T2 T3 → IsW (.agg #[.int .u64 b0, .int .u64 b1, .int .u64 b2]) N → H3 w' g (.int .u64 b0) (.int .u64 b1) (.int .u64 b2) → Calls Tryz.prog 129 #[v, .func (.func 171) #[] #[.pointer (some ⟨g, 0, none⟩)]] w' fun e w'' => e = .returned (.tuple #[.agg #[.int .i64 E0, .int .i64 E1, .int .i64 E2, .int .i64 E3], .int .i64 ee]) ∧ Ext w' w'')) :
    Calls Tryz.prog 134 #[.agg #[.int .i64 a, .int .i64 b, .int .i64 c, .int .i64 d], .agg #[.int .i64 x, .int .i64 y, .int .i64 z]] w fun e w' => e = .returned (.tuple #[.agg #[.int .i64 E0, .int .i64 E1, .int .i64 E2, .int .i64 E3], .int .i64 ee]) ∧ Ext w w' := by
  go_enter Tryz.func134, Tryz.ntmps134
  go_wp2_with fail
  refine (HS.out _).mono ?_
  rintro e w1 ⟨⟨uN, rfl, b0, b1, b2, rfl, hN0⟩, x1⟩
  have HN : Hid (IsW (.agg #[.int .u64 b0, .int .u64 b1, .int .u64 b2]) N) := ⟨_, _, _, rfl, hN0⟩
  clear hN0
  have QB1 : Hid (H4 w1 w.heap.size (.int .i64 a) (.int .i64 b) (.int .i64 c) (.int .i64 d)) := (H4.alloc (H4.alloc (h4_at rfl) _) _).ext x1
  have VB1 : Hid (H3 w1 (w.heap.size + 1) (.int .i64 x) (.int .i64 y) (.int .i64 z)) := (H3.alloc (h3_at (by simp)) _).ext x1
  have RB1 : Hid (H4 w1 (w.heap.size + 1 + 1) (.int .i64 0) (.int .i64 0) (.int .i64 0) (.int .i64 0)) := (h4_at (by simp)).ext x1
  have X1 : Ext w w1 := Ext.trans (by repeat (first | with_reducible assumption | with_reducible exact Ext.refl _ | with_reducible refine Ext.drew ?_ | with_reducible refine Ext.drewN ?_ _ | with_reducible refine Ext.alloc ?_ _ | with_reducible refine Ext.set ?_ (by first | exact Nat.le_refl _ | (dsimp only; omega) | (simp; done)) _)) x1
  clear x1
  have QB : Hid (H4 (w1.alloc (.cells #[.int .u64 b0, .int .u64 b1, .int .u64 b2] 167)) w.heap.size (.int .i64 a) (.int .i64 b) (.int .i64 c) (.int .i64 d)) := QB1.out.alloc _
  have VB : Hid (H3 (w1.alloc (.cells #[.int .u64 b0, .int .u64 b1, .int .u64 b2] 167)) (w.heap.size + 1) (.int .i64 x) (.int .i64 y) (.int .i64 z)) := VB1.out.alloc _
  have RB : Hid (H4 (w1.alloc (.cells #[.int .u64 b0, .int .u64 b1, .int .u64 b2] 167)) (w.heap.size + 1 + 1) (.int .i64 0) (.int .i64 0) (.int .i64 0) (.int .i64 0)) := RB1.out.alloc _
  have NB : Hid (H3 (w1.alloc (.cells #[.int .u64 b0, .int .u64 b1, .int .u64 b2] 167)) w1.heap.size (.int .u64 b0) (.int .u64 b1) (.int .u64 b2)) := h3_at rfl
  have XB : Ext w (w1.alloc (.cells #[.int .u64 b0, .int .u64 b1, .int .u64 b2] 167)) := X1.alloc _
  clear QB1 VB1 RB1 X1
  obtain ⟨s0, s1, s2, s3, s4, s5, s6, s7, s8⟩ := QB.out
  obtain ⟨t0, t1, t2, t3, t4, t5, t6⟩ := VB.out
  go_upto_region 2 with fail
  generalize hgN : w1.heap.size = gN at *
  generalize (w1.alloc (.cells #[.int .u64 b0, .int .u64 b1, .int .u64 b2] 167)) = wB at *
  have nBa := Nat.ne_of_lt s8
  have nBb := (Nat.ne_of_lt s8).symm
  have nBc := Nat.ne_of_lt t6
  have nBd := (Nat.ne_of_lt t6).symm
  go_cut [7] (fun s7 wx => ∃ gp, s7 = .pointer (some ⟨gp, 0, none⟩) ∧ Hid (Part12 wB wx gp z0 z1 z2 z3))
  case first =>
    go_region_held (fun w' => w'.cell? ⟨w.heap.size, 0, none⟩ = some (.int .i64 a) ∧ w'.cell? ⟨w.heap.size, 1, none⟩ = some (.int .i64 b) ∧ w'.cell? ⟨w.heap.size, 2, none⟩ = some (.int .i64 c) ∧ w'.cell? ⟨w.heap.size, 3, none⟩ = some (.int .i64 d) ∧ w'.cell? ⟨w.heap.size + 1, 0, none⟩ = some (.int .i64 x) ∧ w'.cell? ⟨w.heap.size + 1, 1, none⟩ = some (.int .i64 y) ∧ w'.cell? ⟨w.heap.size + 1, 2, none⟩ = some (.int .i64 z)) (first | (go_keep; done) | skip) (first | (go_at_call 125; refine (HC.out _).mono ?_; rintro e wC ⟨rfl, xC⟩; have yC : Ext wB wC := Ext.trans (by repeat (first | with_reducible assumption | with_reducible exact Ext.refl _ | with_reducible refine Ext.drew ?_ | with_reducible refine Ext.drewN ?_ _ | with_reducible refine Ext.alloc ?_ _ | with_reducible refine Ext.set ?_ (by first | exact Nat.le_refl _ | (dsimp only; omega) | (simp; done)) _)) xC; obtain ⟨s0, s1, s2, s3, s4, s5, s6, s7, s8⟩ := QB.out.ext yC; obtain ⟨t0, t1, t2, t3, t4, t5, t6⟩ := VB.out.ext yC; have nCa := Nat.ne_of_lt s8; have nCb := (Nat.ne_of_lt s8).symm; have nCc := Nat.ne_of_lt t6; have nCd := (Nat.ne_of_lt t6).symm; first | ((with_reducible have hNC := ext_new12d xC); obtain ⟨n0, n1, n2, n3, n4, n5, n6, n7, n8, n9, n10, n11, n12, n13, n14, n15, n16, n17, n18, n19, n20, n21, n22, n23, n24⟩ := hNC.out) | ((with_reducible have hNC := ext_new12 xC); obtain ⟨n0, n1, n2, n3, n4, n5, n6, n7, n8, n9, n10, n11, n12, n13, n14, n15, n16, n17, n18, n19, n20, n21, n22, n23, n24⟩ := hNC.out) | skip) | (go_at_call 130; refine (HP.out _).mono ?_; rintro e wP ⟨⟨uP, rfl, m0, m1, m2, m3, m4, m5, m6, m7, m8, m9, m10, m11, rfl, hP⟩, xP⟩; have HF := isF_keep hP; clear hP; have yP : Ext wB wP := Ext.trans (by repeat (first | with_reducible assumption | with_reducible exact Ext.refl _ | with_reducible refine Ext.drew ?_ | with_reducible refine Ext.drewN ?_ _ | with_reducible refine Ext.alloc ?_ _ | with_reducible refine Ext.set ?_ (by first | exact Nat.le_refl _ | (dsimp only; omega) | (simp; done)) _)) xP; obtain ⟨s0, s1, s2, s3, s4, s5, s6, s7, s8⟩ := QB.out.ext yP; obtain ⟨t0, t1, t2, t3, t4, t5, t6⟩ := VB.out.ext yP; have nPa := Nat.ne_of_lt s8; have nPb := (Nat.ne_of_lt s8).symm; have nPc := Nat.ne_of_lt t6; have nPd := (Nat.ne_of_lt t6).symm; first | ((with_reducible have hNP := hid12_ext hNC xP); obtain ⟨n0, n1, n2, n3, n4, n5, n6, n7, n8, n9, n10, n11, n12, n13, n14, n15, n16, n17, n18, n19, n20, n21, n22, n23, n24⟩ := hNP.out) | ((with_reducible have hNP := ext_new12d xP); obtain ⟨n0, n1, n2, n3, n4, n5, n6, n7, n8, n9, n10, n11, n12, n13, n14, n15, n16, n17, n18, n19, n20, n21, n22, n23, n24⟩ := hNP.out) | ((with_reducible have hNP := ext_new12 xP); obtain ⟨n0, n1, n2, n3, n4, n5, n6, n7, n8, n9, n10, n11, n12, n13, n14, n15, n16, n17, n18, n19, n20, n21, n22, n23, n24⟩ := hNP.out) | skip))
    all_goals
      go_wp2_with fail
      go_meet
      first
        | with_reducible exact ⟨_, rfl, part12_a HF yP⟩
        | ((with_reducible refine ⟨_, rfl, part12_b hNP HF yP ?_⟩) <;> (have q1 := yC.size; omega))
  case rest =>
    obtain ⟨gp, rfl, hO⟩ := hcut
    obtain ⟨m0, m1, m2, m3, m4, m5, m6, m7, m8, m9, m10, m11, hH, hI, hE, hG⟩ := hO.out
    have HI : Hid (IsF (.agg #[.int .u64 m0, .int .u64 m1, .int .u64 m2, .int .u64 m3, .int .u64 m4, .int .u64 m5, .int .u64 m6, .int .u64 m7, .int .u64 m8, .int .u64 m9, .int .u64 m10, .int .u64 m11]) z0 z1 z2 z3) := hI
    have XE : Hid (Ext wB wc) := hE
    have XW : Ext w wc := XB.trans hE
    clear hI hO hE nBa nBb nBc nBd s0 s1 s2 s3 s4 s5 s6 s7 s8 t0 t1 t2 t3 t4 t5 t6
    obtain ⟨s0, s1, s2, s3, s4, s5, s6, s7, s8⟩ := QB.out.ext XE.out
    obtain ⟨n0, n1, n2, n3, n4, n5, n6, n7, n8, n9, n10, n11, n12, n13, n14, n15, n16, n17, n18, n19, n20, n21, n22, n23, n24⟩ := hH
    go_wp2_with fail
    refine (HX.out _ _ HI.out).mono ?_
    rintro e w2 ⟨⟨u2, rfl, h2⟩, x2⟩
    have H2 : Hid (IsF u2 _ _ _ _) := h2
    clear h2
    go_wp2_with fail
    refine (HT.out _ _ _ _ _ _ H2.out HN.out ((NB.out.ext XE.out).ext x2)).mono ?_
    rintro e w3 ⟨rfl, x3⟩
    have XW3 : Ext w w3 := (XW.trans x2).trans x3
    obtain ⟨r0, r1, r2, r3, r4, r5, r6, r7, r8⟩ := ((RB.out.ext XE.out).ext x2).ext x3
    clear n0 n1 n2 n3 n4 n5 n6 n7 n8 n9 n10 n11 n12 n13 n14 n15 n16 n17 n18 n19 n20 n21 n22 n23 x2 x3 XW s0 s1 s2 s3 s4 s5 s6 s7 s8
    go_wp2_with fail
    exact bodyPost_ret (v := .tuple #[.agg #[.int .i64 E0, .int .i64 E1, .int .i64 E2, .int .i64 E3], .int .i64 ee]) (by simp [results, Tryz.results134, go_sem, r0, r1, r2, r3]) rfl ⟨rfl, by repeat (first | with_reducible assumption | with_reducible exact Ext.refl _ | with_reducible refine Ext.drew ?_ | with_reducible refine Ext.drewN ?_ _ | with_reducible refine Ext.alloc ?_ _ | with_reducible refine Ext.set ?_ (by first | exact Nat.le_refl _ | (dsimp only; omega) | (simp; done)) _)⟩
end Go.Proofs.YtmbdcgijjpcppaaGreat
