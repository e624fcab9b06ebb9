/- vec: unit, Unit. -/
import Derived.Test.YtfmalpnlencmbaaGreatV10m
namespace Go.Proofs.YtfmalpnlencmbaaGreat
open Go.RowKit Go.Shelf

theorem sq_lt {v : Int} (h : okW v = true) : v.natAbs * v.natAbs < 1237940039285380274899124224 := by
  have b := okW_bounds h
  have m : v.natAbs * v.natAbs ≤ 35184372088831 * 35184372088831 := Nat.mul_le_mul (by omega) (by omega)
  omega
theorem unit1_any (v y0 y1 y2 : Int) (n k g : Nat) (w : World) (hv : okW v = true) (GB : Hid (H3 w g (.int .u64 y0) (.int .u64 y1) (.int .u64 y2))) (hI : IsW (.agg #[.int .u64 y0, .int .u64 y1, .int .u64 y2]) (n : Int)) (h0 : 0 < n) (hn : n < 4951760157141521099596496896) (hvn : v.natAbs * v.natAbs ≤ n) (hk : RootQ (v.natAbs * v.natAbs * 1152921504606846976) n k) :
    Calls Tryz.prog 140 #[.int .i64 v, .pointer (some ⟨g, 0, none⟩)] w fun e w' => e = .returned (.tuple #[.int .i64 (fitR (sgd v k)).1, .int .i64 (fitR (sgd v k)).2]) ∧ Ext w w' := by
  have hl := sq_lt hv
  have hb := word64 hv
  have kb : k ≤ 1073741824 := rootQ_le hk h0 (by
    have e : 1073741824 * 1073741824 = 1152921504606846976 := by decide
    rw [e, Nat.mul_comm 1152921504606846976]
    exact Nat.mul_le_mul_right _ hvn)
  have hvb := okW_bounds hv
  exact vunit1_raw v y0 y1 y2 (sgd v k) _ _ g w GB.out (fun w' => unitw_any v n k _ w' hI h0 hn (by omega) hvn hk) (fun t w' ht => wordw_any _ t w' ht (by unfold InW sgd; split <;> omega))

set_option maxHeartbeats 4000000 in
theorem unit_raw (a0 a1 a2 x y z e D : Int) (w : World)
    (HS : Hid (∀ w', Calls Tryz.prog 138 #[.agg #[.int .i64 a0, .int .i64 a1, .int .i64 a2], .agg #[.int .i64 a0, .int .i64 a1, .int .i64 a2]] w' fun e w'' => (∃ r, e = .returned r ∧ IsW r D) ∧ Ext w' w''))
    (HT : Hid (∀ (y0 y1 y2 : Int) (g : Nat) (w' : World), IsW (.agg #[.int .u64 y0, .int .u64 y1, .int .u64 y2]) D → H3 w' g (.int .u64 y0) (.int .u64 y1) (.int .u64 y2) → Calls Tryz.prog 139 #[.agg #[.int .i64 a0, .int .i64 a1, .int .i64 a2], .func (.func 140) #[] #[.pointer (some ⟨g, 0, none⟩)]] w' fun e' w'' => e' = .returned (.tuple #[.agg #[.int .i64 x, .int .i64 y, .int .i64 z], .int .i64 e]) ∧ Ext w' w'')) :
    Calls Tryz.prog 77 #[.agg #[.int .i64 a0, .int .i64 a1, .int .i64 a2]] w fun e' w' => e' = .returned (.tuple #[.agg #[.int .i64 x, .int .i64 y, .int .i64 z], .int .i64 e]) ∧ Ext w w' := by
  go_enter Tryz.func77, Tryz.ntmps77
  go_wp2_with fail
  refine (HS.out _).mono ?_
  rintro e' w1 ⟨⟨u1, rfl, y0, y1, y2, rfl, hr⟩, x1⟩
  have HI : Hid (IsW (.agg #[.int .u64 y0, .int .u64 y1, .int .u64 y2]) D) := ⟨_, _, _, rfl, hr⟩
  clear hr
  have PB : Hid (H3 w1 w.heap.size (.int .i64 a0) (.int .i64 a1) (.int .i64 a2)) := (H3.alloc (h3_at rfl) _).ext x1
  have RB : Hid (H3 w1 (w.heap.size + 1) (.int .i64 0) (.int .i64 0) (.int .i64 0)) := (h3_at (by simp)).ext x1
  have E1 : Ext w w1 := Ext.trans (((Ext.refl _).alloc _).alloc _) x1
  have d0 := fun o => (PB.out.alloc o).1
  have d1 := fun o => (PB.out.alloc o).2.1
  have d2 := fun o => (PB.out.alloc o).2.2.1
  clear x1
  go_wp2_with fail
  refine (HT.out _ _ _ _ _ HI.out (h3_at rfl)).mono ?_
  rintro e' w2 ⟨rfl, x2⟩
  obtain ⟨m0, m1, m2, m3, m4, m5, m6⟩ := (RB.out.alloc _).ext x2
  have E2 : Ext w w2 := (E1.alloc _).trans x2
  clear x2 E1 d0 d1 d2
  go_wp2_with fail
  exact bodyPost_ret (v := .tuple #[.agg #[.int .i64 x, .int .i64 y, .int .i64 z], .int .i64 e]) (by simp [results, Tryz.results77, go_sem, m0, m1, m2]) rfl ⟨rfl, by repeat (first | with_reducible assumption | with_reducible exact Ext.refl _ | with_reducible refine Ext.drew ?_ | with_reducible refine Ext.drewN ?_ _ | with_reducible refine Ext.alloc ?_ _ | with_reducible refine Ext.set ?_ (by first | exact Nat.le_refl _ | (dsimp only; omega) | (simp; done)) _)⟩
theorem sq3_parts (a0 a1 a2 : Int) : a0.natAbs * a0.natAbs ≤ sq3 a0 a1 a2 ∧ a1.natAbs * a1.natAbs ≤ sq3 a0 a1 a2 ∧ a2.natAbs * a2.natAbs ≤ sq3 a0 a1 a2 := by unfold sq3; omega
theorem unit_any (a0 a1 a2 : Int) (k0 k1 k2 : Nat) (w : World) (h : ok3 a0 a1 a2 = true) (h0 : 0 < sq3 a0 a1 a2)
    (q0 : RootQ (a0.natAbs * a0.natAbs * 1152921504606846976) (sq3 a0 a1 a2) k0) (q1 : RootQ (a1.natAbs * a1.natAbs * 1152921504606846976) (sq3 a0 a1 a2) k1) (q2 : RootQ (a2.natAbs * a2.natAbs * 1152921504606846976) (sq3 a0 a1 a2) k2) :
    Calls Tryz.prog 77 #[.agg #[.int .i64 a0, .int .i64 a1, .int .i64 a2]] w fun e w' => e = .returned (vres (sgd a0 k0) (sgd a1 k1) (sgd a2 k2)) ∧ Ext w w' := by
  obtain ⟨g0, g1, g2⟩ := ok3_parts h
  have hl := sq3_lt h
  obtain ⟨s0, s1, s2⟩ := sq3_parts a0 a1 a2
  have HS : ∀ w', Calls Tryz.prog 138 #[.agg #[.int .i64 a0, .int .i64 a1, .int .i64 a2], .agg #[.int .i64 a0, .int .i64 a1, .int .i64 a2]] w' fun e w'' => (∃ r, e = .returned r ∧ IsW r ((sq3 a0 a1 a2 : Nat) : Int)) ∧ Ext w' w'' := fun w' => by
    rw [← sq3_dot]
    exact sum_any a0 a1 a2 a0 a1 a2 w' g0 g1 g2 g0 g1 g2
  have HT : ∀ (y0 y1 y2 : Int) (g : Nat) (w' : World), IsW (.agg #[.int .u64 y0, .int .u64 y1, .int .u64 y2]) ((sq3 a0 a1 a2 : Nat) : Int) → H3 w' g (.int .u64 y0) (.int .u64 y1) (.int .u64 y2) → Calls Tryz.prog 139 #[.agg #[.int .i64 a0, .int .i64 a1, .int .i64 a2], .func (.func 140) #[] #[.pointer (some ⟨g, 0, none⟩)]] w' fun e' w'' => e' = .returned (vres (sgd a0 k0) (sgd a1 k1) (sgd a2 k2)) ∧ Ext w' w'' := by
    intro y0 y1 y2 g w' hI hg
    have t := throughU_any a0 a1 a2 _ _ _ _ _ _ g w' (fun w'' hx => unit1_any a0 y0 y1 y2 _ k0 g w'' g0 (hg.ext hx) hI h0 (by omega) s0 q0) (fun w'' hx => unit1_any a1 y0 y1 y2 _ k1 g w'' g1 (hg.ext hx) hI h0 (by omega) s1 q1) (fun w'' hx => unit1_any a2 y0 y1 y2 _ k2 g w'' g2 (hg.ext hx) hI h0 (by omega) s2 q2)
    rw [thr_fit] at t
    exact t
  obtain ⟨x, y, z, e, hr⟩ := vres_shape (sgd a0 k0) (sgd a1 k1) (sgd a2 k2)
  rw [hr] at HT ⊢
  exact unit_raw a0 a1 a2 x y z e _ w HS HT

set_option maxHeartbeats 4000000 in
theorem Unit_no (a0 a1 a2 : Int) (w : World)
    (HK : Hid (∀ (W : World) (n : Nat) (T : TypeId), W.heap.size = n → Calls Tryz.prog 72 #[.slice (some ⟨n, 0, none⟩) 1 1] (W.alloc (.cells #[.int .i64 a0, .int .i64 a1, .int .i64 a2] T)) fun e w' => e = .returned (.int .i64 1) ∧ Ext (W.alloc (.cells #[.int .i64 a0, .int .i64 a1, .int .i64 a2] T)) w')) :
    Calls Tryz.prog 22 #[.agg #[.int .i64 a0, .int .i64 a1, .int .i64 a2]] w fun e' w' => e' = .returned (.tuple #[.agg #[.int .i64 0, .int .i64 0, .int .i64 0], .int .i64 1]) ∧ Ext w w' := by
  have HA : Hid (∀ w', Calls Tryz.prog 70 #[.agg #[.int .i64 a0, .int .i64 a1, .int .i64 a2]] w' fun e w'' => e = .returned (.agg #[.int .i64 a0, .int .i64 a1, .int .i64 a2]) ∧ Ext w' w'') := fun w' => of_any a0 a1 a2 w'
  go_enter Tryz.func22, Tryz.ntmps22
  go_wp2_with fail
  refine (HA.out _).mono ?_
  rintro e' w1 ⟨rfl, x1⟩
  go_wp2_with fail
  refine (HK.out _ _ _ rfl).mono ?_
  rintro e' w2 ⟨rfl, x20⟩
  have x2 := x1.trans (Ext.trans ((Ext.refl _).alloc _) x20)
  clear x20 x1
  have E8 : Ext w w2 := Ext.trans (((Ext.refl _).alloc _).alloc _) x2
  have PB : Hid (H3 w2 w.heap.size (.int .i64 a0) (.int .i64 a1) (.int .i64 a2)) := (H3.alloc (h3_at rfl) _).ext x2
  have RB : Hid (H3 w2 (w.heap.size + 1) (.int .i64 0) (.int .i64 0) (.int .i64 0)) := (h3_at (by simp)).ext x2
  clear x2
  obtain ⟨p0, p1, p2, p3, p4, p5, p6⟩ := PB.out
  obtain ⟨m0, m1, m2, m3, m4, m5, m6⟩ := RB.out
  go_wp2_with fail
  exact bodyPost_ret (v := .tuple #[.agg #[.int .i64 0, .int .i64 0, .int .i64 0], .int .i64 1]) (by simp [results, Tryz.results22, go_sem, m0, m1, m2]) rfl ⟨rfl, by repeat (first | with_reducible assumption | with_reducible exact Ext.refl _ | with_reducible refine Ext.drew ?_ | with_reducible refine Ext.drewN ?_ _ | with_reducible refine Ext.alloc ?_ _ | with_reducible refine Ext.set ?_ (by first | exact Nat.le_refl _ | (dsimp only; omega) | (simp; done)) _)⟩
set_option maxHeartbeats 4000000 in
theorem Unit_zero (w : World)
    (HK : Hid (∀ (W : World) (n : Nat) (T : TypeId), W.heap.size = n → Calls Tryz.prog 72 #[.slice (some ⟨n, 0, none⟩) 1 1] (W.alloc (.cells #[.int .i64 0, .int .i64 0, .int .i64 0] T)) fun e w' => e = .returned (.int .i64 0) ∧ Ext (W.alloc (.cells #[.int .i64 0, .int .i64 0, .int .i64 0] T)) w')) :
    Calls Tryz.prog 22 #[.agg #[.int .i64 0, .int .i64 0, .int .i64 0]] w fun e' w' => e' = .returned (.tuple #[.agg #[.int .i64 0, .int .i64 0, .int .i64 0], .int .i64 3]) ∧ Ext w w' := by
  have HA : Hid (∀ w', Calls Tryz.prog 70 #[.agg #[.int .i64 0, .int .i64 0, .int .i64 0]] w' fun e w'' => e = .returned (.agg #[.int .i64 0, .int .i64 0, .int .i64 0]) ∧ Ext w' w'') := fun w' => of_any 0 0 0 w'
  go_enter Tryz.func22, Tryz.ntmps22
  go_wp2_with fail
  refine (HA.out _).mono ?_
  rintro e' w1 ⟨rfl, x1⟩
  go_wp2_with fail
  refine (HK.out _ _ _ rfl).mono ?_
  rintro e' w2 ⟨rfl, x20⟩
  have x2 := x1.trans (Ext.trans ((Ext.refl _).alloc _) x20)
  clear x20 x1
  have E8 : Ext w w2 := Ext.trans (((Ext.refl _).alloc _).alloc _) x2
  have PB : Hid (H3 w2 w.heap.size (.int .i64 0) (.int .i64 0) (.int .i64 0)) := (H3.alloc (h3_at rfl) _).ext x2
  have RB : Hid (H3 w2 (w.heap.size + 1) (.int .i64 0) (.int .i64 0) (.int .i64 0)) := (h3_at (by simp)).ext x2
  clear x2
  obtain ⟨p0, p1, p2, p3, p4, p5, p6⟩ := PB.out
  obtain ⟨m0, m1, m2, m3, m4, m5, m6⟩ := RB.out
  go_wp2_with fail
  exact bodyPost_ret (v := .tuple #[.agg #[.int .i64 0, .int .i64 0, .int .i64 0], .int .i64 3]) (by simp [results, Tryz.results22, go_sem, m0, m1, m2]) rfl ⟨rfl, by repeat (first | with_reducible assumption | with_reducible exact Ext.refl _ | with_reducible refine Ext.drew ?_ | with_reducible refine Ext.drewN ?_ _ | with_reducible refine Ext.alloc ?_ _ | with_reducible refine Ext.set ?_ (by first | exact Nat.le_refl _ | (dsimp only; omega) | (simp; done)) _)⟩
set_option maxHeartbeats 4000000 in
theorem Unit_yes0 (a0 a1 a2 x y z e : Int) (w : World) (hz : (a0 == 0) = false)
    (HK : Hid (∀ (W : World) (n : Nat) (T : TypeId), W.heap.size = n → Calls Tryz.prog 72 #[.slice (some ⟨n, 0, none⟩) 1 1] (W.alloc (.cells #[.int .i64 a0, .int .i64 a1, .int .i64 a2] T)) fun e w' => e = .returned (.int .i64 0) ∧ Ext (W.alloc (.cells #[.int .i64 a0, .int .i64 a1, .int .i64 a2] T)) w'))
    (HU : Hid (∀ w', Calls Tryz.prog 77 #[.agg #[.int .i64 a0, .int .i64 a1, .int .i64 a2]] w' fun e' w'' => e' = .returned (.tuple #[.agg #[.int .i64 x, .int .i64 y, .int .i64 z], .int .i64 e]) ∧ Ext w' w'')) :
    Calls Tryz.prog 22 #[.agg #[.int .i64 a0, .int .i64 a1, .int .i64 a2]] w fun e' w' => e' = .returned (.tuple #[.agg #[.int .i64 x, .int .i64 y, .int .i64 z], .int .i64 e]) ∧ Ext w w' := by
  have HA : Hid (∀ w', Calls Tryz.prog 70 #[.agg #[.int .i64 a0, .int .i64 a1, .int .i64 a2]] w' fun e w'' => e = .returned (.agg #[.int .i64 a0, .int .i64 a1, .int .i64 a2]) ∧ Ext w' w'') := fun w' => of_any a0 a1 a2 w'
  go_enter Tryz.func22, Tryz.ntmps22
  go_wp2_with fail
  refine (HA.out _).mono ?_
  rintro e' w1 ⟨rfl, x1⟩
  go_wp2_with fail
  refine (HK.out _ _ _ rfl).mono ?_
  rintro e' w2 ⟨rfl, x20⟩
  have x2 := x1.trans (Ext.trans ((Ext.refl _).alloc _) x20)
  clear x20 x1
  have E8 : Ext w w2 := Ext.trans (((Ext.refl _).alloc _).alloc _) x2
  have PB : Hid (H3 w2 w.heap.size (.int .i64 a0) (.int .i64 a1) (.int .i64 a2)) := (H3.alloc (h3_at rfl) _).ext x2
  have RB : Hid (H3 w2 (w.heap.size + 1) (.int .i64 0) (.int .i64 0) (.int .i64 0)) := (h3_at (by simp)).ext x2
  clear x2
  obtain ⟨p0, p1, p2, p3, p4, p5, p6⟩ := PB.out
  obtain ⟨m0, m1, m2, m3, m4, m5, m6⟩ := RB.out
  go_wp2_with fail
  refine (HA.out _).mono ?_
  rintro e' w3 ⟨rfl, x3⟩
  have E3 : Ext w w3 := E8.trans x3
  clear p0 p1 p2 p3 p4 p5 p6 m0 m1 m2 m3 m4 m5 m6
  go_wp2_with fail
  refine (HU.out _).mono ?_
  rintro e' w4 ⟨rfl, x4⟩
  have E4 : Ext w w4 := E3.trans x4
  obtain ⟨m0, m1, m2, m3, m4, m5, m6⟩ := (RB.out.ext x3).ext x4
  clear x3 x4 E8 E3
  go_wp2_with fail
  exact bodyPost_ret (v := .tuple #[.agg #[.int .i64 x, .int .i64 y, .int .i64 z], .int .i64 e]) (by simp [results, Tryz.results22, go_sem, m0, m1, m2]) rfl ⟨rfl, by repeat (first | with_reducible assumption | with_reducible exact Ext.refl _ | with_reducible refine Ext.drew ?_ | with_reducible refine Ext.drewN ?_ _ | with_reducible refine Ext.alloc ?_ _ | with_reducible refine Ext.set ?_ (by first | exact Nat.le_refl _ | (dsimp only; omega) | (simp; done)) _)⟩
set_option maxHeartbeats 4000000 in
theorem Unit_yes1 (a1 a2 x y z e : Int) (w : World) (hz : (a1 == 0) = false)
    (HK : Hid (∀ (W : World) (n : Nat) (T : TypeId), W.heap.size = n → Calls Tryz.prog 72 #[.slice (some ⟨n, 0, none⟩) 1 1] (W.alloc (.cells #[.int .i64 0, .int .i64 a1, .int .i64 a2] T)) fun e w' => e = .returned (.int .i64 0) ∧ Ext (W.alloc (.cells #[.int .i64 0, .int .i64 a1, .int .i64 a2] T)) w'))
    (HU : Hid (∀ w', Calls Tryz.prog 77 #[.agg #[.int .i64 0, .int .i64 a1, .int .i64 a2]] w' fun e' w'' => e' = .returned (.tuple #[.agg #[.int .i64 x, .int .i64 y, .int .i64 z], .int .i64 e]) ∧ Ext w' w'')) :
    Calls Tryz.prog 22 #[.agg #[.int .i64 0, .int .i64 a1, .int .i64 a2]] w fun e' w' => e' = .returned (.tuple #[.agg #[.int .i64 x, .int .i64 y, .int .i64 z], .int .i64 e]) ∧ Ext w w' := by
  have HA : Hid (∀ w', Calls Tryz.prog 70 #[.agg #[.int .i64 0, .int .i64 a1, .int .i64 a2]] w' fun e w'' => e = .returned (.agg #[.int .i64 0, .int .i64 a1, .int .i64 a2]) ∧ Ext w' w'') := fun w' => of_any 0 a1 a2 w'
  go_enter Tryz.func22, Tryz.ntmps22
  go_wp2_with fail
  refine (HA.out _).mono ?_
  rintro e' w1 ⟨rfl, x1⟩
  go_wp2_with fail
  refine (HK.out _ _ _ rfl).mono ?_
  rintro e' w2 ⟨rfl, x20⟩
  have x2 := x1.trans (Ext.trans ((Ext.refl _).alloc _) x20)
  clear x20 x1
  have E8 : Ext w w2 := Ext.trans (((Ext.refl _).alloc _).alloc _) x2
  have PB : Hid (H3 w2 w.heap.size (.int .i64 0) (.int .i64 a1) (.int .i64 a2)) := (H3.alloc (h3_at rfl) _).ext x2
  have RB : Hid (H3 w2 (w.heap.size + 1) (.int .i64 0) (.int .i64 0) (.int .i64 0)) := (h3_at (by simp)).ext x2
  clear x2
  obtain ⟨p0, p1, p2, p3, p4, p5, p6⟩ := PB.out
  obtain ⟨m0, m1, m2, m3, m4, m5, m6⟩ := RB.out
  go_wp2_with fail
  refine (HA.out _).mono ?_
  rintro e' w3 ⟨rfl, x3⟩
  have E3 : Ext w w3 := E8.trans x3
  clear p0 p1 p2 p3 p4 p5 p6 m0 m1 m2 m3 m4 m5 m6
  go_wp2_with fail
  refine (HU.out _).mono ?_
  rintro e' w4 ⟨rfl, x4⟩
  have E4 : Ext w w4 := E3.trans x4
  obtain ⟨m0, m1, m2, m3, m4, m5, m6⟩ := (RB.out.ext x3).ext x4
  clear x3 x4 E8 E3
  go_wp2_with fail
  exact bodyPost_ret (v := .tuple #[.agg #[.int .i64 x, .int .i64 y, .int .i64 z], .int .i64 e]) (by simp [results, Tryz.results22, go_sem, m0, m1, m2]) rfl ⟨rfl, by repeat (first | with_reducible assumption | with_reducible exact Ext.refl _ | with_reducible refine Ext.drew ?_ | with_reducible refine Ext.drewN ?_ _ | with_reducible refine Ext.alloc ?_ _ | with_reducible refine Ext.set ?_ (by first | exact Nat.le_refl _ | (dsimp only; omega) | (simp; done)) _)⟩
set_option maxHeartbeats 4000000 in
theorem Unit_yes2 (a2 x y z e : Int) (w : World) (hz : (a2 == 0) = false)
    (HK : Hid (∀ (W : World) (n : Nat) (T : TypeId), W.heap.size = n → Calls Tryz.prog 72 #[.slice (some ⟨n, 0, none⟩) 1 1] (W.alloc (.cells #[.int .i64 0, .int .i64 0, .int .i64 a2] T)) fun e w' => e = .returned (.int .i64 0) ∧ Ext (W.alloc (.cells #[.int .i64 0, .int .i64 0, .int .i64 a2] T)) w'))
    (HU : Hid (∀ w', Calls Tryz.prog 77 #[.agg #[.int .i64 0, .int .i64 0, .int .i64 a2]] w' fun e' w'' => e' = .returned (.tuple #[.agg #[.int .i64 x, .int .i64 y, .int .i64 z], .int .i64 e]) ∧ Ext w' w'')) :
    Calls Tryz.prog 22 #[.agg #[.int .i64 0, .int .i64 0, .int .i64 a2]] w fun e' w' => e' = .returned (.tuple #[.agg #[.int .i64 x, .int .i64 y, .int .i64 z], .int .i64 e]) ∧ Ext w w' := by
  have HA : Hid (∀ w', Calls Tryz.prog 70 #[.agg #[.int .i64 0, .int .i64 0, .int .i64 a2]] w' fun e w'' => e = .returned (.agg #[.int .i64 0, .int .i64 0, .int .i64 a2]) ∧ Ext w' w'') := fun w' => of_any 0 0 a2 w'
  go_enter Tryz.func22, Tryz.ntmps22
  go_wp2_with fail
  refine (HA.out _).mono ?_
  rintro e' w1 ⟨rfl, x1⟩
  go_wp2_with fail
  refine (HK.out _ _ _ rfl).mono ?_
  rintro e' w2 ⟨rfl, x20⟩
  have x2 := x1.trans (Ext.trans ((Ext.refl _).alloc _) x20)
  clear x20 x1
  have E8 : Ext w w2 := Ext.trans (((Ext.refl _).alloc _).alloc _) x2
  have PB : Hid (H3 w2 w.heap.size (.int .i64 0) (.int .i64 0) (.int .i64 a2)) := (H3.alloc (h3_at rfl) _).ext x2
  have RB : Hid (H3 w2 (w.heap.size + 1) (.int .i64 0) (.int .i64 0) (.int .i64 0)) := (h3_at (by simp)).ext x2
  clear x2
  obtain ⟨p0, p1, p2, p3, p4, p5, p6⟩ := PB.out
  obtain ⟨m0, m1, m2, m3, m4, m5, m6⟩ := RB.out
  go_wp2_with fail
  refine (HA.out _).mono ?_
  rintro e' w3 ⟨rfl, x3⟩
  have E3 : Ext w w3 := E8.trans x3
  clear p0 p1 p2 p3 p4 p5 p6 m0 m1 m2 m3 m4 m5 m6
  go_wp2_with fail
  refine (HU.out _).mono ?_
  rintro e' w4 ⟨rfl, x4⟩
  have E4 : Ext w w4 := E3.trans x4
  obtain ⟨m0, m1, m2, m3, m4, m5, m6⟩ := (RB.out.ext x3).ext x4
  clear x3 x4 E8 E3
  go_wp2_with fail
  exact bodyPost_ret (v := .tuple #[.agg #[.int .i64 x, .int .i64 y, .int .i64 z], .int .i64 e]) (by simp [results, Tryz.results22, go_sem, m0, m1, m2]) rfl ⟨rfl, by repeat (first | with_reducible assumption | with_reducible exact Ext.refl _ | with_reducible refine Ext.drew ?_ | with_reducible refine Ext.drewN ?_ _ | with_reducible refine Ext.alloc ?_ _ | with_reducible refine Ext.set ?_ (by first | exact Nat.le_refl _ | (dsimp only; omega) | (simp; done)) _)⟩
theorem sq3_zero (a0 a1 a2 : Int) (h : ¬ (a0 = 0 ∧ a1 = 0 ∧ a2 = 0)) : 0 < sq3 a0 a1 a2 := by
  unfold sq3
  by_cases h0 : a0 = 0
  · by_cases h1 : a1 = 0
    · have h2 : 0 < a2.natAbs := by omega
      have := Nat.mul_pos h2 h2
      omega
    · have h2 : 0 < a1.natAbs := by omega
      have := Nat.mul_pos h2 h2
      omega
  · have h2 : 0 < a0.natAbs := by omega
    have := Nat.mul_pos h2 h2
    omega
theorem vUnit_yes (a0 a1 a2 : Int) (k0 k1 k2 : Nat) (w : World) (h : ok3 a0 a1 a2 = true) (hz : ¬ (a0 = 0 ∧ a1 = 0 ∧ a2 = 0))
    (q0 : RootQ (a0.natAbs * a0.natAbs * 1152921504606846976) (sq3 a0 a1 a2) k0) (q1 : RootQ (a1.natAbs * a1.natAbs * 1152921504606846976) (sq3 a0 a1 a2) k1) (q2 : RootQ (a2.natAbs * a2.natAbs * 1152921504606846976) (sq3 a0 a1 a2) k2) :
    Calls Tryz.prog 22 #[.agg #[.int .i64 a0, .int .i64 a1, .int .i64 a2]] w fun e w' => e = .returned (vres (sgd a0 k0) (sgd a1 k1) (sgd a2 k2)) ∧ Ext w w' := by
  have hu := fun w' => unit_any a0 a1 a2 k0 k1 k2 w' h (sq3_zero a0 a1 a2 hz) q0 q1 q2
  have hk := fun W n T hn => check1_yes a0 a1 a2 W n T hn h
  obtain ⟨x, y, z, e, hr⟩ := vres_shape (sgd a0 k0) (sgd a1 k1) (sgd a2 k2)
  rw [hr] at hu ⊢
  clear hr q0 q1 q2
  by_cases h0 : a0 = 0
  · subst h0
    by_cases h1 : a1 = 0
    · subst h1
      exact Unit_yes2 a2 x y z e w (by rw [beq_eq_false_iff_ne]; intro h2; exact hz ⟨rfl, rfl, h2⟩) hk hu
    · exact Unit_yes1 a1 a2 x y z e w (by rw [beq_eq_false_iff_ne]; exact h1) hk hu
  · exact Unit_yes0 a0 a1 a2 x y z e w (by rw [beq_eq_false_iff_ne]; exact h0) hk hu
theorem vUnit_zero (w : World) : Calls Tryz.prog 22 #[.agg #[.int .i64 0, .int .i64 0, .int .i64 0]] w fun e w' => e = .returned (.tuple #[.agg #[.int .i64 0, .int .i64 0, .int .i64 0], .int .i64 3]) ∧ Ext w w' :=
  Unit_zero w (fun W n T hn => check1_yes 0 0 0 W n T hn (by decide))
theorem vUnit_no (a0 a1 a2 : Int) (w : World) (h : ok3 a0 a1 a2 = false) : Calls Tryz.prog 22 #[.agg #[.int .i64 a0, .int .i64 a1, .int .i64 a2]] w fun e w' => e = .returned vbad ∧ Ext w w' :=
  Unit_no a0 a1 a2 w (fun W n T hn => check1_no a0 a1 a2 W n T hn h)
end Go.Proofs.YtfmalpnlencmbaaGreat
