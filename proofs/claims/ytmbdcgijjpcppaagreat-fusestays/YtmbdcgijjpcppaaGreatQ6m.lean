/- quat: turn. -/
import Derived.Test.YtmbdcgijjpcppaaGreatMg13
import Derived.Test.YtmbdcgijjpcppaaGreatMg20
import Derived.Deep.RegionHeld
import Derived.Deep.DeepCutAuto
namespace Go.Proofs.YtmbdcgijjpcppaaGreat
open Go.RowKit Go.Shelf

set_option maxHeartbeats 4000000 in
theorem eqarr4 {P : Program} (t e : TypeId) (k k' : IntKind) (h : P.underlying t = some (.array 4 e)) (he : P.underlying e = some (.int k')) (hs : ∀ w, (Go.sizeOf e).run P w = .ok 1 w) (ha : ∀ w, (isAgg e).run P w = .ok false w) (x y z u a b c d : Int) (w : World) :
    (Op.equalIn 10000 t (.agg #[.int k x, .int k y, .int k z, .int k u]) (.agg #[.int k a, .int k b, .int k c, .int k d])).run P w = .ok (x == a && (y == b && (z == c && u == d))) w := by
  have hi : ∀ (u v : Int) (w : World), (Op.equalIn 9999 e (.int k u) (.int k v)).run P w = .ok (u == v) w := fun u v w => run_equalIn_int (P := P) w 9998 e k k' u v he
  show (Op.equalIn (9999 + 1) t _ _).run P w = _
  rw [Op.equalIn]
  by_cases hx : x = a <;> by_cases hy : y = b <;> by_cases hz : z = c <;> by_cases hu : u = d <;> simp [run_underlying h, hs, List.range', go_sem, ha, hi, hx, hy, hz, hu]
theorem eq4 (x y z u a b c d : Int) (w : World) : (Op.equalIn 10000 132 (.agg #[.int .i64 x, .int .i64 y, .int .i64 z, .int .i64 u]) (.agg #[.int .i64 a, .int .i64 b, .int .i64 c, .int .i64 d])).run Tryz.prog w = .ok (x == a && (y == b && (z == c && u == d))) w :=
  eqarr4 132 2 .i64 .i64 (by kernel_rfl) Tryz.underlying2 Tryz.sizeOf2 Tryz.isAgg2 x y z u a b c d w

set_option maxRecDepth 20000 in
set_option maxHeartbeats 8000000 in
theorem turn_bad (a b c d x y z cq cv r : Int) (w : World) (hr : (r != 0) = true)
    (HQ : Hid (∀ w', Calls Tryz.prog 133 #[.agg #[.int .i64 a, .int .i64 b, .int .i64 c, .int .i64 d]] w' fun e w'' => e = .returned (.int .i64 cq) ∧ Ext w' w''))
    (HV : Hid (∀ w', Calls Tryz.prog 45 #[.agg #[.int .i64 x, .int .i64 y, .int .i64 z]] w' fun e w'' => e = .returned (.int .i64 cv) ∧ Ext w' w''))
    (HO : Hid (∀ g w', H2 w' g (.int .i64 cq) (.int .i64 cv) → Calls Tryz.prog 52 #[.slice (some ⟨g, 0, none⟩) 2 2] w' fun e w'' => e = .returned (.int .i64 r) ∧ Ext w' w'')) :
    Calls Tryz.prog 100 #[.agg #[.int .i64 a, .int .i64 b, .int .i64 c, .int .i64 d], .agg #[.int .i64 x, .int .i64 y, .int .i64 z]] w fun e w' => e = .returned (.tuple #[.agg #[.int .i64 0, .int .i64 0, .int .i64 0], .int .i64 r]) ∧ Ext w w' := by
  have QB : Hid (H4 (((w.alloc (.cells #[.int .i64 a, .int .i64 b, .int .i64 c, .int .i64 d] 132)).alloc (.cells #[.int .i64 x, .int .i64 y, .int .i64 z] 28)).alloc (.cells #[.int .i64 0, .int .i64 0, .int .i64 0] 28)) w.heap.size (.int .i64 a) (.int .i64 b) (.int .i64 c) (.int .i64 d)) := H4.alloc (H4.alloc (h4_at rfl) _) _
  have VB : Hid (H3 (((w.alloc (.cells #[.int .i64 a, .int .i64 b, .int .i64 c, .int .i64 d] 132)).alloc (.cells #[.int .i64 x, .int .i64 y, .int .i64 z] 28)).alloc (.cells #[.int .i64 0, .int .i64 0, .int .i64 0] 28)) (w.heap.size + 1) (.int .i64 x) (.int .i64 y) (.int .i64 z)) := H3.alloc (h3_at (by simp)) _
  have RB : Hid (H3 (((w.alloc (.cells #[.int .i64 a, .int .i64 b, .int .i64 c, .int .i64 d] 132)).alloc (.cells #[.int .i64 x, .int .i64 y, .int .i64 z] 28)).alloc (.cells #[.int .i64 0, .int .i64 0, .int .i64 0] 28)) (w.heap.size + 1 + 1) (.int .i64 0) (.int .i64 0) (.int .i64 0)) := h3_at (by simp)
  have XB : Ext w (((w.alloc (.cells #[.int .i64 a, .int .i64 b, .int .i64 c, .int .i64 d] 132)).alloc (.cells #[.int .i64 x, .int .i64 y, .int .i64 z] 28)).alloc (.cells #[.int .i64 0, .int .i64 0, .int .i64 0] 28)) := (((Ext.refl _).alloc _).alloc _).alloc _
  obtain ⟨s0, s1, s2, s3, s4, s5, s6, s7, s8⟩ := QB.out
  obtain ⟨t0, t1, t2, t3, t4, t5, t6⟩ := VB.out
  go_enter Tryz.func100, Tryz.ntmps100
  go_upto_region 1 with fail
  generalize (((w.alloc (.cells #[.int .i64 a, .int .i64 b, .int .i64 c, .int .i64 d] 132)).alloc (.cells #[.int .i64 x, .int .i64 y, .int .i64 z] 28)).alloc (.cells #[.int .i64 0, .int .i64 0, .int .i64 0] 28)) = wB at *
  go_region_held (fun w' => w'.cell? ⟨w.heap.size, 0, none⟩ = some (.int .i64 a) ∧ w'.cell? ⟨w.heap.size, 1, none⟩ = some (.int .i64 b) ∧ w'.cell? ⟨w.heap.size, 2, none⟩ = some (.int .i64 c) ∧ w'.cell? ⟨w.heap.size, 3, none⟩ = some (.int .i64 d) ∧ w'.cell? ⟨w.heap.size + 1, 0, none⟩ = some (.int .i64 x) ∧ w'.cell? ⟨w.heap.size + 1, 1, none⟩ = some (.int .i64 y) ∧ w'.cell? ⟨w.heap.size + 1, 2, none⟩ = some (.int .i64 z)) (first | (go_keep; done) | skip) (first | (go_at_call 133; refine (HQ.out _).mono ?_; rintro e w1 ⟨rfl, x1⟩; have y1 : Ext wB w1 := Ext.trans (by repeat (first | with_reducible assumption | with_reducible exact Ext.refl _ | with_reducible refine Ext.drew ?_ | with_reducible refine Ext.drewN ?_ _ | with_reducible refine Ext.alloc ?_ _ | with_reducible refine Ext.set ?_ (by first | exact Nat.le_refl _ | (dsimp only; omega) | (simp; done)) _)) x1; obtain ⟨s0, s1, s2, s3, s4, s5, s6, s7, s8⟩ := QB.out.ext y1; obtain ⟨t0, t1, t2, t3, t4, t5, t6⟩ := VB.out.ext y1) | (go_at_call 45; refine (HV.out _).mono ?_; rintro e w2 ⟨rfl, x2⟩; have y2 : Ext wB w2 := Ext.trans (by first | with_reducible exact y1 | with_reducible exact Ext.alloc y1 _ | with_reducible exact Ext.drew y1 | with_reducible exact Ext.drew (Ext.alloc y1 _) | with_reducible exact Ext.alloc (Ext.drew y1) _) x2; obtain ⟨s0, s1, s2, s3, s4, s5, s6, s7, s8⟩ := QB.out.ext y2; obtain ⟨t0, t1, t2, t3, t4, t5, t6⟩ := VB.out.ext y2) | (go_at_call 52; refine (HO.out _ _ (by first | with_reducible exact h2_at rfl | with_reducible exact H2.drew (h2_at rfl) | exact h2_at (by simp) | exact H2.drew (h2_at (by simp)))).mono ?_; rintro e w3 ⟨rfl, x3⟩; have y3 : Ext wB w3 := Ext.trans (by first | with_reducible exact y2 | with_reducible exact Ext.alloc y2 _ | with_reducible exact Ext.drew y2 | with_reducible exact Ext.drew (Ext.alloc y2 _) | with_reducible exact Ext.alloc (Ext.drew y2) _) x3; obtain ⟨s0, s1, s2, s3, s4, s5, s6, s7, s8⟩ := QB.out.ext y3; obtain ⟨t0, t1, t2, t3, t4, t5, t6⟩ := VB.out.ext y3))
  all_goals
    have X3 : Ext w w3 := XB.trans y3
    obtain ⟨r0, r1, r2, r3, r4, r5, r6⟩ := RB.out.ext y3
    go_wp2_with fail
    exact bodyPost_ret (v := .tuple #[.agg #[.int .i64 0, .int .i64 0, .int .i64 0], .int .i64 r]) (by simp [results, Tryz.results100, go_sem, r0, r1, r2]) rfl ⟨rfl, by repeat (first | with_reducible assumption | with_reducible exact Ext.refl _ | with_reducible refine Ext.drew ?_ | with_reducible refine Ext.drewN ?_ _ | with_reducible refine Ext.alloc ?_ _ | with_reducible refine Ext.set ?_ (by first | exact Nat.le_refl _ | (dsimp only; omega) | (simp; done)) _)⟩

set_option maxRecDepth 20000 in
set_option maxHeartbeats 8000000 in
theorem turn_zero (x y z cq cv : Int) (w : World)
    (HQ : Hid (∀ w', Calls Tryz.prog 133 #[.agg #[.int .i64 0, .int .i64 0, .int .i64 0, .int .i64 0]] w' fun e w'' => e = .returned (.int .i64 cq) ∧ Ext w' w''))
    (HV : Hid (∀ w', Calls Tryz.prog 45 #[.agg #[.int .i64 x, .int .i64 y, .int .i64 z]] w' fun e w'' => e = .returned (.int .i64 cv) ∧ Ext w' w''))
    (HO : Hid (∀ g w', H2 w' g (.int .i64 cq) (.int .i64 cv) → Calls Tryz.prog 52 #[.slice (some ⟨g, 0, none⟩) 2 2] w' fun e w'' => e = .returned (.int .i64 0) ∧ Ext w' w'')) :
    Calls Tryz.prog 100 #[.agg #[.int .i64 0, .int .i64 0, .int .i64 0, .int .i64 0], .agg #[.int .i64 x, .int .i64 y, .int .i64 z]] w fun e w' => e = .returned (.tuple #[.agg #[.int .i64 0, .int .i64 0, .int .i64 0], .int .i64 3]) ∧ Ext w w' := by
  have he := eq4 0 0 0 0 0 0 0 0
  have QB : Hid (H4 (((w.alloc (.cells #[.int .i64 0, .int .i64 0, .int .i64 0, .int .i64 0] 132)).alloc (.cells #[.int .i64 x, .int .i64 y, .int .i64 z] 28)).alloc (.cells #[.int .i64 0, .int .i64 0, .int .i64 0] 28)) w.heap.size (.int .i64 0) (.int .i64 0) (.int .i64 0) (.int .i64 0)) := H4.alloc (H4.alloc (h4_at rfl) _) _
  have VB : Hid (H3 (((w.alloc (.cells #[.int .i64 0, .int .i64 0, .int .i64 0, .int .i64 0] 132)).alloc (.cells #[.int .i64 x, .int .i64 y, .int .i64 z] 28)).alloc (.cells #[.int .i64 0, .int .i64 0, .int .i64 0] 28)) (w.heap.size + 1) (.int .i64 x) (.int .i64 y) (.int .i64 z)) := H3.alloc (h3_at (by simp)) _
  have RB : Hid (H3 (((w.alloc (.cells #[.int .i64 0, .int .i64 0, .int .i64 0, .int .i64 0] 132)).alloc (.cells #[.int .i64 x, .int .i64 y, .int .i64 z] 28)).alloc (.cells #[.int .i64 0, .int .i64 0, .int .i64 0] 28)) (w.heap.size + 1 + 1) (.int .i64 0) (.int .i64 0) (.int .i64 0)) := h3_at (by simp)
  have XB : Ext w (((w.alloc (.cells #[.int .i64 0, .int .i64 0, .int .i64 0, .int .i64 0] 132)).alloc (.cells #[.int .i64 x, .int .i64 y, .int .i64 z] 28)).alloc (.cells #[.int .i64 0, .int .i64 0, .int .i64 0] 28)) := (((Ext.refl _).alloc _).alloc _).alloc _
  obtain ⟨s0, s1, s2, s3, s4, s5, s6, s7, s8⟩ := QB.out
  obtain ⟨t0, t1, t2, t3, t4, t5, t6⟩ := VB.out
  go_enter Tryz.func100, Tryz.ntmps100
  go_upto_region 1 with fail
  generalize (((w.alloc (.cells #[.int .i64 0, .int .i64 0, .int .i64 0, .int .i64 0] 132)).alloc (.cells #[.int .i64 x, .int .i64 y, .int .i64 z] 28)).alloc (.cells #[.int .i64 0, .int .i64 0, .int .i64 0] 28)) = wB at *
  go_region_held (fun w' => w'.cell? ⟨w.heap.size, 0, none⟩ = some (.int .i64 0) ∧ w'.cell? ⟨w.heap.size, 1, none⟩ = some (.int .i64 0) ∧ w'.cell? ⟨w.heap.size, 2, none⟩ = some (.int .i64 0) ∧ w'.cell? ⟨w.heap.size, 3, none⟩ = some (.int .i64 0) ∧ w'.cell? ⟨w.heap.size + 1, 0, none⟩ = some (.int .i64 x) ∧ w'.cell? ⟨w.heap.size + 1, 1, none⟩ = some (.int .i64 y) ∧ w'.cell? ⟨w.heap.size + 1, 2, none⟩ = some (.int .i64 z)) (first | (go_keep; done) | skip) (first | (go_at_call 133; refine (HQ.out _).mono ?_; rintro e w1 ⟨rfl, x1⟩; have y1 : Ext wB w1 := Ext.trans (by repeat (first | with_reducible assumption | with_reducible exact Ext.refl _ | with_reducible refine Ext.drew ?_ | with_reducible refine Ext.drewN ?_ _ | with_reducible refine Ext.alloc ?_ _ | with_reducible refine Ext.set ?_ (by first | exact Nat.le_refl _ | (dsimp only; omega) | (simp; done)) _)) x1; obtain ⟨s0, s1, s2, s3, s4, s5, s6, s7, s8⟩ := QB.out.ext y1; obtain ⟨t0, t1, t2, t3, t4, t5, t6⟩ := VB.out.ext y1) | (go_at_call 45; refine (HV.out _).mono ?_; rintro e w2 ⟨rfl, x2⟩; have y2 : Ext wB w2 := Ext.trans (by first | with_reducible exact y1 | with_reducible exact Ext.alloc y1 _ | with_reducible exact Ext.drew y1 | with_reducible exact Ext.drew (Ext.alloc y1 _) | with_reducible exact Ext.alloc (Ext.drew y1) _) x2; obtain ⟨s0, s1, s2, s3, s4, s5, s6, s7, s8⟩ := QB.out.ext y2; obtain ⟨t0, t1, t2, t3, t4, t5, t6⟩ := VB.out.ext y2) | (go_at_call 52; refine (HO.out _ _ (by first | with_reducible exact h2_at rfl | with_reducible exact H2.drew (h2_at rfl) | exact h2_at (by simp) | exact H2.drew (h2_at (by simp)))).mono ?_; rintro e w3 ⟨rfl, x3⟩; have y3 : Ext wB w3 := Ext.trans (by first | with_reducible exact y2 | with_reducible exact Ext.alloc y2 _ | with_reducible exact Ext.drew y2 | with_reducible exact Ext.drew (Ext.alloc y2 _) | with_reducible exact Ext.alloc (Ext.drew y2) _) x3; obtain ⟨s0, s1, s2, s3, s4, s5, s6, s7, s8⟩ := QB.out.ext y3; obtain ⟨t0, t1, t2, t3, t4, t5, t6⟩ := VB.out.ext y3))
  all_goals
    have X3 : Ext w w3 := XB.trans y3
    obtain ⟨r0, r1, r2, r3, r4, r5, r6⟩ := RB.out.ext y3
    go_wp2_with fail
    exact bodyPost_ret (v := .tuple #[.agg #[.int .i64 0, .int .i64 0, .int .i64 0], .int .i64 3]) (by simp [results, Tryz.results100, go_sem, r0, r1, r2]) rfl ⟨rfl, by repeat (first | with_reducible assumption | with_reducible exact Ext.refl _ | with_reducible refine Ext.drew ?_ | with_reducible refine Ext.drewN ?_ _ | with_reducible refine Ext.alloc ?_ _ | with_reducible refine Ext.set ?_ (by first | exact Nat.le_refl _ | (dsimp only; omega) | (simp; done)) _)⟩

set_option maxRecDepth 20000 in
set_option maxHeartbeats 8000000 in
theorem turn_yes (a b c d x y z cq cv r E0 E1 E2 E3 ee : Int) (w : World) (hr : r = 0) (hz : (a == 0 && (b == 0 && (c == 0 && d == 0))) = false)
    (HQ : Hid (∀ w', Calls Tryz.prog 133 #[.agg #[.int .i64 a, .int .i64 b, .int .i64 c, .int .i64 d]] w' fun e w'' => e = .returned (.int .i64 cq) ∧ Ext w' w''))
    (HV : Hid (∀ w', Calls Tryz.prog 45 #[.agg #[.int .i64 x, .int .i64 y, .int .i64 z]] w' fun e w'' => e = .returned (.int .i64 cv) ∧ Ext w' w''))
    (HO : Hid (∀ g w', H2 w' g (.int .i64 cq) (.int .i64 cv) → Calls Tryz.prog 52 #[.slice (some ⟨g, 0, none⟩) 2 2] w' fun e w'' => e = .returned (.int .i64 r) ∧ Ext w' w''))
    (HT : Hid (∀ w', Calls Tryz.prog 134 #[.agg #[.int .i64 a, .int .i64 b, .int .i64 c, .int .i64 d], .agg #[.int .i64 x, .int .i64 y, .int .i64 z]] w' fun e w'' => e = .returned (.tuple #[.agg #[.int .i64 E0, .int .i64 E1, .int .i64 E2, .int .i64 E3], .int .i64 ee]) ∧ Ext w' w'')) :
    Calls Tryz.prog 100 #[.agg #[.int .i64 a, .int .i64 b, .int .i64 c, .int .i64 d], .agg #[.int .i64 x, .int .i64 y, .int .i64 z]] w fun e w' => e = .returned (.tuple #[.agg #[.int .i64 E1, .int .i64 E2, .int .i64 E3], .int .i64 ee]) ∧ Ext w w' := by
  have he := eq4 a b c d 0 0 0 0
  rw [hz] at he
  clear hz
  subst hr
  have QB : Hid (H4 (((w.alloc (.cells #[.int .i64 a, .int .i64 b, .int .i64 c, .int .i64 d] 132)).alloc (.cells #[.int .i64 x, .int .i64 y, .int .i64 z] 28)).alloc (.cells #[.int .i64 0, .int .i64 0, .int .i64 0] 28)) w.heap.size (.int .i64 a) (.int .i64 b) (.int .i64 c) (.int .i64 d)) := H4.alloc (H4.alloc (h4_at rfl) _) _
  have VB : Hid (H3 (((w.alloc (.cells #[.int .i64 a, .int .i64 b, .int .i64 c, .int .i64 d] 132)).alloc (.cells #[.int .i64 x, .int .i64 y, .int .i64 z] 28)).alloc (.cells #[.int .i64 0, .int .i64 0, .int .i64 0] 28)) (w.heap.size + 1) (.int .i64 x) (.int .i64 y) (.int .i64 z)) := H3.alloc (h3_at (by simp)) _
  have RB : Hid (H3 (((w.alloc (.cells #[.int .i64 a, .int .i64 b, .int .i64 c, .int .i64 d] 132)).alloc (.cells #[.int .i64 x, .int .i64 y, .int .i64 z] 28)).alloc (.cells #[.int .i64 0, .int .i64 0, .int .i64 0] 28)) (w.heap.size + 1 + 1) (.int .i64 0) (.int .i64 0) (.int .i64 0)) := h3_at (by simp)
  have XB : Ext w (((w.alloc (.cells #[.int .i64 a, .int .i64 b, .int .i64 c, .int .i64 d] 132)).alloc (.cells #[.int .i64 x, .int .i64 y, .int .i64 z] 28)).alloc (.cells #[.int .i64 0, .int .i64 0, .int .i64 0] 28)) := (((Ext.refl _).alloc _).alloc _).alloc _
  obtain ⟨s0, s1, s2, s3, s4, s5, s6, s7, s8⟩ := QB.out
  obtain ⟨t0, t1, t2, t3, t4, t5, t6⟩ := VB.out
  go_enter Tryz.func100, Tryz.ntmps100
  go_upto_region 1 with fail
  generalize (((w.alloc (.cells #[.int .i64 a, .int .i64 b, .int .i64 c, .int .i64 d] 132)).alloc (.cells #[.int .i64 x, .int .i64 y, .int .i64 z] 28)).alloc (.cells #[.int .i64 0, .int .i64 0, .int .i64 0] 28)) = wB at *
  go_region_held (fun w' => w'.cell? ⟨w.heap.size, 0, none⟩ = some (.int .i64 a) ∧ w'.cell? ⟨w.heap.size, 1, none⟩ = some (.int .i64 b) ∧ w'.cell? ⟨w.heap.size, 2, none⟩ = some (.int .i64 c) ∧ w'.cell? ⟨w.heap.size, 3, none⟩ = some (.int .i64 d) ∧ w'.cell? ⟨w.heap.size + 1, 0, none⟩ = some (.int .i64 x) ∧ w'.cell? ⟨w.heap.size + 1, 1, none⟩ = some (.int .i64 y) ∧ w'.cell? ⟨w.heap.size + 1, 2, none⟩ = some (.int .i64 z)) (first | (go_keep; done) | skip) (first | (go_at_call 133; refine (HQ.out _).mono ?_; rintro e w1 ⟨rfl, x1⟩; have y1 : Ext wB w1 := Ext.trans (by repeat (first | with_reducible assumption | with_reducible exact Ext.refl _ | with_reducible refine Ext.drew ?_ | with_reducible refine Ext.drewN ?_ _ | with_reducible refine Ext.alloc ?_ _ | with_reducible refine Ext.set ?_ (by first | exact Nat.le_refl _ | (dsimp only; omega) | (simp; done)) _)) x1; obtain ⟨s0, s1, s2, s3, s4, s5, s6, s7, s8⟩ := QB.out.ext y1; obtain ⟨t0, t1, t2, t3, t4, t5, t6⟩ := VB.out.ext y1) | (go_at_call 45; refine (HV.out _).mono ?_; rintro e w2 ⟨rfl, x2⟩; have y2 : Ext wB w2 := Ext.trans (by first | with_reducible exact y1 | with_reducible exact Ext.alloc y1 _ | with_reducible exact Ext.drew y1 | with_reducible exact Ext.drew (Ext.alloc y1 _) | with_reducible exact Ext.alloc (Ext.drew y1) _) x2; obtain ⟨s0, s1, s2, s3, s4, s5, s6, s7, s8⟩ := QB.out.ext y2; obtain ⟨t0, t1, t2, t3, t4, t5, t6⟩ := VB.out.ext y2) | (go_at_call 52; refine (HO.out _ _ (by first | with_reducible exact h2_at rfl | with_reducible exact H2.drew (h2_at rfl) | exact h2_at (by simp) | exact H2.drew (h2_at (by simp)))).mono ?_; rintro e w3 ⟨rfl, x3⟩; have y3 : Ext wB w3 := Ext.trans (by first | with_reducible exact y2 | with_reducible exact Ext.alloc y2 _ | with_reducible exact Ext.drew y2 | with_reducible exact Ext.drew (Ext.alloc y2 _) | with_reducible exact Ext.alloc (Ext.drew y2) _) x3; obtain ⟨s0, s1, s2, s3, s4, s5, s6, s7, s8⟩ := QB.out.ext y3; obtain ⟨t0, t1, t2, t3, t4, t5, t6⟩ := VB.out.ext y3))
  all_goals
    have X3 : Ext w w3 := XB.trans y3
    obtain ⟨r0, r1, r2, r3, r4, r5, r6⟩ := RB.out.ext y3
    go_wp2_with fail
    refine (HT.out _).mono ?_
    rintro e w4 ⟨rfl, x4⟩
    have X4 : Ext w w4 := X3.trans x4
    have RX := (RB.out.ext y3).ext x4
    clear x4 X3 r0 r1 r2 r3 r4 r5
    have r0 := fun o => (H3.alloc RX o).1
    have r1 := fun o => (H3.alloc RX o).2.1
    have r2 := fun o => (H3.alloc RX o).2.2.1
    have r3 := fun o => (H3.alloc RX o).2.2.2.1
    have r4 := fun o => (H3.alloc RX o).2.2.2.2.1
    have r5 := fun o => (H3.alloc RX o).2.2.2.2.2.1
    clear RX
    go_wp2_with fail
    exact bodyPost_ret (v := .tuple #[.agg #[.int .i64 E1, .int .i64 E2, .int .i64 E3], .int .i64 ee]) (by simp [results, Tryz.results100, go_sem, r0, r1, r2]) rfl ⟨rfl, by repeat (first | with_reducible assumption | with_reducible exact Ext.refl _ | with_reducible refine Ext.drew ?_ | with_reducible refine Ext.drewN ?_ _ | with_reducible refine Ext.alloc ?_ _ | with_reducible refine Ext.set ?_ (by first | exact Nat.le_refl _ | (dsimp only; omega) | (simp; done)) _)⟩

end Go.Proofs.YtmbdcgijjpcppaaGreat
