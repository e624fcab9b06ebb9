/- quat: turn. quat: turned, turn. -/
import Derived.Test.YtoeecldhbabmbaaGreatMg11
import Derived.Test.YtoeecldhbabmbaaGreatV1m
import Derived.Deep.RegionHeld
import Derived.Deep.DeepCutAuto
import Derived.Test.YtoeecldhbabmbaaGreatMg9
open Go.Value renaming int → J, agg → zG
open Go.IntKind renaming i64 → zq
open Go.Ending renaming returned → zR
open Go.Proofs.Tryz renaming prog → zP
namespace Go.Proofs.YtoeecldhbabmbaaGreat
open Go.RowKit Go.Shelf
set_option maxHeartbeats 4000000 in
theorem eqarr4 {P : Program} (t e : TypeId) (k k' : IntKind) (h : P.underlying t = some (.array 4 e)) (he : P.underlying e = some (.int k')) (hs : ∀ w, (Go.sizeOf e).run P w = .ok 1 w) (ha : ∀ w, (isAgg e).run P w = .ok false w) (x y z u a b c d : Int) (w : World) :
    (Op.equalIn 10000 t (zG #[.int k x, .int k y, .int k z, .int k u]) (zG #[.int k a, .int k b, .int k c, .int k d])).run P w = .ok (x == a && (y == b && (z == c && u == d))) w := by
  have hi : ∀ (u v : Int) (w : World), (Op.equalIn 9999 e (.int k u) (.int k v)).run P w = .ok (u == v) w := fun u v w => run_equalIn_int (P := P) w 9998 e k k' u v he
  show (Op.equalIn (9999 + 1) t _ _).run P w = _
  rw [Op.equalIn]
  by_cases hx : x = a <;> by_cases hy : y = b <;> by_cases hz : z = c <;> by_cases hu : u = d <;> simp [run_underlying h, hs, List.range', go_sem, ha, hi, hx, hy, hz, hu]
theorem eq4 (x y z u a b c d : Int) (w : World) : (Op.equalIn 10000 124 (zG #[J zq x, J zq y, J zq z, J zq u]) (zG #[J zq a, J zq b, J zq c, J zq d])).run zP w = .ok (x == a && (y == b && (z == c && u == d))) w :=
  eqarr4 124 2 .i64 .i64 (by kernel_rfl) Tryz.underlying2 Tryz.sizeOf2 Tryz.isAgg2 x y z u a b c d w
set_option maxRecDepth 20000 in
set_option maxHeartbeats 8000000 in
theorem turn_bad (a b c d x y z cq cv r : Int) (w : World) (hr : (r != 0) = true)
    (HQ : Hid (∀ w', Calls zP 118 #[zG #[J zq a, J zq b, J zq c, J zq d]] w' fun e w'' => e = zR (J zq cq) ∧ Ext w' w''))
    (HV : Hid (∀ w', Calls zP 36 #[zG #[J zq x, J zq y, J zq z]] w' fun e w'' => e = zR (J zq cv) ∧ Ext w' w''))
    (HO : Hid (∀ g w', H2 w' g (J zq cq) (J zq cv) → Calls zP 43 #[.slice (some ⟨g, 0, none⟩) 2 2] w' fun e w'' => e = zR (J zq r) ∧ Ext w' w'')) :
    Calls zP 88 #[zG #[J zq a, J zq b, J zq c, J zq d], zG #[J zq x, J zq y, J zq z]] w fun e w' => e = zR (.tuple #[zG #[J zq 0, J zq 0, J zq 0], J zq r]) ∧ Ext w w' := by
  have QB : Hid (H4 (((w.alloc (.cells #[J zq a, J zq b, J zq c, J zq d] 124)).alloc (.cells #[J zq x, J zq y, J zq z] 28)).alloc (.cells #[J zq 0, J zq 0, J zq 0] 28)) w.heap.size (J zq a) (J zq b) (J zq c) (J zq d)) := H4.alloc (H4.alloc (h4_at rfl) _) _
  have VB : Hid (H3 (((w.alloc (.cells #[J zq a, J zq b, J zq c, J zq d] 124)).alloc (.cells #[J zq x, J zq y, J zq z] 28)).alloc (.cells #[J zq 0, J zq 0, J zq 0] 28)) (w.heap.size + 1) (J zq x) (J zq y) (J zq z)) := H3.alloc (h3_at (by simp)) _
  have RB : Hid (H3 (((w.alloc (.cells #[J zq a, J zq b, J zq c, J zq d] 124)).alloc (.cells #[J zq x, J zq y, J zq z] 28)).alloc (.cells #[J zq 0, J zq 0, J zq 0] 28)) (w.heap.size + 1 + 1) (J zq 0) (J zq 0) (J zq 0)) := h3_at (by simp)
  have XB : Ext w (((w.alloc (.cells #[J zq a, J zq b, J zq c, J zq d] 124)).alloc (.cells #[J zq x, J zq y, J zq z] 28)).alloc (.cells #[J zq 0, J zq 0, J zq 0] 28)) := (((Ext.refl _).alloc _).alloc _).alloc _
  obtain ⟨s0, s1, s2, s3, s4, s5, s6, s7, s8⟩ := QB.out
  obtain ⟨t0, t1, t2, t3, t4, t5, t6⟩ := VB.out
  go_enter Tryz.func88, Tryz.ntmps88
  go_upto_region 1 with fail
  generalize (((w.alloc (.cells #[J zq a, J zq b, J zq c, J zq d] 124)).alloc (.cells #[J zq x, J zq y, J zq z] 28)).alloc (.cells #[J zq 0, J zq 0, J zq 0] 28)) = wB at *
  go_region_held (fun w' => w'.cell? ⟨w.heap.size, 0, none⟩ = some (J zq a) ∧ w'.cell? ⟨w.heap.size, 1, none⟩ = some (J zq b) ∧ w'.cell? ⟨w.heap.size, 2, none⟩ = some (J zq c) ∧ w'.cell? ⟨w.heap.size, 3, none⟩ = some (J zq d) ∧ w'.cell? ⟨w.heap.size + 1, 0, none⟩ = some (J zq x) ∧ w'.cell? ⟨w.heap.size + 1, 1, none⟩ = some (J zq y) ∧ w'.cell? ⟨w.heap.size + 1, 2, none⟩ = some (J zq z)) (first | (go_keep; done) | skip) (first | (go_at_call 118; refine (HQ.out _).mono ?_; rintro e w1 ⟨rfl, x1⟩; have y1 : Ext wB w1 := Ext.trans xa x1; obtain ⟨s0, s1, s2, s3, s4, s5, s6, s7, s8⟩ := QB.out.ext y1; obtain ⟨t0, t1, t2, t3, t4, t5, t6⟩ := VB.out.ext y1) | (go_at_call 36; refine (HV.out _).mono ?_; rintro e w2 ⟨rfl, x2⟩; have y2 : Ext wB w2 := Ext.trans (by first | with_reducible exact y1 | with_reducible exact Ext.alloc y1 _ | with_reducible exact Ext.drew y1 | with_reducible exact Ext.drew (Ext.alloc y1 _) | with_reducible exact Ext.alloc (Ext.drew y1) _) x2; obtain ⟨s0, s1, s2, s3, s4, s5, s6, s7, s8⟩ := QB.out.ext y2; obtain ⟨t0, t1, t2, t3, t4, t5, t6⟩ := VB.out.ext y2) | (go_at_call 43; refine (HO.out _ _ (by first | with_reducible exact h2_at rfl | with_reducible exact H2.drew (h2_at rfl) | exact h2_at (by simp) | exact H2.drew (h2_at (by simp)))).mono ?_; rintro e w3 ⟨rfl, x3⟩; have y3 : Ext wB w3 := Ext.trans (by first | with_reducible exact y2 | with_reducible exact Ext.alloc y2 _ | with_reducible exact Ext.drew y2 | with_reducible exact Ext.drew (Ext.alloc y2 _) | with_reducible exact Ext.alloc (Ext.drew y2) _) x3; obtain ⟨s0, s1, s2, s3, s4, s5, s6, s7, s8⟩ := QB.out.ext y3; obtain ⟨t0, t1, t2, t3, t4, t5, t6⟩ := VB.out.ext y3))
  all_goals
    have X3 : Ext w w3 := XB.trans y3
    obtain ⟨r0, r1, r2, r3, r4, r5, r6⟩ := RB.out.ext y3
    go_wp2_with fail
    exact bodyPost_ret (v := .tuple #[zG #[J zq 0, J zq 0, J zq 0], J zq r]) (by simp [results, Tryz.results88, go_sem, r0, r1, r2]) rfl ⟨rfl, xa⟩
set_option maxRecDepth 20000 in
set_option maxHeartbeats 8000000 in
theorem turn_zero (x y z cq cv : Int) (w : World)
    (HQ : Hid (∀ w', Calls zP 118 #[zG #[J zq 0, J zq 0, J zq 0, J zq 0]] w' fun e w'' => e = zR (J zq cq) ∧ Ext w' w''))
    (HV : Hid (∀ w', Calls zP 36 #[zG #[J zq x, J zq y, J zq z]] w' fun e w'' => e = zR (J zq cv) ∧ Ext w' w''))
    (HO : Hid (∀ g w', H2 w' g (J zq cq) (J zq cv) → Calls zP 43 #[.slice (some ⟨g, 0, none⟩) 2 2] w' fun e w'' => e = zR (J zq 0) ∧ Ext w' w'')) :
    Calls zP 88 #[zG #[J zq 0, J zq 0, J zq 0, J zq 0], zG #[J zq x, J zq y, J zq z]] w fun e w' => e = zR (.tuple #[zG #[J zq 0, J zq 0, J zq 0], J zq 3]) ∧ Ext w w' := by
  have he := eq4 0 0 0 0 0 0 0 0
  have QB : Hid (H4 (((w.alloc (.cells #[J zq 0, J zq 0, J zq 0, J zq 0] 124)).alloc (.cells #[J zq x, J zq y, J zq z] 28)).alloc (.cells #[J zq 0, J zq 0, J zq 0] 28)) w.heap.size (J zq 0) (J zq 0) (J zq 0) (J zq 0)) := H4.alloc (H4.alloc (h4_at rfl) _) _
  have VB : Hid (H3 (((w.alloc (.cells #[J zq 0, J zq 0, J zq 0, J zq 0] 124)).alloc (.cells #[J zq x, J zq y, J zq z] 28)).alloc (.cells #[J zq 0, J zq 0, J zq 0] 28)) (w.heap.size + 1) (J zq x) (J zq y) (J zq z)) := H3.alloc (h3_at (by simp)) _
  have RB : Hid (H3 (((w.alloc (.cells #[J zq 0, J zq 0, J zq 0, J zq 0] 124)).alloc (.cells #[J zq x, J zq y, J zq z] 28)).alloc (.cells #[J zq 0, J zq 0, J zq 0] 28)) (w.heap.size + 1 + 1) (J zq 0) (J zq 0) (J zq 0)) := h3_at (by simp)
  have XB : Ext w (((w.alloc (.cells #[J zq 0, J zq 0, J zq 0, J zq 0] 124)).alloc (.cells #[J zq x, J zq y, J zq z] 28)).alloc (.cells #[J zq 0, J zq 0, J zq 0] 28)) := (((Ext.refl _).alloc _).alloc _).alloc _
  obtain ⟨s0, s1, s2, s3, s4, s5, s6, s7, s8⟩ := QB.out
  obtain ⟨t0, t1, t2, t3, t4, t5, t6⟩ := VB.out
  go_enter Tryz.func88, Tryz.ntmps88
  go_upto_region 1 with fail
  generalize (((w.alloc (.cells #[J zq 0, J zq 0, J zq 0, J zq 0] 124)).alloc (.cells #[J zq x, J zq y, J zq z] 28)).alloc (.cells #[J zq 0, J zq 0, J zq 0] 28)) = wB at *
  go_region_held (fun w' => w'.cell? ⟨w.heap.size, 0, none⟩ = some (J zq 0) ∧ w'.cell? ⟨w.heap.size, 1, none⟩ = some (J zq 0) ∧ w'.cell? ⟨w.heap.size, 2, none⟩ = some (J zq 0) ∧ w'.cell? ⟨w.heap.size, 3, none⟩ = some (J zq 0) ∧ w'.cell? ⟨w.heap.size + 1, 0, none⟩ = some (J zq x) ∧ w'.cell? ⟨w.heap.size + 1, 1, none⟩ = some (J zq y) ∧ w'.cell? ⟨w.heap.size + 1, 2, none⟩ = some (J zq z)) (first | (go_keep; done) | skip) (first | (go_at_call 118; refine (HQ.out _).mono ?_; rintro e w1 ⟨rfl, x1⟩; have y1 : Ext wB w1 := Ext.trans xa x1; obtain ⟨s0, s1, s2, s3, s4, s5, s6, s7, s8⟩ := QB.out.ext y1; obtain ⟨t0, t1, t2, t3, t4, t5, t6⟩ := VB.out.ext y1) | (go_at_call 36; refine (HV.out _).mono ?_; rintro e w2 ⟨rfl, x2⟩; have y2 : Ext wB w2 := Ext.trans (by first | with_reducible exact y1 | with_reducible exact Ext.alloc y1 _ | with_reducible exact Ext.drew y1 | with_reducible exact Ext.drew (Ext.alloc y1 _) | with_reducible exact Ext.alloc (Ext.drew y1) _) x2; obtain ⟨s0, s1, s2, s3, s4, s5, s6, s7, s8⟩ := QB.out.ext y2; obtain ⟨t0, t1, t2, t3, t4, t5, t6⟩ := VB.out.ext y2) | (go_at_call 43; refine (HO.out _ _ (by first | with_reducible exact h2_at rfl | with_reducible exact H2.drew (h2_at rfl) | exact h2_at (by simp) | exact H2.drew (h2_at (by simp)))).mono ?_; rintro e w3 ⟨rfl, x3⟩; have y3 : Ext wB w3 := Ext.trans (by first | with_reducible exact y2 | with_reducible exact Ext.alloc y2 _ | with_reducible exact Ext.drew y2 | with_reducible exact Ext.drew (Ext.alloc y2 _) | with_reducible exact Ext.alloc (Ext.drew y2) _) x3; obtain ⟨s0, s1, s2, s3, s4, s5, s6, s7, s8⟩ := QB.out.ext y3; obtain ⟨t0, t1, t2, t3, t4, t5, t6⟩ := VB.out.ext y3))
  all_goals
    have X3 : Ext w w3 := XB.trans y3
    obtain ⟨r0, r1, r2, r3, r4, r5, r6⟩ := RB.out.ext y3
    go_wp2_with fail
    exact bodyPost_ret (v := .tuple #[zG #[J zq 0, J zq 0, J zq 0], J zq 3]) (by simp [results, Tryz.results88, go_sem, r0, r1, r2]) rfl ⟨rfl, xa⟩
set_option maxRecDepth 20000 in
set_option maxHeartbeats 8000000 in
theorem turn_yes (a b c d x y z cq cv r E0 E1 E2 E3 ee : Int) (w : World) (hr : r = 0) (hz : (a == 0 && (b == 0 && (c == 0 && d == 0))) = false)
    (HQ : Hid (∀ w', Calls zP 118 #[zG #[J zq a, J zq b, J zq c, J zq d]] w' fun e w'' => e = zR (J zq cq) ∧ Ext w' w''))
    (HV : Hid (∀ w', Calls zP 36 #[zG #[J zq x, J zq y, J zq z]] w' fun e w'' => e = zR (J zq cv) ∧ Ext w' w''))
    (HO : Hid (∀ g w', H2 w' g (J zq cq) (J zq cv) → Calls zP 43 #[.slice (some ⟨g, 0, none⟩) 2 2] w' fun e w'' => e = zR (J zq r) ∧ Ext w' w''))
    (HT : Hid (∀ w', Calls zP 119 #[zG #[J zq a, J zq b, J zq c, J zq d], zG #[J zq x, J zq y, J zq z]] w' fun e w'' => e = zR (.tuple #[zG #[J zq E0, J zq E1, J zq E2, J zq E3], J zq ee]) ∧ Ext w' w'')) :
    Calls zP 88 #[zG #[J zq a, J zq b, J zq c, J zq d], zG #[J zq x, J zq y, J zq z]] w fun e w' => e = zR (.tuple #[zG #[J zq E1, J zq E2, J zq E3], J zq ee]) ∧ Ext w w' := by
  have he := eq4 a b c d 0 0 0 0
  rw [hz] at he
  clear hz
  subst hr
  have QB : Hid (H4 (((w.alloc (.cells #[J zq a, J zq b, J zq c, J zq d] 124)).alloc (.cells #[J zq x, J zq y, J zq z] 28)).alloc (.cells #[J zq 0, J zq 0, J zq 0] 28)) w.heap.size (J zq a) (J zq b) (J zq c) (J zq d)) := H4.alloc (H4.alloc (h4_at rfl) _) _
  have VB : Hid (H3 (((w.alloc (.cells #[J zq a, J zq b, J zq c, J zq d] 124)).alloc (.cells #[J zq x, J zq y, J zq z] 28)).alloc (.cells #[J zq 0, J zq 0, J zq 0] 28)) (w.heap.size + 1) (J zq x) (J zq y) (J zq z)) := H3.alloc (h3_at (by simp)) _
  have RB : Hid (H3 (((w.alloc (.cells #[J zq a, J zq b, J zq c, J zq d] 124)).alloc (.cells #[J zq x, J zq y, J zq z] 28)).alloc (.cells #[J zq 0, J zq 0, J zq 0] 28)) (w.heap.size + 1 + 1) (J zq 0) (J zq 0) (J zq 0)) := h3_at (by simp)
  have XB : Ext w (((w.alloc (.cells #[J zq a, J zq b, J zq c, J zq d] 124)).alloc (.cells #[J zq x, J zq y, J zq z] 28)).alloc (.cells #[J zq 0, J zq 0, J zq 0] 28)) := (((Ext.refl _).alloc _).alloc _).alloc _
  obtain ⟨s0, s1, s2, s3, s4, s5, s6, s7, s8⟩ := QB.out
  obtain ⟨t0, t1, t2, t3, t4, t5, t6⟩ := VB.out
  go_enter Tryz.func88, Tryz.ntmps88
  go_upto_region 1 with fail
  generalize (((w.alloc (.cells #[J zq a, J zq b, J zq c, J zq d] 124)).alloc (.cells #[J zq x, J zq y, J zq z] 28)).alloc (.cells #[J zq 0, J zq 0, J zq 0] 28)) = wB at *
  go_region_held (fun w' => w'.cell? ⟨w.heap.size, 0, none⟩ = some (J zq a) ∧ w'.cell? ⟨w.heap.size, 1, none⟩ = some (J zq b) ∧ w'.cell? ⟨w.heap.size, 2, none⟩ = some (J zq c) ∧ w'.cell? ⟨w.heap.size, 3, none⟩ = some (J zq d) ∧ w'.cell? ⟨w.heap.size + 1, 0, none⟩ = some (J zq x) ∧ w'.cell? ⟨w.heap.size + 1, 1, none⟩ = some (J zq y) ∧ w'.cell? ⟨w.heap.size + 1, 2, none⟩ = some (J zq z)) (first | (go_keep; done) | skip) (first | (go_at_call 118; refine (HQ.out _).mono ?_; rintro e w1 ⟨rfl, x1⟩; have y1 : Ext wB w1 := Ext.trans xa x1; obtain ⟨s0, s1, s2, s3, s4, s5, s6, s7, s8⟩ := QB.out.ext y1; obtain ⟨t0, t1, t2, t3, t4, t5, t6⟩ := VB.out.ext y1) | (go_at_call 36; refine (HV.out _).mono ?_; rintro e w2 ⟨rfl, x2⟩; have y2 : Ext wB w2 := Ext.trans (by first | with_reducible exact y1 | with_reducible exact Ext.alloc y1 _ | with_reducible exact Ext.drew y1 | with_reducible exact Ext.drew (Ext.alloc y1 _) | with_reducible exact Ext.alloc (Ext.drew y1) _) x2; obtain ⟨s0, s1, s2, s3, s4, s5, s6, s7, s8⟩ := QB.out.ext y2; obtain ⟨t0, t1, t2, t3, t4, t5, t6⟩ := VB.out.ext y2) | (go_at_call 43; refine (HO.out _ _ (by first | with_reducible exact h2_at rfl | with_reducible exact H2.drew (h2_at rfl) | exact h2_at (by simp) | exact H2.drew (h2_at (by simp)))).mono ?_; rintro e w3 ⟨rfl, x3⟩; have y3 : Ext wB w3 := Ext.trans (by first | with_reducible exact y2 | with_reducible exact Ext.alloc y2 _ | with_reducible exact Ext.drew y2 | with_reducible exact Ext.drew (Ext.alloc y2 _) | with_reducible exact Ext.alloc (Ext.drew y2) _) x3; obtain ⟨s0, s1, s2, s3, s4, s5, s6, s7, s8⟩ := QB.out.ext y3; obtain ⟨t0, t1, t2, t3, t4, t5, t6⟩ := VB.out.ext y3))
  all_goals
    have X3 : Ext w w3 := XB.trans y3
    obtain ⟨r0, r1, r2, r3, r4, r5, r6⟩ := RB.out.ext y3
    go_wp2_with fail
    refine (HT.out _).mono ?_
    rintro e w4 ⟨rfl, x4⟩
    have X4 : Ext w w4 := X3.trans x4
    have RX := (RB.out.ext y3).ext x4
    clear x4 X3 r0 r1 r2 r3 r4 r5
    have r0 := fun o => (H3.alloc RX o).1
    have r1 := fun o => (H3.alloc RX o).2.1
    have r2 := fun o => (H3.alloc RX o).2.2.1
    have r3 := fun o => (H3.alloc RX o).2.2.2.1
    have r4 := fun o => (H3.alloc RX o).2.2.2.2.1
    have r5 := fun o => (H3.alloc RX o).2.2.2.2.2.1
    clear RX
    go_wp2_with fail
    exact bodyPost_ret (v := .tuple #[zG #[J zq E1, J zq E2, J zq E3], J zq ee]) (by simp [results, Tryz.results88, go_sem, r0, r1, r2]) rfl ⟨rfl, xa⟩
theorem neg_okW {a : Int} (h : okW a = true) : okW (-a) = true := by unfold okW at *; simp at *; omega
theorem turned_any (a b c d x y z : Int) (w : World) (h : ok4 a b c d = true) (k : ok3 x y z = true) (hq : ¬ (a = 0 ∧ b = 0 ∧ c = 0 ∧ d = 0)) :
    Calls zP 119 #[zG #[J zq a, J zq b, J zq c, J zq d], zG #[J zq x, J zq y, J zq z]] w fun e w' => e = zR (qres 0 (nearI (tnx a b c d x y z) (sq4 a b c d)) (nearI (tny a b c d x y z) (sq4 a b c d)) (nearI (tnz a b c d x y z) (sq4 a b c d))) ∧ Ext w w' := by
  have bd := turn_bounds h k hq
  have n0 := sq4_pos hq
  have h' := h; have k' := k
  unfold ok4 at h'; unfold ok3 at k'
  simp only [Bool.and_eq_true] at h' k'
  obtain ⟨ha, hb, hc, hd⟩ := h'
  obtain ⟨hx, hy, hz⟩ := k'
  have n1 := sq4_lt ha hb hc hd
  have C := qconj_any a b c d
  rw [neg64 hb, neg64 hc, neg64 hd] at C
  have z0 : okW 0 = true := by decide
  have P := fun w => product64_any 0 x y z a (-b) (-c) (-d) w z0 hx hy hz ha (neg_okW hb) (neg_okW hc) (neg_okW hd)
  have X := fun v w hv => productW_any a b c d (qw 0 x y z a (-b) (-c) (-d)) (qx 0 x y z a (-b) (-c) (-d)) (qy 0 x y z a (-b) (-c) (-d)) (qz 0 x y z a (-b) (-c) (-d)) v w ha hb hc hd hv
  have e0 : nearI 0 (sq4 a b c d : Nat) = 0 := IsNear.unique (by omega) (nearI_spec 0 _ (by omega)) ⟨by omega, by omega, fun _ => rfl⟩
  have b0 := bd 0 (Or.inl rfl)
  have b1 := bd _ (Or.inr (Or.inl rfl))
  have b2 := bd _ (Or.inr (Or.inr (Or.inl rfl)))
  have b3 := bd _ (Or.inr (Or.inr (Or.inr rfl)))
  obtain ⟨E0, E1, E2, E3, ee, hE⟩ := qres_shape 0 (nearI (tnx a b c d x y z) (sq4 a b c d)) (nearI (tny a b c d x y z) (sq4 a b c d)) (nearI (tnz a b c d x y z) (sq4 a b c d))
  rw [hE]
  refine turned_raw a b c d x y z (-b) (-c) (-d) _ _ _ _ _ 0 (tnx a b c d x y z) (tny a b c d x y z) (tnz a b c d x y z) E0 E1 E2 E3 ee w (fun w' => squares_any a b c d w' ha hb hc hd) C P (fun v w' hv => by
    have := X v w' hv
    have e : qw a b c d (qw 0 x y z a (-b) (-c) (-d)) (qx 0 x y z a (-b) (-c) (-d)) (qy 0 x y z a (-b) (-c) (-d)) (qz 0 x y z a (-b) (-c) (-d)) = 0 := tnw_zero a b c d x y z
    rw [e] at this
    exact this) ?_
  intro g b0' b1' b2' v w' hv hN hG
  rw [← hE]
  obtain ⟨l0, l1, l2, l3, l4, l5, l6, l7, l8, l9, l10, l11, rfl, i0, i1, i2, i3⟩ := hv
  have T := throughT_any l0 l1 l2 l3 l4 l5 l6 l7 l8 l9 l10 l11 (nearI 0 (sq4 a b c d)) (nearI (tnx a b c d x y z) (sq4 a b c d)) (nearI (tny a b c d x y z) (sq4 a b c d)) (nearI (tnz a b c d x y z) (sq4 a b c d)) g w' (near_inW n0 b0.1) (near_inW n0 b1.1) (near_inW n0 b2.1) (near_inW n0 b3.1)
    (fun w2 hx => turned1_any 0 _ _ _ _ _ _ _ g w2 i0 hN (hG.ext hx) n0 n1 b0.1 b0.2)
    (fun w2 hx => turned1_any _ _ _ _ _ _ _ _ g w2 i1 hN (hG.ext hx) n0 n1 b1.1 b1.2)
    (fun w2 hx => turned1_any _ _ _ _ _ _ _ _ g w2 i2 hN (hG.ext hx) n0 n1 b2.1 b2.2)
    (fun w2 hx => turned1_any _ _ _ _ _ _ _ _ g w2 i3 hN (hG.ext hx) n0 n1 b3.1 b3.2)
  rw [e0] at T
  exact T
theorem chk4_yes {a b c d : Int} (h : ok4 a b c d = true) : chk4 a b c d = 0 := by unfold chk4; rw [if_pos h]
theorem chk3_yes {a b c : Int} (h : ok3 a b c = true) : chk3 a b c = 0 := by unfold chk3; rw [if_pos h]
theorem chk4_no {a b c d : Int} (h : ok4 a b c d = false) : chk4 a b c d = 1 := by unfold chk4; rw [h]; rfl
theorem chk3_no {a b c : Int} (h : ok3 a b c = false) : chk3 a b c = 1 := by unfold chk3; rw [h]; rfl
theorem qturn_any (a b c d x y z : Int) (w : World) :
    Calls zP 88 #[zG #[J zq a, J zq b, J zq c, J zq d], zG #[J zq x, J zq y, J zq z]] w fun e w' => e = zR (turnR a b c d x y z) ∧ Ext w w' := by
  have Q := qcheck_any a b c d
  have V := vCheck_any x y z
  unfold turnR
  cases h : ok4 a b c d
  · rw [chk4_no h] at Q
    have R := turn_bad a b c d x y z 1 (chk3 x y z) 1 w rfl Q V (fun g w' hg => cmpOr2 _ _ _ g w' hg rfl)
    exact R
  · rw [chk4_yes h] at Q
    cases k : ok3 x y z
    · rw [chk3_no k] at V
      exact turn_bad a b c d x y z 0 1 1 w rfl Q V (fun g w' hg => cmpOr2 _ _ _ g w' hg rfl)
    · rw [chk3_yes k] at V
      by_cases hq : a = 0 ∧ b = 0 ∧ c = 0 ∧ d = 0
      · rw [if_pos (show (true && true) = true from rfl), if_pos hq]
        obtain ⟨rfl, rfl, rfl, rfl⟩ := hq
        exact turn_zero x y z 0 0 w Q V (fun g w' hg => cmpOr2 _ _ _ g w' hg rfl)
      · rw [if_pos (show (true && true) = true from rfl), if_neg hq]
        have T := fun w' => turned_any a b c d x y z w' h k hq
        have hz : (a == 0 && (b == 0 && (c == 0 && d == 0))) = false := by
          cases hh : (a == 0 && (b == 0 && (c == 0 && d == 0)))
          · rfl
          · exfalso; simp at hh; exact hq hh
        obtain ⟨s1, hs1⟩ : ∃ s, s = nearI (tnx a b c d x y z) (sq4 a b c d) := ⟨_, rfl⟩
        obtain ⟨s2, hs2⟩ : ∃ s, s = nearI (tny a b c d x y z) (sq4 a b c d) := ⟨_, rfl⟩
        obtain ⟨s3, hs3⟩ : ∃ s, s = nearI (tnz a b c d x y z) (sq4 a b c d) := ⟨_, rfl⟩
        rw [← hs1, ← hs2, ← hs3] at T
        rw [← hs1, ← hs2, ← hs3]
        clear hs1 hs2 hs3
        unfold vres
        have z0 : okW 0 = true := by decide
        have e : ok4 0 s1 s2 s3 = ok3 s1 s2 s3 := by unfold ok4 ok3; rw [z0]; rfl
        unfold qres at T
        rw [e] at T
        cases hs : ok3 s1 s2 s3
        · rw [hs] at T
          exact turn_yes a b c d x y z 0 0 0 0 0 0 0 2 w rfl hz Q V (fun g w' hg => cmpOr2 _ _ _ g w' hg rfl) T
        · rw [hs] at T
          exact turn_yes a b c d x y z 0 0 0 0 s1 s2 s3 0 w rfl hz Q V (fun g w' hg => cmpOr2 _ _ _ g w' hg rfl) T
theorem turnR_shape (a b c d x y z : Int) : ∃ s0 s1 s2 e : Int, turnR a b c d x y z = .tuple #[zG #[J zq s0, J zq s1, J zq s2], J zq e] := by
  unfold turnR
  split
  · split
    · exact ⟨_, _, _, _, rfl⟩
    · exact vres_shape _ _ _
  · exact ⟨_, _, _, _, rfl⟩
end Go.Proofs.YtoeecldhbabmbaaGreat
