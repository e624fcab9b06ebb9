/- vec: rowwise, Cross, Apply. -/
import Derived.Test.YtoeecldhbabmbaaGreatMg16
open Go.Value renaming int → J, agg → zG
open Go.IntKind renaming i64 → zq
open Go.Ending renaming returned → zR
open Go.Proofs.Tryz renaming prog → zP
namespace Go.Proofs.YtoeecldhbabmbaaGreat
open Go.RowKit Go.Shelf
def four12 (m0 m1 m2 m3 m4 m5 m6 m7 m8 a0 a1 a2 : Int) (i j : Nat) : Int :=
  if i = 0 then (if j = 0 then m0 else if j = 1 then m1 else m2) else if i = 1 then (if j = 0 then m3 else if j = 1 then m4 else m5) else if i = 2 then (if j = 0 then m6 else if j = 1 then m7 else m8) else (if j = 0 then a0 else if j = 1 then a1 else a2)
theorem cells12_at (m0 m1 m2 m3 m4 m5 m6 m7 m8 a0 a1 a2 : Int) (W : World) (n : Nat) (T : TypeId) (hn : W.heap.size = n) : ∀ i, i < 4 → ∀ j, j < 3 → (W.alloc (.cells #[J zq m0, J zq m1, J zq m2, J zq m3, J zq m4, J zq m5, J zq m6, J zq m7, J zq m8, J zq a0, J zq a1, J zq a2] T)).cell? ⟨n, i * 3 + j, none⟩ = some (J zq (four12 m0 m1 m2 m3 m4 m5 m6 m7 m8 a0 a1 a2 i j)) := by
  subst hn
  intro i hi j hj
  have hi' : i = 0 ∨ i = 1 ∨ i = 2 ∨ i = 3 := by omega
  have hj' : j = 0 ∨ j = 1 ∨ j = 2 := by omega
  rcases hi' with rfl | rfl | rfl | rfl <;> rcases hj' with rfl | rfl | rfl <;> simp [go_sem, four12]
theorem check4_yes (m0 m1 m2 m3 m4 m5 m6 m7 m8 a0 a1 a2 : Int) (W : World) (n : Nat) (T : TypeId) (hn : W.heap.size = n) (h1 : ok3 m0 m1 m2 = true) (h2 : ok3 m3 m4 m5 = true) (h3 : ok3 m6 m7 m8 = true) (h4 : ok3 a0 a1 a2 = true) :
    Calls zP 75 #[.slice (some ⟨n, 0, none⟩) 4 4] (W.alloc (.cells #[J zq m0, J zq m1, J zq m2, J zq m3, J zq m4, J zq m5, J zq m6, J zq m7, J zq m8, J zq a0, J zq a1, J zq a2] T)) fun e w' => e = zR (J zq 0) ∧ Ext (W.alloc (.cells #[J zq m0, J zq m1, J zq m2, J zq m3, J zq m4, J zq m5, J zq m6, J zq m7, J zq m8, J zq a0, J zq a1, J zq a2] T)) w' := by
  refine (check_list 4 (four12 m0 m1 m2 m3 m4 m5 m6 m7 m8 a0 a1 a2) n _ (by omega) (cells12_at m0 m1 m2 m3 m4 m5 m6 m7 m8 a0 a1 a2 W n T hn)).mono ?_
  rintro e w1 ⟨⟨r, rfl, hr⟩, x⟩
  rcases hr with ⟨rfl, _⟩ | ⟨_, i, hi, hb⟩
  · exact ⟨rfl, x⟩
  · exfalso
    have hi' : i = 0 ∨ i = 1 ∨ i = 2 ∨ i = 3 := by omega
    rcases hi' with rfl | rfl | rfl | rfl
    · simp [four12, h1] at hb
    · simp [four12, h2] at hb
    · simp [four12, h3] at hb
    · simp [four12, h4] at hb
def H9 (w : World) (b : Nat) (v0 v1 v2 v3 v4 v5 v6 v7 v8 : Value) : Prop :=
  w.cell? ⟨b, 0, none⟩ = some v0 ∧ w.cell? ⟨b, 1, none⟩ = some v1 ∧ w.cell? ⟨b, 2, none⟩ = some v2 ∧ w.cell? ⟨b, 3, none⟩ = some v3 ∧ w.cell? ⟨b, 4, none⟩ = some v4 ∧ w.cell? ⟨b, 5, none⟩ = some v5 ∧ w.cell? ⟨b, 6, none⟩ = some v6 ∧ w.cell? ⟨b, 7, none⟩ = some v7 ∧ w.cell? ⟨b, 8, none⟩ = some v8
theorem H9.ext {w w' : World} {b : Nat} {v0 v1 v2 v3 v4 v5 v6 v7 v8 : Value} (h : H9 w b v0 v1 v2 v3 v4 v5 v6 v7 v8) (hx : Ext w w') : H9 w' b v0 v1 v2 v3 v4 v5 v6 v7 v8 := by
  obtain ⟨h0, h1, h2, h3, h4, h5, h6, h7, h8⟩ := h
  exact ⟨hx.keepc h0, hx.keepc h1, hx.keepc h2, hx.keepc h3, hx.keepc h4, hx.keepc h5, hx.keepc h6, hx.keepc h7, hx.keepc h8⟩
theorem h9_at {w : World} {b : Nat} {v0 v1 v2 v3 v4 v5 v6 v7 v8 : Value} {T : TypeId} (h : w.heap.size = b) : H9 (w.alloc (.cells #[v0, v1, v2, v3, v4, v5, v6, v7, v8] T)) b v0 v1 v2 v3 v4 v5 v6 v7 v8 := by
  subst h
  refine ⟨?_, ?_, ?_, ?_, ?_, ?_, ?_, ?_, ?_⟩ <;> simp [go_sem]
theorem H9.alloc {w : World} {b : Nat} {v0 v1 v2 v3 v4 v5 v6 v7 v8 : Value} (h : H9 w b v0 v1 v2 v3 v4 v5 v6 v7 v8) (o : Obj) : H9 (w.alloc o) b v0 v1 v2 v3 v4 v5 v6 v7 v8 := h.ext ((Ext.refl _).alloc o)
set_option maxHeartbeats 2000000 in
theorem rw1_any (m0 m1 m2 a0 a1 a2 r e0 : Int) (g : Nat) (w : World) (hg : H3 w g (J zq a0) (J zq a1) (J zq a2))
    (HI : Hid (∀ w', Calls zP 150 #[zG #[J zq m0, J zq m1, J zq m2], zG #[J zq a0, J zq a1, J zq a2]] w' fun e w'' => e = zR (.tuple #[J zq r, J zq e0]) ∧ Ext w' w'')) :
    Calls zP 149 #[zG #[J zq m0, J zq m1, J zq m2], .pointer (some ⟨g, 0, none⟩)] w fun e w' => e = zR (.tuple #[J zq r, J zq e0]) ∧ Ext w w' := by
  obtain ⟨c0, c1, c2, c3, c4, c5, c6⟩ := hg.alloc (.cells #[J zq m0, J zq m1, J zq m2] 110)
  go_enter Tryz.func149, Tryz.ntmps149
  go_wp2_with fail
  refine (HI.out _).mono ?_
  rintro e w1 ⟨rfl, x1⟩
  go_wp2_with fail
  go_ret2
  exact ⟨rfl, Ext.trans ((Ext.refl _).alloc _) x1⟩
set_option maxRecDepth 20000 in
set_option maxHeartbeats 4000000 in
theorem rowwise_yes (m0 m1 m2 m3 m4 m5 m6 m7 m8 a0 a1 a2 r0 e0 r1 e1 r2 e2 : Int) (w : World) (HK : Hid (∀ (W : World) (n : Nat) (T : TypeId), W.heap.size = n → Calls zP 75 #[.slice (some ⟨n, 0, none⟩) 4 4] (W.alloc (.cells #[J zq m0, J zq m1, J zq m2, J zq m3, J zq m4, J zq m5, J zq m6, J zq m7, J zq m8, J zq a0, J zq a1, J zq a2] T)) fun e w' => e = zR (J zq 0) ∧ Ext (W.alloc (.cells #[J zq m0, J zq m1, J zq m2, J zq m3, J zq m4, J zq m5, J zq m6, J zq m7, J zq m8, J zq a0, J zq a1, J zq a2] T)) w'))
    (I0 : Hid (∀ w', Calls zP 150 #[zG #[J zq m0, J zq m1, J zq m2], zG #[J zq a0, J zq a1, J zq a2]] w' fun e w'' => e = zR (.tuple #[J zq r0, J zq e0]) ∧ Ext w' w''))
    (I1 : Hid (∀ w', Calls zP 150 #[zG #[J zq m3, J zq m4, J zq m5], zG #[J zq a0, J zq a1, J zq a2]] w' fun e w'' => e = zR (.tuple #[J zq r1, J zq e1]) ∧ Ext w' w''))
    (I2 : Hid (∀ w', Calls zP 150 #[zG #[J zq m6, J zq m7, J zq m8], zG #[J zq a0, J zq a1, J zq a2]] w' fun e w'' => e = zR (.tuple #[J zq r2, J zq e2]) ∧ Ext w' w'')) :
    Calls zP 111 #[zG #[J zq m0, J zq m1, J zq m2, J zq m3, J zq m4, J zq m5, J zq m6, J zq m7, J zq m8], zG #[J zq a0, J zq a1, J zq a2]] w fun e w' => e = zR (thr r0 e0 r1 e1 r2 e2) ∧ Ext w w' := by
  have HT : Hid (∀ (g : Nat) (w' : World), H3 w' g (J zq a0) (J zq a1) (J zq a2) → Calls zP 148 #[zG #[J zq m0, J zq m1, J zq m2, J zq m3, J zq m4, J zq m5, J zq m6, J zq m7, J zq m8], .func (.func 149) #[] #[.pointer (some ⟨g, 0, none⟩)]] w' fun e w'' => e = zR (thr r0 e0 r1 e1 r2 e2) ∧ Ext w' w'') := fun g w' hg => throughR_any m0 m1 m2 m3 m4 m5 m6 m7 m8 r0 e0 r1 e1 r2 e2 g w' (fun w'' hx => rw1_any m0 m1 m2 a0 a1 a2 r0 e0 g w'' (hg.ext hx) I0) (fun w'' hx => rw1_any m3 m4 m5 a0 a1 a2 r1 e1 g w'' (hg.ext hx) I1) (fun w'' hx => rw1_any m6 m7 m8 a0 a1 a2 r2 e2 g w'' (hg.ext hx) I2)
  obtain ⟨x, y, z, e, hr⟩ := thr_shape r0 e0 r1 e1 r2 e2
  rw [hr] at HT ⊢
  clear hr I0 I1 I2
  go_enter Tryz.func111, Tryz.ntmps111
  go_wp2_with fail
  refine (HK.out _ _ _ (by simp)).mono ?_
  rintro e1 w1 ⟨rfl, x1⟩
  have G1 : Hid (H3 w1 (w.heap.size + 1) (J zq a0) (J zq a1) (J zq a2)) := (H3.alloc (H3.alloc (h3_at (by simp)) _) _).ext x1
  have R1 : Hid (H3 w1 (w.heap.size + 1 + 1) (J zq 0) (J zq 0) (J zq 0)) := (H3.alloc (h3_at (by simp)) _).ext x1
  obtain ⟨t0, t1, t2, t3, t4, t5, t6, t7, t8⟩ : H9 w1 w.heap.size (J zq m0) (J zq m1) (J zq m2) (J zq m3) (J zq m4) (J zq m5) (J zq m6) (J zq m7) (J zq m8) := (H9.alloc (H9.alloc (H9.alloc (h9_at rfl) _) _) _).ext x1
  have X1 : Ext w w1 := Ext.trans ((((Ext.refl _).alloc _).alloc _).alloc _ |>.alloc _) x1
  clear x1
  go_wp2_with fail
  refine (HT.out _ _ G1.out).mono ?_
  rintro e2 w2 ⟨rfl, x2⟩
  have X2 : Ext w w2 := X1.trans x2
  obtain ⟨q0, q1, q2, q3, q4, q5, q6⟩ := R1.out.ext x2
  clear x2 X1 t0 t1 t2 t3 t4 t5 t6 t7 t8
  go_wp2_with fail
  exact bodyPost_ret (v := .tuple #[zG #[J zq x, J zq y, J zq z], J zq e]) (by simp [results, Tryz.results111, go_sem, q0, q1, q2]) rfl ⟨rfl, xa⟩
def rowQ (m0 m1 m2 a0 a1 a2 : Int) : Int := nearQ (dot3 m0 m1 m2 a0 a1 a2)
theorem rowwise_is (m0 m1 m2 m3 m4 m5 m6 m7 m8 a0 a1 a2 : Int) (w : World) (h1 : ok3 m0 m1 m2 = true) (h2 : ok3 m3 m4 m5 = true) (h3 : ok3 m6 m7 m8 = true) (h4 : ok3 a0 a1 a2 = true) :
    Calls zP 111 #[zG #[J zq m0, J zq m1, J zq m2, J zq m3, J zq m4, J zq m5, J zq m6, J zq m7, J zq m8], zG #[J zq a0, J zq a1, J zq a2]] w fun e w' => e = zR (vres (rowQ m0 m1 m2 a0 a1 a2) (rowQ m3 m4 m5 a0 a1 a2) (rowQ m6 m7 m8 a0 a1 a2)) ∧ Ext w w' := by
  obtain ⟨f0, f1, f2⟩ := ok3_parts h1
  obtain ⟨f3, f4, f5⟩ := ok3_parts h2
  obtain ⟨f6, f7, f8⟩ := ok3_parts h3
  obtain ⟨g0, g1, g2⟩ := ok3_parts h4
  have h := rowwise_yes m0 m1 m2 m3 m4 m5 m6 m7 m8 a0 a1 a2 _ _ _ _ _ _ w (fun W n T hn => check4_yes m0 m1 m2 m3 m4 m5 m6 m7 m8 a0 a1 a2 W n T hn h1 h2 h3 h4) (fun w' => inQ30_any m0 m1 m2 a0 a1 a2 w' f0 f1 f2 g0 g1 g2) (fun w' => inQ30_any m3 m4 m5 a0 a1 a2 w' f3 f4 f5 g0 g1 g2) (fun w' => inQ30_any m6 m7 m8 a0 a1 a2 w' f6 f7 f8 g0 g1 g2)
  rw [thr_fit] at h
  exact h
set_option maxHeartbeats 4000000 in
theorem faceCross_raw (a0 a1 a2 b0 b1 b2 x0 x1 x2 x3 x4 x5 x6 x7 x8 x y z e : Int) (w : World)
    (HC : Hid (∀ w', Calls zP 112 #[zG #[J zq b0, J zq b1, J zq b2]] w' fun e' w'' => e' = zR (zG #[J zq x0, J zq x1, J zq x2, J zq x3, J zq x4, J zq x5, J zq x6, J zq x7, J zq x8]) ∧ Ext w' w''))
    (HP : Hid (∀ w', Calls zP 111 #[zG #[J zq x0, J zq x1, J zq x2, J zq x3, J zq x4, J zq x5, J zq x6, J zq x7, J zq x8], zG #[J zq a0, J zq a1, J zq a2]] w' fun e' w'' => e' = zR (.tuple #[zG #[J zq x, J zq y, J zq z], J zq e]) ∧ Ext w' w'')) :
    Calls zP 85 #[zG #[J zq a0, J zq a1, J zq a2], zG #[J zq b0, J zq b1, J zq b2]] w fun e' w' => e' = zR (.tuple #[zG #[J zq x, J zq y, J zq z], J zq e]) ∧ Ext w w' := by
  have HA : Hid (∀ w', Calls zP 76 #[zG #[J zq a0, J zq a1, J zq a2]] w' fun e w'' => e = zR (zG #[J zq a0, J zq a1, J zq a2]) ∧ Ext w' w'') := fun w' => of_any a0 a1 a2 w'
  have HB : Hid (∀ w', Calls zP 76 #[zG #[J zq b0, J zq b1, J zq b2]] w' fun e w'' => e = zR (zG #[J zq b0, J zq b1, J zq b2]) ∧ Ext w' w'') := fun w' => of_any b0 b1 b2 w'
  have PB : Hid (H3 (((w.alloc (.cells #[J zq a0, J zq a1, J zq a2] 28)).alloc (.cells #[J zq b0, J zq b1, J zq b2] 28)).alloc (.cells #[J zq 0, J zq 0, J zq 0] 28)).drew w.heap.size (J zq a0) (J zq a1) (J zq a2)) := H3.drew (H3.alloc (H3.alloc (h3_at rfl) _) _)
  have NB : Hid (H3 (((w.alloc (.cells #[J zq a0, J zq a1, J zq a2] 28)).alloc (.cells #[J zq b0, J zq b1, J zq b2] 28)).alloc (.cells #[J zq 0, J zq 0, J zq 0] 28)).drew (w.heap.size + 1) (J zq b0) (J zq b1) (J zq b2)) := H3.drew (H3.alloc (h3_at (by simp)) _)
  have RB : Hid (H3 (((w.alloc (.cells #[J zq a0, J zq a1, J zq a2] 28)).alloc (.cells #[J zq b0, J zq b1, J zq b2] 28)).alloc (.cells #[J zq 0, J zq 0, J zq 0] 28)).drew (w.heap.size + 1 + 1) (J zq 0) (J zq 0) (J zq 0)) := H3.drew (h3_at (by simp))
  have y0 : Ext (((w.alloc (.cells #[J zq a0, J zq a1, J zq a2] 28)).alloc (.cells #[J zq b0, J zq b1, J zq b2] 28)).alloc (.cells #[J zq 0, J zq 0, J zq 0] 28)).drew (((w.alloc (.cells #[J zq a0, J zq a1, J zq a2] 28)).alloc (.cells #[J zq b0, J zq b1, J zq b2] 28)).alloc (.cells #[J zq 0, J zq 0, J zq 0] 28)).drew := Ext.refl _
  have E0 : Ext w (((w.alloc (.cells #[J zq a0, J zq a1, J zq a2] 28)).alloc (.cells #[J zq b0, J zq b1, J zq b2] 28)).alloc (.cells #[J zq 0, J zq 0, J zq 0] 28)).drew := ((((Ext.refl _).alloc _).alloc _).alloc _).drew
  go_enter Tryz.func85, Tryz.ntmps85
  go_wp2_with fail
  go_region_with (first | (go_at_call_of 76 (Value.agg #[Value.int IntKind.i64 a0, Value.int IntKind.i64 a1, Value.int IntKind.i64 a2]); refine (HA.out _).mono ?_; rintro e wA ⟨rfl, xA⟩; have yA : Ext (((w.alloc (.cells #[J zq a0, J zq a1, J zq a2] 28)).alloc (.cells #[J zq b0, J zq b1, J zq b2] 28)).alloc (.cells #[J zq 0, J zq 0, J zq 0] 28)).drew wA := Ext.trans (by with_reducible assumption) xA; obtain ⟨p0, p1, p2, p3, p4, p5, p6⟩ := PB.out.ext yA; obtain ⟨n0, n1, n2, n3, n4, n5, n6⟩ := NB.out.ext yA; obtain ⟨m0, m1, m2, m3, m4, m5, m6⟩ := RB.out.ext yA) | (go_at_call_of 76 (Value.agg #[Value.int IntKind.i64 b0, Value.int IntKind.i64 b1, Value.int IntKind.i64 b2]); refine (HB.out _).mono ?_; rintro e wB ⟨rfl, xB⟩; have yB : Ext (((w.alloc (.cells #[J zq a0, J zq a1, J zq a2] 28)).alloc (.cells #[J zq b0, J zq b1, J zq b2] 28)).alloc (.cells #[J zq 0, J zq 0, J zq 0] 28)).drew wB := Ext.trans (by with_reducible assumption) xB; obtain ⟨p0, p1, p2, p3, p4, p5, p6⟩ := PB.out.ext yB; obtain ⟨n0, n1, n2, n3, n4, n5, n6⟩ := NB.out.ext yB; obtain ⟨m0, m1, m2, m3, m4, m5, m6⟩ := RB.out.ext yB) | (go_at_call 112; refine (HC.out _).mono ?_; rintro e wC ⟨rfl, xC⟩; have yC : Ext (((w.alloc (.cells #[J zq a0, J zq a1, J zq a2] 28)).alloc (.cells #[J zq b0, J zq b1, J zq b2] 28)).alloc (.cells #[J zq 0, J zq 0, J zq 0] 28)).drew wC := Ext.trans (by with_reducible assumption) xC; obtain ⟨p0, p1, p2, p3, p4, p5, p6⟩ := PB.out.ext yC; obtain ⟨n0, n1, n2, n3, n4, n5, n6⟩ := NB.out.ext yC; obtain ⟨m0, m1, m2, m3, m4, m5, m6⟩ := RB.out.ext yC) | (go_at_call 111; refine (HP.out _).mono ?_; rintro e wP ⟨rfl, xP⟩; have yP : Ext (((w.alloc (.cells #[J zq a0, J zq a1, J zq a2] 28)).alloc (.cells #[J zq b0, J zq b1, J zq b2] 28)).alloc (.cells #[J zq 0, J zq 0, J zq 0] 28)).drew wP := Ext.trans (by with_reducible assumption) xP; obtain ⟨p0, p1, p2, p3, p4, p5, p6⟩ := PB.out.ext yP; obtain ⟨n0, n1, n2, n3, n4, n5, n6⟩ := NB.out.ext yP; obtain ⟨m0, m1, m2, m3, m4, m5, m6⟩ := RB.out.ext yP))
  all_goals
    have E8 : Ext w wP := E0.trans yP
    clear y0 E0 yP
    go_wp2_with fail
    exact bodyPost_ret (v := .tuple #[zG #[J zq x, J zq y, J zq z], J zq e]) (by simp [results, Tryz.results85, go_sem, m0, m1, m2]) rfl ⟨rfl, xa⟩
theorem wrap_neg {b : Int} (h : okW b = true) : wrap64 (-b) = -b := by
  have := okW_bounds h; unfold wrap64; omega
theorem vCross_yes (a0 a1 a2 b0 b1 b2 : Int) (w : World) (h1 : ok3 a0 a1 a2 = true) (h2 : ok3 b0 b1 b2 = true) :
    Calls zP 85 #[zG #[J zq a0, J zq a1, J zq a2], zG #[J zq b0, J zq b1, J zq b2]] w fun e w' => e = zR (vres (rowQ 0 b2 (-b1) a0 a1 a2) (rowQ (-b2) 0 b0 a0 a1 a2) (rowQ b1 (-b0) 0 a0 a1 a2)) ∧ Ext w w' := by
  obtain ⟨k0, k1, k2⟩ := ok3_parts h2
  have z0 : okW 0 = true := by decide
  have n : ∀ b, okW b = true → okW (-b) = true := fun b h => by have := okW_bounds h; unfold okW; simp; omega
  have hc := fun w' => across_any b0 b1 b2 w'
  rw [wrap_neg k0, wrap_neg k1, wrap_neg k2] at hc
  have hp := fun w' => rowwise_is 0 b2 (-b1) (-b2) 0 b0 b1 (-b0) 0 a0 a1 a2 w' (by unfold ok3; rw [z0, k2, n _ k1]; rfl) (by unfold ok3; rw [z0, k0, n _ k2]; rfl) (by unfold ok3; rw [z0, k1, n _ k0]; rfl) h1
  obtain ⟨x, y, z, e, hr⟩ := vres_shape (rowQ 0 b2 (-b1) a0 a1 a2) (rowQ (-b2) 0 b0 a0 a1 a2) (rowQ b1 (-b0) 0 a0 a1 a2)
  rw [hr] at hp ⊢
  exact faceCross_raw a0 a1 a2 b0 b1 b2 _ _ _ _ _ _ _ _ _ x y z e w hc hp
end Go.Proofs.YtoeecldhbabmbaaGreat
