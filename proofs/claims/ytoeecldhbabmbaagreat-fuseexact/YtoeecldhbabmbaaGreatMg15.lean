/- vec: through. vec: pairwise. -/
import Derived.Test.YtoeecldhbabmbaaGreatMg10
open Go.Value renaming int → J, agg → zG
open Go.IntKind renaming i64 → zq
open Go.Ending renaming returned → zR
open Go.Proofs.Tryz renaming prog → zP
namespace Go.Proofs.YtoeecldhbabmbaaGreat
open Go.RowKit Go.Shelf
set_option maxRecDepth 20000 in
set_option maxHeartbeats 8000000 in
theorem throughM_any (a0 b0 a1 b1 a2 b2 r0 e0 r1 e1 r2 e2 : Int) (g : Nat) (w : World)
    (H0 : Hid (∀ w', Ext w w' → Calls zP 152 #[zG #[J zq a0, J zq b0], .pointer (some ⟨g, 0, none⟩)] w' fun e w'' => e = zR (.tuple #[J zq r0, J zq e0]) ∧ Ext w' w''))
    (H1 : Hid (∀ w', Ext w w' → Calls zP 152 #[zG #[J zq a1, J zq b1], .pointer (some ⟨g, 0, none⟩)] w' fun e w'' => e = zR (.tuple #[J zq r1, J zq e1]) ∧ Ext w' w''))
    (H2 : Hid (∀ w', Ext w w' → Calls zP 152 #[zG #[J zq a2, J zq b2], .pointer (some ⟨g, 0, none⟩)] w' fun e w'' => e = zR (.tuple #[J zq r2, J zq e2]) ∧ Ext w' w'')) :
    Calls zP 151 #[zG #[J zq a0, J zq b0, J zq a1, J zq b1, J zq a2, J zq b2], .func (.func 152) #[] #[.pointer (some ⟨g, 0, none⟩)]] w fun e w' => e = zR (thr r0 e0 r1 e1 r2 e2) ∧ Ext w w' := by
  have i0 : ∀ w : World, (Instr.index 193 (zG #[J zq a0, J zq b0, J zq a1, J zq b1, J zq a2, J zq b2]) (J zq 0)).run zP w = .ok (zG #[J zq a0, J zq b0]) w := fun _ => by kernel_rfl
  have i1 : ∀ w : World, (Instr.index 193 (zG #[J zq a0, J zq b0, J zq a1, J zq b1, J zq a2, J zq b2]) (J zq 1)).run zP w = .ok (zG #[J zq a1, J zq b1]) w := fun _ => by kernel_rfl
  have i2 : ∀ w : World, (Instr.index 193 (zG #[J zq a0, J zq b0, J zq a1, J zq b1, J zq a2, J zq b2]) (J zq 2)).run zP w = .ok (zG #[J zq a2, J zq b2]) w := fun _ => by kernel_rfl
  obtain ⟨R, hR⟩ : ∃ R, thr r0 e0 r1 e1 r2 e2 = R := ⟨_, rfl⟩
  rw [hR]
  have T0 : Hid (e0 ≠ 0 → R = .tuple #[zG #[J zq 0, J zq 0, J zq 0], J zq e0]) := fun a => by rw [← hR]; unfold thr; rw [if_neg a]
  have T1 : Hid (e0 = 0 → e1 ≠ 0 → R = .tuple #[zG #[J zq 0, J zq 0, J zq 0], J zq e1]) := fun a b => by rw [← hR]; unfold thr; rw [if_pos a, if_neg b]
  have T2 : Hid (e0 = 0 → e1 = 0 → e2 ≠ 0 → R = .tuple #[zG #[J zq 0, J zq 0, J zq 0], J zq e2]) := fun a b c => by rw [← hR]; unfold thr; rw [if_pos a, if_pos b, if_neg c]
  have T3 : Hid (e0 = 0 → e1 = 0 → e2 = 0 → R = .tuple #[zG #[J zq r0, J zq r1, J zq r2], J zq 0]) := fun a b c => by rw [← hR]; unfold thr; rw [if_pos a, if_pos b, if_pos c]
  clear hR
  go_enter Tryz.func151, Tryz.ntmps151
  go_wp2_with fail
  refine wp_loop_rounds 4 ?_
  rw [rounds_succ]
  go_wp2_with fail
  refine (H0.out _ xa).mono ?_
  rintro e w1 ⟨rfl, x1⟩
  have MM1 : Hid (H3 w1 (w.heap.size + 1 + 1) (J zq 0) (J zq 0) (J zq 0)) := (H3.alloc (h3_at (by simp)) _).ext x1
  have RR1 : Hid (H3 w1 (w.heap.size + 1) (J zq 0) (J zq 0) (J zq 0)) := (H3.alloc (H3.alloc (h3_at (by simp)) _) _).ext x1
  have X1 : Ext w w1 := Ext.trans xa x1
  clear x1
  obtain ⟨m0, m1, m2, m3, m4, m5, m6⟩ := MM1.out
  obtain ⟨q0, q1, q2, q3, q4, q5, q6⟩ := RR1.out
  by_cases k0 : e0 = 0
  case neg =>
    have n0 : (e0 != 0) = true := by simpa using k0
    have hR := T0.out k0
    subst hR
    clear T0 T1 T2 T3
    go_wp2_with fail
    exact bodyPost_ret (v := .tuple #[zG #[J zq 0, J zq 0, J zq 0], J zq e0]) (by simp [results, Tryz.results151, go_sem, q0, q1, q2]) rfl ⟨rfl, xa⟩
  subst k0
  go_wp2_with fail
  rw [rounds_succ]
  go_wp2_with fail
  refine (H1.out _ xa).mono ?_
  rintro e w2 ⟨rfl, x2⟩
  have MM2 : Hid (H3 w2 (w.heap.size + 1 + 1) (J zq r0) (J zq 0) (J zq 0)) := (H3.alloc (H3.set0 MM1.out _) _).ext x2
  have RR2 : Hid (H3 w2 (w.heap.size + 1) (J zq 0) (J zq 0) (J zq 0)) := (H3.alloc (H3.farA RR1.out (by omega)) _).ext x2
  have X2 : Ext w w2 := Ext.trans xa x2
  clear m0 m1 m2 m3 m4 m5 m6 q0 q1 q2 q3 q4 q5 q6 X1
  clear x2
  obtain ⟨m0, m1, m2, m3, m4, m5, m6⟩ := MM2.out
  obtain ⟨q0, q1, q2, q3, q4, q5, q6⟩ := RR2.out
  by_cases k1 : e1 = 0
  case neg =>
    have n1 : (e1 != 0) = true := by simpa using k1
    have hR := T1.out (by first | exact rfl | trivial) k1
    subst hR
    clear T0 T1 T2 T3
    go_wp2_with fail
    exact bodyPost_ret (v := .tuple #[zG #[J zq 0, J zq 0, J zq 0], J zq e1]) (by simp [results, Tryz.results151, go_sem, q0, q1, q2]) rfl ⟨rfl, xa⟩
  subst k1
  go_wp2_with fail
  rw [rounds_succ]
  go_wp2_with fail
  refine (H2.out _ xa).mono ?_
  rintro e w3 ⟨rfl, x3⟩
  have MM3 : Hid (H3 w3 (w.heap.size + 1 + 1) (J zq r0) (J zq r1) (J zq 0)) := (H3.alloc (H3.set1 MM2.out _) _).ext x3
  have RR3 : Hid (H3 w3 (w.heap.size + 1) (J zq 0) (J zq 0) (J zq 0)) := (H3.alloc (H3.farA RR2.out (by omega)) _).ext x3
  have X3 : Ext w w3 := Ext.trans xa x3
  clear m0 m1 m2 m3 m4 m5 m6 q0 q1 q2 q3 q4 q5 q6 X2
  clear x3
  obtain ⟨m0, m1, m2, m3, m4, m5, m6⟩ := MM3.out
  obtain ⟨q0, q1, q2, q3, q4, q5, q6⟩ := RR3.out
  by_cases k2 : e2 = 0
  case neg =>
    have n2 : (e2 != 0) = true := by simpa using k2
    have hR := T2.out (by first | exact rfl | trivial) (by first | exact rfl | trivial) k2
    subst hR
    clear T0 T1 T2 T3
    go_wp2_with fail
    exact bodyPost_ret (v := .tuple #[zG #[J zq 0, J zq 0, J zq 0], J zq e2]) (by simp [results, Tryz.results151, go_sem, q0, q1, q2]) rfl ⟨rfl, xa⟩
  subst k2
  go_wp2_with fail
  rw [rounds_succ]
  go_wp2_with fail
  have hR := T3.out (by first | exact rfl | trivial) (by first | exact rfl | trivial) (by first | exact rfl | trivial)
  subst hR
  exact bodyPost_ret (v := .tuple #[zG #[J zq r0, J zq r1, J zq r2], J zq 0]) (by simp [results, Tryz.results151, go_sem, q0, q1, q2]) rfl ⟨rfl, xa⟩
theorem thr_shape (r0 e0 r1 e1 r2 e2 : Int) : ∃ x y z e : Int, thr r0 e0 r1 e1 r2 e2 = .tuple #[zG #[J zq x, J zq y, J zq z], J zq e] := by
  unfold thr
  split
  · split
    · split
      · exact ⟨_, _, _, _, rfl⟩
      · exact ⟨_, _, _, _, rfl⟩
    · exact ⟨_, _, _, _, rfl⟩
  · exact ⟨_, _, _, _, rfl⟩
def two6 (a0 a1 a2 b0 b1 b2 : Int) (i j : Nat) : Int := if i = 0 then (if j = 0 then a0 else if j = 1 then a1 else a2) else (if j = 0 then b0 else if j = 1 then b1 else b2)
theorem cells6_at (a0 a1 a2 b0 b1 b2 : Int) (W : World) (n : Nat) (T : TypeId) (hn : W.heap.size = n) : ∀ i, i < 2 → ∀ j, j < 3 → (W.alloc (.cells #[J zq a0, J zq a1, J zq a2, J zq b0, J zq b1, J zq b2] T)).cell? ⟨n, i * 3 + j, none⟩ = some (J zq (two6 a0 a1 a2 b0 b1 b2 i j)) := by
  subst hn
  intro i hi j hj
  have hi' : i = 0 ∨ i = 1 := by omega
  have hj' : j = 0 ∨ j = 1 ∨ j = 2 := by omega
  rcases hi' with rfl | rfl <;> rcases hj' with rfl | rfl | rfl <;> simp [go_sem, two6]
theorem check2_yes (a0 a1 a2 b0 b1 b2 : Int) (W : World) (n : Nat) (T : TypeId) (hn : W.heap.size = n) (h1 : ok3 a0 a1 a2 = true) (h2 : ok3 b0 b1 b2 = true) :
    Calls zP 75 #[.slice (some ⟨n, 0, none⟩) 2 2] (W.alloc (.cells #[J zq a0, J zq a1, J zq a2, J zq b0, J zq b1, J zq b2] T)) fun e w' => e = zR (J zq 0) ∧ Ext (W.alloc (.cells #[J zq a0, J zq a1, J zq a2, J zq b0, J zq b1, J zq b2] T)) w' := by
  refine (check_list 2 (two6 a0 a1 a2 b0 b1 b2) n _ (by omega) (cells6_at a0 a1 a2 b0 b1 b2 W n T hn)).mono ?_
  rintro e w1 ⟨⟨r, rfl, hr⟩, x⟩
  rcases hr with ⟨rfl, _⟩ | ⟨_, i, hi, hb⟩
  · exact ⟨rfl, x⟩
  · exfalso
    have hi' : i = 0 ∨ i = 1 := by omega
    rcases hi' with rfl | rfl
    · simp [two6, h1] at hb
    · simp [two6, h2] at hb
set_option maxHeartbeats 2000000 in
theorem pw1_Mul (a b r e0 : Int) (g : Nat) (w : World) (hg : H1 w g (.func (.func 90) #[] #[]))
    (HO : Hid (∀ w', Calls zP 90 #[J zq a, J zq b] w' fun e w'' => e = zR (.tuple #[J zq r, J zq e0]) ∧ Ext w' w'')) :
    Calls zP 152 #[zG #[J zq a, J zq b], .pointer (some ⟨g, 0, none⟩)] w fun e w' => e = zR (.tuple #[J zq r, J zq e0]) ∧ Ext w w' := by
  obtain ⟨c0, c1, c2⟩ := hg.alloc (.cells #[J zq a, J zq b] 191)
  go_enter Tryz.func152, Tryz.ntmps152
  go_wp2_with fail
  refine (HO.out _).mono ?_
  rintro e w1 ⟨rfl, x1⟩
  go_wp2_with fail
  go_ret2
  exact ⟨rfl, Ext.trans ((Ext.refl _).alloc _) x1⟩
set_option maxRecDepth 20000 in
set_option maxHeartbeats 4000000 in
theorem pairwise_Mul (a0 a1 a2 b0 b1 b2 r0 e0 r1 e1 r2 e2 : Int) (w : World) (h1 : ok3 a0 a1 a2 = true) (h2 : ok3 b0 b1 b2 = true)
    (O0 : Hid (∀ w', Calls zP 90 #[J zq a0, J zq b0] w' fun e w'' => e = zR (.tuple #[J zq r0, J zq e0]) ∧ Ext w' w''))
    (O1 : Hid (∀ w', Calls zP 90 #[J zq a1, J zq b1] w' fun e w'' => e = zR (.tuple #[J zq r1, J zq e1]) ∧ Ext w' w''))
    (O2 : Hid (∀ w', Calls zP 90 #[J zq a2, J zq b2] w' fun e w'' => e = zR (.tuple #[J zq r2, J zq e2]) ∧ Ext w' w'')) :
    Calls zP 113 #[zG #[J zq a0, J zq a1, J zq a2], zG #[J zq b0, J zq b1, J zq b2], .func (.func 90) #[] #[]] w fun e w' => e = zR (thr r0 e0 r1 e1 r2 e2) ∧ Ext w w' := by
  have HK : Hid (∀ (W : World) (n : Nat) (T : TypeId), W.heap.size = n → Calls zP 75 #[.slice (some ⟨n, 0, none⟩) 2 2] (W.alloc (.cells #[J zq a0, J zq a1, J zq a2, J zq b0, J zq b1, J zq b2] T)) fun e w' => e = zR (J zq 0) ∧ Ext (W.alloc (.cells #[J zq a0, J zq a1, J zq a2, J zq b0, J zq b1, J zq b2] T)) w') := fun W n T hn => check2_yes a0 a1 a2 b0 b1 b2 W n T hn h1 h2
  have HT : Hid (∀ (g : Nat) (w' : World), H1 w' g (.func (.func 90) #[] #[]) → Calls zP 151 #[zG #[J zq a0, J zq b0, J zq a1, J zq b1, J zq a2, J zq b2], .func (.func 152) #[] #[.pointer (some ⟨g, 0, none⟩)]] w' fun e w'' => e = zR (thr r0 e0 r1 e1 r2 e2) ∧ Ext w' w'') := fun g w' hg => throughM_any a0 b0 a1 b1 a2 b2 r0 e0 r1 e1 r2 e2 g w' (fun w'' hx => pw1_Mul a0 b0 r0 e0 g w'' (hg.ext hx) O0) (fun w'' hx => pw1_Mul a1 b1 r1 e1 g w'' (hg.ext hx) O1) (fun w'' hx => pw1_Mul a2 b2 r2 e2 g w'' (hg.ext hx) O2)
  obtain ⟨x, y, z, e, hr⟩ := thr_shape r0 e0 r1 e1 r2 e2
  rw [hr] at HT ⊢
  clear hr h1 h2 O0 O1 O2
  go_enter Tryz.func113, Tryz.ntmps113
  go_wp2_with fail
  refine (HK.out _ _ _ (by simp)).mono ?_
  rintro e1 w1 ⟨rfl, x1⟩
  have A1 : Hid (H3 w1 w.heap.size (J zq a0) (J zq a1) (J zq a2)) := (H3.alloc (H3.alloc (H3.alloc (H3.alloc (h3_at rfl) _) _) _) _).ext x1
  have B1 : Hid (H3 w1 (w.heap.size + 1) (J zq b0) (J zq b1) (J zq b2)) := (H3.alloc (H3.alloc (H3.alloc (h3_at (by simp)) _) _) _).ext x1
  have G1 : Hid (H1 w1 (w.heap.size + 1 + 1) (.func (.func 90) #[] #[])) := (H1.alloc (H1.alloc (h1_at (by simp)) _) _).ext x1
  have R1 : Hid (H3 w1 (w.heap.size + 1 + 1 + 1) (J zq 0) (J zq 0) (J zq 0)) := (H3.alloc (h3_at (by simp)) _).ext x1
  have X1 : Ext w w1 := Ext.trans (((((Ext.refl _).alloc _).alloc _).alloc _).alloc _ |>.alloc _) x1
  clear x1
  obtain ⟨p0, p1, p2, p3, p4, p5, p6⟩ := A1.out
  obtain ⟨q0, q1, q2, q3, q4, q5, q6⟩ := B1.out
  go_wp2_with fail
  refine wp_loop_rounds 4 ?_
  rw [rounds_succ]
  go_wp2_with fail
  go_region
  go_wp2_with fail
  rw [rounds_succ]
  go_wp2_with fail
  go_region
  go_wp2_with fail
  rw [rounds_succ]
  go_wp2_with fail
  go_region
  go_wp2_with fail
  rw [rounds_succ]
  go_wp2_with fail
  refine (HT.out _ _ (G1.out.ext xa)).mono ?_
  rintro e2 w2 ⟨rfl, x2⟩
  have Y2 : Ext w1 w2 := Ext.trans xa x2
  have X2 : Ext w w2 := X1.trans Y2
  obtain ⟨m0, m1, m2, m3, m4, m5, m6⟩ := R1.out.ext Y2
  clear x2 Y2 p0 p1 p2 p3 p4 p5 p6 q0 q1 q2 q3 q4 q5 q6 X1
  go_wp2_with fail
  exact bodyPost_ret (v := .tuple #[zG #[J zq x, J zq y, J zq z], J zq e]) (by simp [results, Tryz.results113, go_sem, m0, m1, m2]) rfl ⟨rfl, xa⟩
end Go.Proofs.YtoeecldhbabmbaaGreat
