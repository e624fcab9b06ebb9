/- learn: mean, with, Check. -/
import Derived.Test.YtcbelhalckehcaaLe0
import Derived.Test.YtcbelhalckehcaaNearNum
import Derived.Test.YtcbelhalckehcaaFaces  
import Derived.Deep.Cut
import Derived.Deep.DeepCutAuto
namespace Go.Proofs.Ytcbelhalckehcaa
open Go.RowKit Go.Shelf
/-- the mean of 32: the nearest number -/
def nr (s : Int) : Int := nearI s 32
theorem share32 (s : Int) : shareR s 1 32 = fitR (nr s) := by
  have h := share_word s 1 32 (nr s) (by decide) (by
    have e : over (s * 1) 32 = s := by unfold over; rw [if_neg (by decide), Int.mul_one]
    rw [e]
    exact nearI_spec s 32 (by decide))
  rw [h]; rfl
theorem ratio32 (s : Int) (w : World) (h1 : -9223372036854775808 ≤ s) (h2 : s ≤ 9223372036854775807) :
    Calls Try.prog 34 #[.int .i64 s, .int .i64 32] w fun e w' => e = .returned (.tuple #[.int .i64 (fitR (nr s)).1, .int .i64 (fitR (nr s)).2]) ∧ Ext w w' := by
  have h := ratio_any s 32 w h1 h2 (by decide) (by decide)
  rw [share32] at h
  exact h
theorem cmpOr3 (a b c r : Int) (g : Nat) (w : World) (h : HV w g [.int .i64 a, .int .i64 b, .int .i64 c]) (hr : r = if a ≠ 0 then a else if b ≠ 0 then b else c) :
    Calls Try.prog 35 #[.slice (some ⟨g, 0, none⟩) 3 3] w fun e w' => e = .returned (.int .i64 r) ∧ Ext w w' := by
  obtain ⟨c0, c1, c2⟩ := h.k3
  have hb := h.1
  refine (cmpOr_any 3 g (fun i => if i = 0 then a else if i = 1 then b else c) w (by omega) (fun i hi => ?_)).mono ?_
  · obtain rfl | rfl | rfl : i = 0 ∨ i = 1 ∨ i = 2 := by omega
    · exact ⟨c0, hb⟩
    · exact ⟨c1, hb⟩
    · exact ⟨c2, hb⟩
  · rintro e w1 ⟨⟨s, rfl, hs⟩, x1⟩
    refine ⟨?_, x1⟩
    have : s = r := by
      rcases hs with ⟨k, hk, h1, h2, rfl⟩ | ⟨h1, rfl⟩
      · obtain rfl | rfl | rfl : k = 0 ∨ k = 1 ∨ k = 2 := by omega
        · have g0 : a ≠ 0 := h2
          rw [hr]; simp_all
        · have g0 : a = 0 := h1 0 (by omega)
          have g1 : b ≠ 0 := h2
          rw [hr]; simp_all
        · have g0 : a = 0 := h1 0 (by omega)
          have g1 : b = 0 := h1 1 (by omega)
          rw [hr]; simp_all
      · have g0 : a = 0 := h1 0 (by omega)
        have g1 : b = 0 := h1 1 (by omega)
        have g2 : c = 0 := h1 2 (by omega)
        rw [hr]; simp_all
    rw [this]
theorem mean_form (s0 s1 s2 : Int) : ∃ x0 e0 x1 e1 x2 e2 r y0 y1 y2 : Int, fitR s0 = (x0, e0) ∧ fitR s1 = (x1, e1) ∧ fitR s2 = (x2, e2) ∧ (r = if e0 ≠ 0 then e0 else if e1 ≠ 0 then e1 else e2) ∧
    vres s0 s1 s2 = .tuple #[.agg #[.int .i64 y0, .int .i64 y1, .int .i64 y2], .int .i64 r] ∧ (r = 0 ∧ y0 = x0 ∧ y1 = x1 ∧ y2 = x2 ∨ r = 2 ∧ y0 = 0 ∧ y1 = 0 ∧ y2 = 0) := by
  cases h0 : okW s0
  · exact ⟨0, 2, _, _, _, _, 2, 0, 0, 0, fit_no' h0, rfl, rfl, by simp, by unfold vres ok3; rw [h0]; rfl, .inr ⟨rfl, rfl, rfl, rfl⟩⟩
  · cases h1 : okW s1
    · exact ⟨s0, 0, 0, 2, _, _, 2, 0, 0, 0, fit_yes' h0, fit_no' h1, rfl, by simp, by unfold vres ok3; rw [h0, h1]; rfl, .inr ⟨rfl, rfl, rfl, rfl⟩⟩
    · cases h2 : okW s2
      · exact ⟨s0, 0, s1, 0, 0, 2, 2, 0, 0, 0, fit_yes' h0, fit_yes' h1, fit_no' h2, by simp, by unfold vres ok3; rw [h0, h1, h2]; rfl, .inr ⟨rfl, rfl, rfl, rfl⟩⟩
      · exact ⟨s0, 0, s1, 0, s2, 0, 0, s0, s1, s2, fit_yes' h0, fit_yes' h1, fit_yes' h2, by simp, by unfold vres ok3; rw [h0, h1, h2]; rfl, .inl ⟨rfl, rfl, rfl, rfl⟩⟩
set_option maxRecDepth 20000 in
set_option maxHeartbeats 4000000 in
theorem mean_any (s0 s1 s2 : Int) (w : World) (h0 : -4503599627370496 ≤ s0 ∧ s0 ≤ 4503599627370496) (h1 : -4503599627370496 ≤ s1 ∧ s1 ≤ 4503599627370496) (h2 : -4503599627370496 ≤ s2 ∧ s2 ≤ 4503599627370496) :
    Calls Try.prog 26 #[.agg #[.int .i64 s0, .int .i64 s1, .int .i64 s2]] w fun e w' => e = .returned (vres (nr s0) (nr s1) (nr s2)) ∧ Ext w w' := by
  have R0 : Hid (∀ w, Calls Try.prog 34 #[.int .i64 s0, .int .i64 32] w fun e w' => e = .returned (.tuple #[.int .i64 (fitR (nr s0)).1, .int .i64 (fitR (nr s0)).2]) ∧ Ext w w') := fun w => ratio32 s0 w (by omega) (by omega)
  have R1 : Hid (∀ w, Calls Try.prog 34 #[.int .i64 s1, .int .i64 32] w fun e w' => e = .returned (.tuple #[.int .i64 (fitR (nr s1)).1, .int .i64 (fitR (nr s1)).2]) ∧ Ext w w') := fun w => ratio32 s1 w (by omega) (by omega)
  have R2 : Hid (∀ w, Calls Try.prog 34 #[.int .i64 s2, .int .i64 32] w fun e w' => e = .returned (.tuple #[.int .i64 (fitR (nr s2)).1, .int .i64 (fitR (nr s2)).2]) ∧ Ext w w') := fun w => ratio32 s2 w (by omega) (by omega)
  have B1 : Hid (HV ((w.alloc (.cells #[.int .i64 s0, .int .i64 s1, .int .i64 s2] 24)).alloc (.cells #[.int .i64 0, .int .i64 0, .int .i64 0] 24)) w.heap.size [.int .i64 s0, .int .i64 s1, .int .i64 s2]) := (hv_at rfl).alloc _
  have B2 : Hid (HV ((w.alloc (.cells #[.int .i64 s0, .int .i64 s1, .int .i64 s2] 24)).alloc (.cells #[.int .i64 0, .int .i64 0, .int .i64 0] 24)) (w.heap.size + 1) [.int .i64 0, .int .i64 0, .int .i64 0]) := hv_at (by simp)
  have HX : Hid (Ext w ((w.alloc (.cells #[.int .i64 s0, .int .i64 s1, .int .i64 s2] 24)).alloc (.cells #[.int .i64 0, .int .i64 0, .int .i64 0] 24))) := ((Ext.refl w).alloc _).alloc _
  obtain ⟨x0, e0, x1, e1, x2, e2, r, y0, y1, y2, q0, q1, q2, hr0, hv, hy⟩ := mean_form (nr s0) (nr s1) (nr s2)
  rw [hv]
  rw [q0] at R0
  rw [q1] at R1
  rw [q2] at R2
  clear q0 q1 q2 hv h0 h1 h2
  have hr : Hid (r = if e0 ≠ 0 then e0 else if e1 ≠ 0 then e1 else e2) := hr0
  clear hr0
  rcases hy with ⟨rfl, rfl, rfl, rfl⟩ | ⟨rfl, rfl, rfl, rfl⟩
  · go_enter Try.func26, Try.ntmps26
    go_wp2_with fail
    generalize ((w.alloc (.cells #[.int .i64 s0, .int .i64 s1, .int .i64 s2] 24)).alloc (.cells #[.int .i64 0, .int .i64 0, .int .i64 0] 24)) = wa at *
    refine (R0.out _).mono ?_
    rintro e w1 ⟨rfl, z1⟩
    have B1 : Hid (HV w1 w.heap.size [.int .i64 s0, .int .i64 s1, .int .i64 s2]) := B1.out.ext z1
    have B2 : Hid (HV w1 (w.heap.size + 1) [.int .i64 0, .int .i64 0, .int .i64 0]) := B2.out.ext z1
    have HX : Hid (Ext w w1) := HX.out.trans z1
    clear z1
    clear R0
    have q1 : w1.cell? ⟨w.heap.size, 1, none⟩ = some (.int .i64 s1) := B1.out.c 1 rfl
    go_wp2_with fail
    refine (R1.out _).mono ?_
    rintro e w2 ⟨rfl, z2⟩
    have B1 : Hid (HV w2 w.heap.size [.int .i64 s0, .int .i64 s1, .int .i64 s2]) := B1.out.ext z2
    have B2 : Hid (HV w2 (w.heap.size + 1) [.int .i64 0, .int .i64 0, .int .i64 0]) := B2.out.ext z2
    have HX : Hid (Ext w w2) := HX.out.trans z2
    clear z2
    clear R1
    clear q1
    have q2 : w2.cell? ⟨w.heap.size, 2, none⟩ = some (.int .i64 s2) := B1.out.c 2 rfl
    go_wp2_with fail
    refine (R2.out _).mono ?_
    rintro e w3 ⟨rfl, z3⟩
    have B1 : Hid (HV w3 w.heap.size [.int .i64 s0, .int .i64 s1, .int .i64 s2]) := B1.out.ext z3
    have B2 : Hid (HV w3 (w.heap.size + 1) [.int .i64 0, .int .i64 0, .int .i64 0]) := B2.out.ext z3
    have HX : Hid (Ext w w3) := HX.out.trans z3
    clear z3
    clear R2
    clear q2
    go_wp2_with fail
    skip
    refine (cmpOr3 e0 e1 e2 0 w3.heap.size _ (hv_at rfl) hr.out).mono ?_
    rintro e w4 ⟨rfl, z4⟩
    have B2 : Hid (HV w4 (w.heap.size + 1) [.int .i64 0, .int .i64 0, .int .i64 0]) := (B2.out.alloc _).ext z4
    have HX : Hid (Ext w w4) := (HX.out.alloc _).trans z4
    clear z4 hr B1
    obtain ⟨k0, k1, k2⟩ := B2.out.k3
    obtain ⟨f0, f1, f2⟩ := B2.out.z3
    go_wp2_with fail
    refine bodyPost_ret (v := .tuple #[.agg #[.int .i64 y0, .int .i64 y1, .int .i64 y2], .int .i64 0]) (by simp [results, Try.results26, go_sem, k0, k1, k2]) rfl ⟨rfl, ?_⟩
    exact Ext.set (Ext.set (Ext.set HX.out (Nat.le_add_right _ _) _) (Nat.le_add_right _ _) _) (Nat.le_add_right _ _) _
  · go_enter Try.func26, Try.ntmps26
    go_wp2_with fail
    generalize ((w.alloc (.cells #[.int .i64 s0, .int .i64 s1, .int .i64 s2] 24)).alloc (.cells #[.int .i64 0, .int .i64 0, .int .i64 0] 24)) = wa at *
    refine (R0.out _).mono ?_
    rintro e w1 ⟨rfl, z1⟩
    have B1 : Hid (HV w1 w.heap.size [.int .i64 s0, .int .i64 s1, .int .i64 s2]) := B1.out.ext z1
    have B2 : Hid (HV w1 (w.heap.size + 1) [.int .i64 0, .int .i64 0, .int .i64 0]) := B2.out.ext z1
    have HX : Hid (Ext w w1) := HX.out.trans z1
    clear z1
    clear R0
    have q1 : w1.cell? ⟨w.heap.size, 1, none⟩ = some (.int .i64 s1) := B1.out.c 1 rfl
    go_wp2_with fail
    refine (R1.out _).mono ?_
    rintro e w2 ⟨rfl, z2⟩
    have B1 : Hid (HV w2 w.heap.size [.int .i64 s0, .int .i64 s1, .int .i64 s2]) := B1.out.ext z2
    have B2 : Hid (HV w2 (w.heap.size + 1) [.int .i64 0, .int .i64 0, .int .i64 0]) := B2.out.ext z2
    have HX : Hid (Ext w w2) := HX.out.trans z2
    clear z2
    clear R1
    clear q1
    have q2 : w2.cell? ⟨w.heap.size, 2, none⟩ = some (.int .i64 s2) := B1.out.c 2 rfl
    go_wp2_with fail
    refine (R2.out _).mono ?_
    rintro e w3 ⟨rfl, z3⟩
    have B1 : Hid (HV w3 w.heap.size [.int .i64 s0, .int .i64 s1, .int .i64 s2]) := B1.out.ext z3
    have B2 : Hid (HV w3 (w.heap.size + 1) [.int .i64 0, .int .i64 0, .int .i64 0]) := B2.out.ext z3
    have HX : Hid (Ext w w3) := HX.out.trans z3
    clear z3
    clear R2
    clear q2
    go_wp2_with fail
    skip
    refine (cmpOr3 e0 e1 e2 2 w3.heap.size _ (hv_at rfl) hr.out).mono ?_
    rintro e w4 ⟨rfl, z4⟩
    have B2 : Hid (HV w4 (w.heap.size + 1) [.int .i64 0, .int .i64 0, .int .i64 0]) := (B2.out.alloc _).ext z4
    have HX : Hid (Ext w w4) := (HX.out.alloc _).trans z4
    clear z4 hr B1
    obtain ⟨k0, k1, k2⟩ := B2.out.k3
    obtain ⟨f0, f1, f2⟩ := B2.out.z3
    go_wp2_with fail
    refine bodyPost_ret (v := .tuple #[.agg #[.int .i64 0, .int .i64 0, .int .i64 0], .int .i64 2]) (by simp [results, Try.results26, go_sem, k0, k1, k2]) rfl ⟨rfl, ?_⟩
    exact Ext.set (Ext.set (Ext.set HX.out (Nat.le_add_right _ _) _) (Nat.le_add_right _ _) _) (Nat.le_add_right _ _) _
set_option maxRecDepth 20000 in
set_option maxHeartbeats 8000000 in
theorem with_any (s0 s1 s2 n v0 v1 v2 : Int) (w : World) (hn : 0 ≤ n ∧ n < 32) (h0 : -4503599627370496 ≤ s0 + v0 ∧ s0 + v0 ≤ 4503599627370496) (h1 : -4503599627370496 ≤ s1 + v1 ∧ s1 + v1 ≤ 4503599627370496) (h2 : -4503599627370496 ≤ s2 + v2 ∧ s2 + v2 ≤ 4503599627370496) :
    Calls Try.prog 23 #[.agg #[.int .i64 s0, .int .i64 s1, .int .i64 s2, .int .i64 n], .agg #[.int .i64 v0, .int .i64 v1, .int .i64 v2], .func (.func 24) #[] #[]] w fun e w' => e = .returned (.agg #[.int .i64 (s0 + v0), .int .i64 (s1 + v1), .int .i64 (s2 + v2), .int .i64 (n + 1)]) ∧ Ext w w' := by
  have HP : Hid (∀ w, Calls Try.prog 24 #[.agg #[.int .i64 s0, .int .i64 s1, .int .i64 s2], .agg #[.int .i64 v0, .int .i64 v1, .int .i64 v2]] w fun e w' => e = .returned (.agg #[.int .i64 (s0 + v0), .int .i64 (s1 + v1), .int .i64 (s2 + v2)]) ∧ Ext w w') := fun w => plus_any _ _ _ _ _ _ w h0 h1 h2
  have lt2 : Hid (w.heap.size ≤ w.heap.size + 2) := Nat.le_add_right _ _
  have ew : IntKind.i64.wrap (n + 1) = n + 1 := by rw [IntKind.wrap_i64]; omega
  have B1 : Hid (HV (((w.alloc (.cells #[.int .i64 s0, .int .i64 s1, .int .i64 s2, .int .i64 n] 52)).alloc (.cells #[.int .i64 v0, .int .i64 v1, .int .i64 v2] 24)).alloc (.cells #[.int .i64 0, .int .i64 0, .int .i64 0, .int .i64 0] 52)) w.heap.size [.int .i64 s0, .int .i64 s1, .int .i64 s2, .int .i64 n]) := ((hv_at rfl).alloc _).alloc _
  have B2 : Hid (HV (((w.alloc (.cells #[.int .i64 s0, .int .i64 s1, .int .i64 s2, .int .i64 n] 52)).alloc (.cells #[.int .i64 v0, .int .i64 v1, .int .i64 v2] 24)).alloc (.cells #[.int .i64 0, .int .i64 0, .int .i64 0, .int .i64 0] 52)) (w.heap.size + 1) [.int .i64 v0, .int .i64 v1, .int .i64 v2]) := (hv_at (by simp)).alloc _
  have B3 : Hid (HV (((w.alloc (.cells #[.int .i64 s0, .int .i64 s1, .int .i64 s2, .int .i64 n] 52)).alloc (.cells #[.int .i64 v0, .int .i64 v1, .int .i64 v2] 24)).alloc (.cells #[.int .i64 0, .int .i64 0, .int .i64 0, .int .i64 0] 52)) (w.heap.size + 2) [.int .i64 0, .int .i64 0, .int .i64 0, .int .i64 0]) := hv_at (by simp)
  have HX : Hid (Ext w (((w.alloc (.cells #[.int .i64 s0, .int .i64 s1, .int .i64 s2, .int .i64 n] 52)).alloc (.cells #[.int .i64 v0, .int .i64 v1, .int .i64 v2] 24)).alloc (.cells #[.int .i64 0, .int .i64 0, .int .i64 0, .int .i64 0] 52))) := (((Ext.refl w).alloc _).alloc _).alloc _
  clear h0 h1 h2 hn
  generalize s0 + v0 = t0 at *
  generalize s1 + v1 = t1 at *
  generalize s2 + v2 = t2 at *
  go_enter Try.func23, Try.ntmps23
  go_upto_region 1 with fail
  generalize (((w.alloc (.cells #[.int .i64 s0, .int .i64 s1, .int .i64 s2, .int .i64 n] 52)).alloc (.cells #[.int .i64 v0, .int .i64 v1, .int .i64 v2] 24)).alloc (.cells #[.int .i64 0, .int .i64 0, .int .i64 0, .int .i64 0] 52)) = wa at *
  obtain ⟨p0, p1, p2, p3⟩ := B1.out.k4
  obtain ⟨q0, q1, q2⟩ := B2.out.k3
  obtain ⟨z0, z1, z2, z3⟩ := B3.out.k4
  obtain ⟨f0, f1, f2, f3⟩ := B3.out.z4
  go_region_held3 (fun w' => w'.cell? ⟨w.heap.size, 0, none⟩ = some (.int .i64 s0) ∧ w'.cell? ⟨w.heap.size, 1, none⟩ = some (.int .i64 s1) ∧ w'.cell? ⟨w.heap.size, 2, none⟩ = some (.int .i64 s2) ∧ w'.cell? ⟨w.heap.size, 3, none⟩ = some (.int .i64 n) ∧ w'.cell? ⟨w.heap.size + 1, 0, none⟩ = some (.int .i64 v0) ∧ w'.cell? ⟨w.heap.size + 1, 1, none⟩ = some (.int .i64 v1) ∧ w'.cell? ⟨w.heap.size + 1, 2, none⟩ = some (.int .i64 v2)) (first | (simp [*]; done) | (refine ⟨?_, ?_, ?_, ?_, ?_, ?_, ?_⟩ <;> (rw [World.cell?_setCell_far _ _ _ _ (by dsimp only; omega), World.cell?_setCell_far _ _ _ _ (by dsimp only; omega), World.cell?_setCell_far _ _ _ _ (by dsimp only; omega), World.cell?_setCell_far _ _ _ _ (by dsimp only; omega)]; with_reducible assumption)) | skip) (first | (go_at_call 24; refine (HP.out _).mono ?_; rintro e w3 ⟨rfl, x3⟩; have Y3 : Ext wa w3 := Ext.trans (by repeat (first | with_reducible assumption | with_reducible exact Ext.refl _ | with_reducible refine Ext.drew ?_ | with_reducible refine Ext.drewN ?_ _ | with_reducible refine Ext.alloc ?_ _ | with_reducible refine Ext.set ?_ (by first | exact Nat.le_refl _ | (dsimp only; omega) | (simp; done)) _)) x3; obtain ⟨a0, a1, a2, a3⟩ := (B1.out.ext Y3).k4; obtain ⟨c0, c1, c2⟩ := (B2.out.ext Y3).k3; obtain ⟨d0, d1, d2, d3⟩ := (B3.out.ext Y3).k4; obtain ⟨g0, g1, g2, g3⟩ := (B3.out.ext Y3).z4))
  all_goals
    have X3 : Hid (Ext w w3) := HX.out.trans Y3
    go_wp2_with fail
    refine bodyPost_ret (v := .agg #[.int .i64 t0, .int .i64 t1, .int .i64 t2, .int .i64 (n + 1)]) (by simp [results, Try.results23, go_sem, d0, d1, d2, d3]) rfl ⟨rfl, ?_⟩
    exact Ext.set (Ext.set (Ext.set (Ext.set X3.out lt2.out _) lt2.out _) lt2.out _) lt2.out _
end Go.Proofs.Ytcbelhalckehcaa
