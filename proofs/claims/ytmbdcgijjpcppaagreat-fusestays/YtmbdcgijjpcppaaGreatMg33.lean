/- quat: turned, turn. quat: Turn, Back, Conj. fuse: what Spin, Up and North tell, of anything. -/
import Derived.Test.YtmbdcgijjpcppaaGreatMg18
import Derived.Test.YtmbdcgijjpcppaaGreatQ5m
import Derived.Test.YtmbdcgijjpcppaaGreatQ6m
import Derived.Test.YtmbdcgijjpcppaaGreatMg27
import Derived.Test.YtmbdcgijjpcppaaGreatFuNom
import Derived.Test.YtmbdcgijjpcppaaGreatMg29
namespace Go.Proofs.YtmbdcgijjpcppaaGreat
open Go.RowKit Go.Shelf

theorem neg_okW {a : Int} (h : okW a = true) : okW (-a) = true := by unfold okW at *; simp at *; omega
theorem turned_any (a b c d x y z : Int) (w : World) (h : ok4 a b c d = true) (k : ok3 x y z = true) (hq : ¬ (a = 0 ∧ b = 0 ∧ c = 0 ∧ d = 0)) :
    Calls Tryz.prog 134 #[.agg #[.int .i64 a, .int .i64 b, .int .i64 c, .int .i64 d], .agg #[.int .i64 x, .int .i64 y, .int .i64 z]] w fun e w' => e = .returned (qres 0 (nearI (tnx a b c d x y z) (sq4 a b c d)) (nearI (tny a b c d x y z) (sq4 a b c d)) (nearI (tnz a b c d x y z) (sq4 a b c d))) ∧ Ext w w' := by
  have bd := turn_bounds h k hq
  have n0 := sq4_pos hq
  have h' := h; have k' := k
  unfold ok4 at h'; unfold ok3 at k'
  simp only [Bool.and_eq_true] at h' k'
  obtain ⟨ha, hb, hc, hd⟩ := h'
  obtain ⟨hx, hy, hz⟩ := k'
  have n1 := sq4_lt ha hb hc hd
  have C := qconj_any a b c d
  rw [neg64 hb, neg64 hc, neg64 hd] at C
  have z0 : okW 0 = true := by decide
  have P := fun w => product64_any 0 x y z a (-b) (-c) (-d) w z0 hx hy hz ha (neg_okW hb) (neg_okW hc) (neg_okW hd)
  have X := fun v w hv => productW_any a b c d (qw 0 x y z a (-b) (-c) (-d)) (qx 0 x y z a (-b) (-c) (-d)) (qy 0 x y z a (-b) (-c) (-d)) (qz 0 x y z a (-b) (-c) (-d)) v w ha hb hc hd hv
  have e0 : nearI 0 (sq4 a b c d : Nat) = 0 := IsNear.unique (by omega) (nearI_spec 0 _ (by omega)) ⟨by omega, by omega, fun _ => rfl⟩
  have b0 := bd 0 (Or.inl rfl)
  have b1 := bd _ (Or.inr (Or.inl rfl))
  have b2 := bd _ (Or.inr (Or.inr (Or.inl rfl)))
  have b3 := bd _ (Or.inr (Or.inr (Or.inr rfl)))
  obtain ⟨E0, E1, E2, E3, ee, hE⟩ := qres_shape 0 (nearI (tnx a b c d x y z) (sq4 a b c d)) (nearI (tny a b c d x y z) (sq4 a b c d)) (nearI (tnz a b c d x y z) (sq4 a b c d))
  rw [hE]
  refine turned_raw a b c d x y z (-b) (-c) (-d) _ _ _ _ _ 0 (tnx a b c d x y z) (tny a b c d x y z) (tnz a b c d x y z) E0 E1 E2 E3 ee w (fun w' => squares_any a b c d w' ha hb hc hd) C P (fun v w' hv => by
    have := X v w' hv
    have e : qw a b c d (qw 0 x y z a (-b) (-c) (-d)) (qx 0 x y z a (-b) (-c) (-d)) (qy 0 x y z a (-b) (-c) (-d)) (qz 0 x y z a (-b) (-c) (-d)) = 0 := tnw_zero a b c d x y z
    rw [e] at this
    exact this) ?_
  intro g b0' b1' b2' v w' hv hN hG
  rw [← hE]
  obtain ⟨l0, l1, l2, l3, l4, l5, l6, l7, l8, l9, l10, l11, rfl, i0, i1, i2, i3⟩ := hv
  have T := throughT_any l0 l1 l2 l3 l4 l5 l6 l7 l8 l9 l10 l11 (nearI 0 (sq4 a b c d)) (nearI (tnx a b c d x y z) (sq4 a b c d)) (nearI (tny a b c d x y z) (sq4 a b c d)) (nearI (tnz a b c d x y z) (sq4 a b c d)) g w' (near_inW n0 b0.1) (near_inW n0 b1.1) (near_inW n0 b2.1) (near_inW n0 b3.1)
    (fun w2 hx => turned1_any 0 _ _ _ _ _ _ _ g w2 i0 hN (hG.ext hx) n0 n1 b0.1 b0.2)
    (fun w2 hx => turned1_any _ _ _ _ _ _ _ _ g w2 i1 hN (hG.ext hx) n0 n1 b1.1 b1.2)
    (fun w2 hx => turned1_any _ _ _ _ _ _ _ _ g w2 i2 hN (hG.ext hx) n0 n1 b2.1 b2.2)
    (fun w2 hx => turned1_any _ _ _ _ _ _ _ _ g w2 i3 hN (hG.ext hx) n0 n1 b3.1 b3.2)
  rw [e0] at T
  exact T

theorem chk4_yes {a b c d : Int} (h : ok4 a b c d = true) : chk4 a b c d = 0 := by unfold chk4; rw [if_pos h]
theorem chk3_yes {a b c : Int} (h : ok3 a b c = true) : chk3 a b c = 0 := by unfold chk3; rw [if_pos h]
theorem chk4_no {a b c d : Int} (h : ok4 a b c d = false) : chk4 a b c d = 1 := by unfold chk4; rw [h]; rfl
theorem chk3_no {a b c : Int} (h : ok3 a b c = false) : chk3 a b c = 1 := by unfold chk3; rw [h]; rfl
theorem qturn_any (a b c d x y z : Int) (w : World) :
    Calls Tryz.prog 100 #[.agg #[.int .i64 a, .int .i64 b, .int .i64 c, .int .i64 d], .agg #[.int .i64 x, .int .i64 y, .int .i64 z]] w fun e w' => e = .returned (turnR a b c d x y z) ∧ Ext w w' := by
  have Q := qcheck_any a b c d
  have V := vCheck_any x y z
  unfold turnR
  cases h : ok4 a b c d
  · rw [chk4_no h] at Q
    have R := turn_bad a b c d x y z 1 (chk3 x y z) 1 w rfl Q V (fun g w' hg => cmpOr2 _ _ _ g w' hg rfl)
    exact R
  · rw [chk4_yes h] at Q
    cases k : ok3 x y z
    · rw [chk3_no k] at V
      exact turn_bad a b c d x y z 0 1 1 w rfl Q V (fun g w' hg => cmpOr2 _ _ _ g w' hg rfl)
    · rw [chk3_yes k] at V
      by_cases hq : a = 0 ∧ b = 0 ∧ c = 0 ∧ d = 0
      · rw [if_pos (show (true && true) = true from rfl), if_pos hq]
        obtain ⟨rfl, rfl, rfl, rfl⟩ := hq
        exact turn_zero x y z 0 0 w Q V (fun g w' hg => cmpOr2 _ _ _ g w' hg rfl)
      · rw [if_pos (show (true && true) = true from rfl), if_neg hq]
        have T := fun w' => turned_any a b c d x y z w' h k hq
        have hz : (a == 0 && (b == 0 && (c == 0 && d == 0))) = false := by
          cases hh : (a == 0 && (b == 0 && (c == 0 && d == 0)))
          · rfl
          · exfalso; simp at hh; exact hq hh
        obtain ⟨s1, hs1⟩ : ∃ s, s = nearI (tnx a b c d x y z) (sq4 a b c d) := ⟨_, rfl⟩
        obtain ⟨s2, hs2⟩ : ∃ s, s = nearI (tny a b c d x y z) (sq4 a b c d) := ⟨_, rfl⟩
        obtain ⟨s3, hs3⟩ : ∃ s, s = nearI (tnz a b c d x y z) (sq4 a b c d) := ⟨_, rfl⟩
        rw [← hs1, ← hs2, ← hs3] at T
        rw [← hs1, ← hs2, ← hs3]
        clear hs1 hs2 hs3
        unfold vres
        have z0 : okW 0 = true := by decide
        have e : ok4 0 s1 s2 s3 = ok3 s1 s2 s3 := by unfold ok4 ok3; rw [z0]; rfl
        unfold qres at T
        rw [e] at T
        cases hs : ok3 s1 s2 s3
        · rw [hs] at T
          exact turn_yes a b c d x y z 0 0 0 0 0 0 0 2 w rfl hz Q V (fun g w' hg => cmpOr2 _ _ _ g w' hg rfl) T
        · rw [hs] at T
          exact turn_yes a b c d x y z 0 0 0 0 s1 s2 s3 0 w rfl hz Q V (fun g w' hg => cmpOr2 _ _ _ g w' hg rfl) T
theorem turnR_shape (a b c d x y z : Int) : ∃ s0 s1 s2 e : Int, turnR a b c d x y z = .tuple #[.agg #[.int .i64 s0, .int .i64 s1, .int .i64 s2], .int .i64 e] := by
  unfold turnR
  split
  · split
    · exact ⟨_, _, _, _, rfl⟩
    · exact vres_shape _ _ _
  · exact ⟨_, _, _, _, rfl⟩
end Go.Proofs.YtmbdcgijjpcppaaGreat

namespace Go.Proofs.YtmbdcgijjpcppaaGreat
open Go.RowKit Go.Shelf

set_option maxRecDepth 20000 in
set_option maxHeartbeats 8000000 in
theorem qTurn_raw (a b c d x y z E1 E2 E3 ee : Int) (w : World)
    (HF : Hid (∀ w', Calls Tryz.prog 101 #[.agg #[.int .i64 a, .int .i64 b, .int .i64 c, .int .i64 d]] w' fun e w'' => e = .returned (.agg #[.int .i64 a, .int .i64 b, .int .i64 c, .int .i64 d]) ∧ Ext w' w''))
    (HT : Hid (∀ w', Calls Tryz.prog 100 #[.agg #[.int .i64 a, .int .i64 b, .int .i64 c, .int .i64 d], .agg #[.int .i64 x, .int .i64 y, .int .i64 z]] w' fun e w'' => e = .returned (.tuple #[.agg #[.int .i64 E1, .int .i64 E2, .int .i64 E3], .int .i64 ee]) ∧ Ext w' w'')) :
    Calls Tryz.prog 56 #[.agg #[.int .i64 a, .int .i64 b, .int .i64 c, .int .i64 d], .agg #[.int .i64 x, .int .i64 y, .int .i64 z]] w fun e w' => e = .returned (.tuple #[.agg #[.int .i64 E1, .int .i64 E2, .int .i64 E3], .int .i64 ee]) ∧ Ext w w' := by
  have QB : Hid (H4 (((w.alloc (.cells #[.int .i64 a, .int .i64 b, .int .i64 c, .int .i64 d] 24)).alloc (.cells #[.int .i64 x, .int .i64 y, .int .i64 z] 28)).alloc (.cells #[.int .i64 0, .int .i64 0, .int .i64 0] 28)) w.heap.size (.int .i64 a) (.int .i64 b) (.int .i64 c) (.int .i64 d)) := H4.alloc (H4.alloc (h4_at rfl) _) _
  have VB : Hid (H3 (((w.alloc (.cells #[.int .i64 a, .int .i64 b, .int .i64 c, .int .i64 d] 24)).alloc (.cells #[.int .i64 x, .int .i64 y, .int .i64 z] 28)).alloc (.cells #[.int .i64 0, .int .i64 0, .int .i64 0] 28)) (w.heap.size + 1) (.int .i64 x) (.int .i64 y) (.int .i64 z)) := H3.alloc (h3_at (by simp)) _
  have RB : Hid (H3 (((w.alloc (.cells #[.int .i64 a, .int .i64 b, .int .i64 c, .int .i64 d] 24)).alloc (.cells #[.int .i64 x, .int .i64 y, .int .i64 z] 28)).alloc (.cells #[.int .i64 0, .int .i64 0, .int .i64 0] 28)) (w.heap.size + 1 + 1) (.int .i64 0) (.int .i64 0) (.int .i64 0)) := h3_at (by simp)
  have XB : Ext w (((w.alloc (.cells #[.int .i64 a, .int .i64 b, .int .i64 c, .int .i64 d] 24)).alloc (.cells #[.int .i64 x, .int .i64 y, .int .i64 z] 28)).alloc (.cells #[.int .i64 0, .int .i64 0, .int .i64 0] 28)) := (((Ext.refl _).alloc _).alloc _).alloc _
  obtain ⟨s0, s1, s2, s3, s4, s5, s6, s7, s8⟩ := QB.out
  obtain ⟨t0, t1, t2, t3, t4, t5, t6⟩ := VB.out
  obtain ⟨r0, r1, r2, r3, r4, r5, r6⟩ := RB.out
  have ne1 : w.heap.size ≠ w.heap.size + 1 + 1 := by omega
  have ne2 : w.heap.size + 1 + 1 ≠ w.heap.size := by omega
  have ne3 : w.heap.size + 1 ≠ w.heap.size + 1 + 1 := by omega
  have ne4 : w.heap.size + 1 + 1 ≠ w.heap.size + 1 := by omega
  go_enter Tryz.func56, Tryz.ntmps56
  go_upto_region 1 with fail
  generalize (((w.alloc (.cells #[.int .i64 a, .int .i64 b, .int .i64 c, .int .i64 d] 24)).alloc (.cells #[.int .i64 x, .int .i64 y, .int .i64 z] 28)).alloc (.cells #[.int .i64 0, .int .i64 0, .int .i64 0] 28)) = wB at *
  go_region_held (fun w' => w'.cell? ⟨w.heap.size, 0, none⟩ = some (.int .i64 a) ∧ w'.cell? ⟨w.heap.size, 1, none⟩ = some (.int .i64 b) ∧ w'.cell? ⟨w.heap.size, 2, none⟩ = some (.int .i64 c) ∧ w'.cell? ⟨w.heap.size, 3, none⟩ = some (.int .i64 d) ∧ w'.cell? ⟨w.heap.size + 1, 0, none⟩ = some (.int .i64 x) ∧ w'.cell? ⟨w.heap.size + 1, 1, none⟩ = some (.int .i64 y) ∧ w'.cell? ⟨w.heap.size + 1, 2, none⟩ = some (.int .i64 z)) (first | (go_keep; done) | skip) (first | (go_at_call 101; refine (HF.out _).mono ?_; rintro e w1 ⟨rfl, x1⟩; have y1 : Ext wB w1 := Ext.trans (by repeat (first | with_reducible assumption | with_reducible exact Ext.refl _ | with_reducible refine Ext.drew ?_ | with_reducible refine Ext.drewN ?_ _ | with_reducible refine Ext.alloc ?_ _ | with_reducible refine Ext.set ?_ (by first | exact Nat.le_refl _ | (dsimp only; omega) | (simp; done)) _)) x1; obtain ⟨s0, s1, s2, s3, s4, s5, s6, s7, s8⟩ := QB.out.ext y1; obtain ⟨t0, t1, t2, t3, t4, t5, t6⟩ := VB.out.ext y1; obtain ⟨r0, r1, r2, r3, r4, r5, r6⟩ := RB.out.ext y1) | (go_at_call 100; refine (HT.out _).mono ?_; rintro e w2 ⟨rfl, x2⟩; have y2 : Ext wB w2 := Ext.trans (by repeat (first | with_reducible assumption | with_reducible exact Ext.refl _ | with_reducible refine Ext.drew ?_ | with_reducible refine Ext.drewN ?_ _ | with_reducible refine Ext.alloc ?_ _ | with_reducible refine Ext.set ?_ (by first | exact Nat.le_refl _ | (dsimp only; omega) | (simp; done)) _)) x2; obtain ⟨s0, s1, s2, s3, s4, s5, s6, s7, s8⟩ := QB.out.ext y2; obtain ⟨t0, t1, t2, t3, t4, t5, t6⟩ := VB.out.ext y2; obtain ⟨r0, r1, r2, r3, r4, r5, r6⟩ := RB.out.ext y2))
  all_goals
    have X3 : Ext w w2 := XB.trans y2
    obtain ⟨r0, r1, r2, r3, r4, r5, r6⟩ := RB.out.ext y2
    go_wp2_with fail
    exact bodyPost_ret (v := .tuple #[.agg #[.int .i64 E1, .int .i64 E2, .int .i64 E3], .int .i64 ee]) (by simp [results, Tryz.results56, go_sem, r0, r1, r2]) rfl ⟨rfl, by repeat (first | with_reducible assumption | with_reducible exact Ext.refl _ | with_reducible refine Ext.drew ?_ | with_reducible refine Ext.drewN ?_ _ | with_reducible refine Ext.alloc ?_ _ | with_reducible refine Ext.set ?_ (by first | exact Nat.le_refl _ | (dsimp only; omega) | (simp; done)) _)⟩

set_option maxRecDepth 20000 in
set_option maxHeartbeats 8000000 in
theorem qBack_raw (a b c d x y z nb nc nd E1 E2 E3 ee : Int) (w : World)
    (HF : Hid (∀ w', Calls Tryz.prog 101 #[.agg #[.int .i64 a, .int .i64 b, .int .i64 c, .int .i64 d]] w' fun e w'' => e = .returned (.agg #[.int .i64 a, .int .i64 b, .int .i64 c, .int .i64 d]) ∧ Ext w' w''))
    (HC : Hid (∀ w', Calls Tryz.prog 125 #[.agg #[.int .i64 a, .int .i64 b, .int .i64 c, .int .i64 d]] w' fun e w'' => e = .returned (.agg #[.int .i64 a, .int .i64 nb, .int .i64 nc, .int .i64 nd]) ∧ Ext w' w''))
    (HT : Hid (∀ w', Calls Tryz.prog 100 #[.agg #[.int .i64 a, .int .i64 nb, .int .i64 nc, .int .i64 nd], .agg #[.int .i64 x, .int .i64 y, .int .i64 z]] w' fun e w'' => e = .returned (.tuple #[.agg #[.int .i64 E1, .int .i64 E2, .int .i64 E3], .int .i64 ee]) ∧ Ext w' w'')) :
    Calls Tryz.prog 95 #[.agg #[.int .i64 a, .int .i64 b, .int .i64 c, .int .i64 d], .agg #[.int .i64 x, .int .i64 y, .int .i64 z]] w fun e w' => e = .returned (.tuple #[.agg #[.int .i64 E1, .int .i64 E2, .int .i64 E3], .int .i64 ee]) ∧ Ext w w' := by
  have QB : Hid (H4 (((w.alloc (.cells #[.int .i64 a, .int .i64 b, .int .i64 c, .int .i64 d] 24)).alloc (.cells #[.int .i64 x, .int .i64 y, .int .i64 z] 28)).alloc (.cells #[.int .i64 0, .int .i64 0, .int .i64 0] 28)) w.heap.size (.int .i64 a) (.int .i64 b) (.int .i64 c) (.int .i64 d)) := H4.alloc (H4.alloc (h4_at rfl) _) _
  have VB : Hid (H3 (((w.alloc (.cells #[.int .i64 a, .int .i64 b, .int .i64 c, .int .i64 d] 24)).alloc (.cells #[.int .i64 x, .int .i64 y, .int .i64 z] 28)).alloc (.cells #[.int .i64 0, .int .i64 0, .int .i64 0] 28)) (w.heap.size + 1) (.int .i64 x) (.int .i64 y) (.int .i64 z)) := H3.alloc (h3_at (by simp)) _
  have RB : Hid (H3 (((w.alloc (.cells #[.int .i64 a, .int .i64 b, .int .i64 c, .int .i64 d] 24)).alloc (.cells #[.int .i64 x, .int .i64 y, .int .i64 z] 28)).alloc (.cells #[.int .i64 0, .int .i64 0, .int .i64 0] 28)) (w.heap.size + 1 + 1) (.int .i64 0) (.int .i64 0) (.int .i64 0)) := h3_at (by simp)
  have XB : Ext w (((w.alloc (.cells #[.int .i64 a, .int .i64 b, .int .i64 c, .int .i64 d] 24)).alloc (.cells #[.int .i64 x, .int .i64 y, .int .i64 z] 28)).alloc (.cells #[.int .i64 0, .int .i64 0, .int .i64 0] 28)) := (((Ext.refl _).alloc _).alloc _).alloc _
  obtain ⟨s0, s1, s2, s3, s4, s5, s6, s7, s8⟩ := QB.out
  obtain ⟨t0, t1, t2, t3, t4, t5, t6⟩ := VB.out
  obtain ⟨r0, r1, r2, r3, r4, r5, r6⟩ := RB.out
  have ne1 : w.heap.size ≠ w.heap.size + 1 + 1 := by omega
  have ne2 : w.heap.size + 1 + 1 ≠ w.heap.size := by omega
  have ne3 : w.heap.size + 1 ≠ w.heap.size + 1 + 1 := by omega
  have ne4 : w.heap.size + 1 + 1 ≠ w.heap.size + 1 := by omega
  go_enter Tryz.func95, Tryz.ntmps95
  go_upto_region 1 with fail
  generalize (((w.alloc (.cells #[.int .i64 a, .int .i64 b, .int .i64 c, .int .i64 d] 24)).alloc (.cells #[.int .i64 x, .int .i64 y, .int .i64 z] 28)).alloc (.cells #[.int .i64 0, .int .i64 0, .int .i64 0] 28)) = wB at *
  go_region_held (fun w' => w'.cell? ⟨w.heap.size, 0, none⟩ = some (.int .i64 a) ∧ w'.cell? ⟨w.heap.size, 1, none⟩ = some (.int .i64 b) ∧ w'.cell? ⟨w.heap.size, 2, none⟩ = some (.int .i64 c) ∧ w'.cell? ⟨w.heap.size, 3, none⟩ = some (.int .i64 d) ∧ w'.cell? ⟨w.heap.size + 1, 0, none⟩ = some (.int .i64 x) ∧ w'.cell? ⟨w.heap.size + 1, 1, none⟩ = some (.int .i64 y) ∧ w'.cell? ⟨w.heap.size + 1, 2, none⟩ = some (.int .i64 z)) (first | (go_keep; done) | skip) (first | (go_at_call 101; refine (HF.out _).mono ?_; rintro e w1 ⟨rfl, x1⟩; have y1 : Ext wB w1 := Ext.trans (by repeat (first | with_reducible assumption | with_reducible exact Ext.refl _ | with_reducible refine Ext.drew ?_ | with_reducible refine Ext.drewN ?_ _ | with_reducible refine Ext.alloc ?_ _ | with_reducible refine Ext.set ?_ (by first | exact Nat.le_refl _ | (dsimp only; omega) | (simp; done)) _)) x1; obtain ⟨s0, s1, s2, s3, s4, s5, s6, s7, s8⟩ := QB.out.ext y1; obtain ⟨t0, t1, t2, t3, t4, t5, t6⟩ := VB.out.ext y1; obtain ⟨r0, r1, r2, r3, r4, r5, r6⟩ := RB.out.ext y1) | (go_at_call 125; refine (HC.out _).mono ?_; rintro e w2 ⟨rfl, x2⟩; have y2 : Ext wB w2 := Ext.trans (by repeat (first | with_reducible assumption | with_reducible exact Ext.refl _ | with_reducible refine Ext.drew ?_ | with_reducible refine Ext.drewN ?_ _ | with_reducible refine Ext.alloc ?_ _ | with_reducible refine Ext.set ?_ (by first | exact Nat.le_refl _ | (dsimp only; omega) | (simp; done)) _)) x2; obtain ⟨s0, s1, s2, s3, s4, s5, s6, s7, s8⟩ := QB.out.ext y2; obtain ⟨t0, t1, t2, t3, t4, t5, t6⟩ := VB.out.ext y2; obtain ⟨r0, r1, r2, r3, r4, r5, r6⟩ := RB.out.ext y2) | (go_at_call 100; refine (HT.out _).mono ?_; rintro e w3 ⟨rfl, x3⟩; have y3 : Ext wB w3 := Ext.trans (by repeat (first | with_reducible assumption | with_reducible exact Ext.refl _ | with_reducible refine Ext.drew ?_ | with_reducible refine Ext.drewN ?_ _ | with_reducible refine Ext.alloc ?_ _ | with_reducible refine Ext.set ?_ (by first | exact Nat.le_refl _ | (dsimp only; omega) | (simp; done)) _)) x3; obtain ⟨s0, s1, s2, s3, s4, s5, s6, s7, s8⟩ := QB.out.ext y3; obtain ⟨t0, t1, t2, t3, t4, t5, t6⟩ := VB.out.ext y3; obtain ⟨r0, r1, r2, r3, r4, r5, r6⟩ := RB.out.ext y3))
  all_goals
    have X3 : Ext w w3 := XB.trans y3
    obtain ⟨r0, r1, r2, r3, r4, r5, r6⟩ := RB.out.ext y3
    go_wp2_with fail
    exact bodyPost_ret (v := .tuple #[.agg #[.int .i64 E1, .int .i64 E2, .int .i64 E3], .int .i64 ee]) (by simp [results, Tryz.results95, go_sem, r0, r1, r2]) rfl ⟨rfl, by repeat (first | with_reducible assumption | with_reducible exact Ext.refl _ | with_reducible refine Ext.drew ?_ | with_reducible refine Ext.drewN ?_ _ | with_reducible refine Ext.alloc ?_ _ | with_reducible refine Ext.set ?_ (by first | exact Nat.le_refl _ | (dsimp only; omega) | (simp; done)) _)⟩

theorem qTurn_any (a b c d x y z : Int) (w : World) :
    Calls Tryz.prog 56 #[.agg #[.int .i64 a, .int .i64 b, .int .i64 c, .int .i64 d], .agg #[.int .i64 x, .int .i64 y, .int .i64 z]] w fun e w' => e = .returned (turnR a b c d x y z) ∧ Ext w w' := by
  have T := qturn_any a b c d x y z
  obtain ⟨s0, s1, s2, e, he⟩ := turnR_shape a b c d x y z
  rw [he] at T ⊢
  exact qTurn_raw a b c d x y z s0 s1 s2 e w (qof_any a b c d) T
theorem qBack_any (a b c d x y z : Int) (w : World) :
    Calls Tryz.prog 95 #[.agg #[.int .i64 a, .int .i64 b, .int .i64 c, .int .i64 d], .agg #[.int .i64 x, .int .i64 y, .int .i64 z]] w fun e w' => e = .returned (turnR a (wrap64 (-b)) (wrap64 (-c)) (wrap64 (-d)) x y z) ∧ Ext w w' := by
  have T := qturn_any a (wrap64 (-b)) (wrap64 (-c)) (wrap64 (-d)) x y z
  obtain ⟨s0, s1, s2, e, he⟩ := turnR_shape a (wrap64 (-b)) (wrap64 (-c)) (wrap64 (-d)) x y z
  rw [he] at T ⊢
  exact qBack_raw a b c d x y z _ _ _ s0 s1 s2 e w (qof_any a b c d) (qconj_any a b c d) T

def conjR (a b c d : Int) : Value := if ok4 a b c d then .tuple #[.agg #[.int .i64 a, .int .i64 (-b), .int .i64 (-c), .int .i64 (-d)], .int .i64 0] else .tuple #[.agg #[.int .i64 0, .int .i64 0, .int .i64 0, .int .i64 0], .int .i64 1]
end Go.Proofs.YtmbdcgijjpcppaaGreat

namespace Go.Proofs.YtmbdcgijjpcppaaGreat
open Go.RowKit Go.Shelf
/-- a product of an orientation and (0, v), number by number -/
def xp0 (b c d x y z : Int) : Int := -b * x - c * y - d * z
def xp1 (a c d x y z : Int) : Int := a * x + c * z - d * y
def xp2 (a b d x y z : Int) : Int := a * y - b * z + d * x
def xp3 (a b c x y z : Int) : Int := a * z + b * y - c * x
def half (p : Int) : Int := nearI p 2147483648
theorem okO_abs {a b c d : Int} (h : okO a b c d = true) : (-1073741828 ≤ a ∧ a ≤ 1073741828) ∧ (-1073741828 ≤ b ∧ b ≤ 1073741828) ∧ (-1073741828 ≤ c ∧ c ≤ 1073741828) ∧ (-1073741828 ≤ d ∧ d ≤ 1073741828) := by
  have := okO_iff.1 h
  omega
theorem rad3_abs {x y z : Int} (h : rad3 x y z = true) : (-1073741824 ≤ x ∧ x ≤ 1073741824) ∧ (-1073741824 ≤ y ∧ y ≤ 1073741824) ∧ (-1073741824 ≤ z ∧ z ≤ 1073741824) := by
  unfold rad3 at h
  simp only [Bool.and_eq_true, rad_iff] at h
  omega
theorem pr_le {a x : Int} (h : -1073741828 ≤ a ∧ a ≤ 1073741828) (k : -1073741824 ≤ x ∧ x ≤ 1073741824) : -1152921508901814272 ≤ a * x ∧ a * x ≤ 1152921508901814272 := by
  have := mul_le_of h.1 h.2 k.1 k.2
  omega
theorem exprod_any (a b c d x y z : Int) (w : World) (h : okO a b c d = true) (k : rad3 x y z = true) :
    Calls Tryz.prog 92 #[.agg #[.int .i64 a, .int .i64 b, .int .i64 c, .int .i64 d], .agg #[.int .i64 x, .int .i64 y, .int .i64 z]] w fun e w' => e = .returned (.agg #[.int .i64 (xp0 b c d x y z), .int .i64 (xp1 a c d x y z), .int .i64 (xp2 a b d x y z), .int .i64 (xp3 a b c x y z)]) ∧ Ext w w' := by
  obtain ⟨ha, hb, hc, hd⟩ := okO_abs h
  obtain ⟨hx, hy, hz⟩ := rad3_abs k
  have hn : -1073741828 ≤ -b ∧ -b ≤ 1073741828 := by omega
  have q0 := pr_le hn hx; have q1 := pr_le hc hy; have q2 := pr_le hd hz
  have q3 := pr_le ha hx; have q4 := pr_le hc hz; have q5 := pr_le hd hy
  have q6 := pr_le ha hy; have q7 := pr_le hb hz; have q8 := pr_le hd hx
  have q9 := pr_le ha hz; have q10 := pr_le hb hy; have q11 := pr_le hc hx
  exact exprod_raw a b c d x y z (-b) _ _ _ _ _ _ _ _ _ _ _ _ w rfl hn.1 hn.2 rfl rfl rfl rfl rfl rfl rfl rfl rfl rfl rfl rfl q0.1 q0.2 q1.1 q1.2 q2.1 q2.2 q3.1 q3.2 q4.1 q4.2 q5.1 q5.2 q6.1 q6.2 q7.1 q7.2 q8.1 q8.2 q9.1 q9.2 q10.1 q10.2 q11.1 q11.2
theorem xp_le {a b c d x y z : Int} (h : okO a b c d = true) (k : rad3 x y z = true) :
    (-3458764526705442816 ≤ xp0 b c d x y z ∧ xp0 b c d x y z ≤ 3458764526705442816) ∧ (-3458764526705442816 ≤ xp1 a c d x y z ∧ xp1 a c d x y z ≤ 3458764526705442816) ∧ (-3458764526705442816 ≤ xp2 a b d x y z ∧ xp2 a b d x y z ≤ 3458764526705442816) ∧ (-3458764526705442816 ≤ xp3 a b c x y z ∧ xp3 a b c x y z ≤ 3458764526705442816) := by
  obtain ⟨ha, hb, hc, hd⟩ := okO_abs h
  obtain ⟨hx, hy, hz⟩ := rad3_abs k
  have hn : -1073741828 ≤ -b ∧ -b ≤ 1073741828 := by omega
  have q0 := pr_le hn hx; have q1 := pr_le hc hy; have q2 := pr_le hd hz
  have q3 := pr_le ha hx; have q4 := pr_le hc hz; have q5 := pr_le hd hy
  have q6 := pr_le ha hy; have q7 := pr_le hb hz; have q8 := pr_le hd hx
  have q9 := pr_le ha hz; have q10 := pr_le hb hy; have q11 := pr_le hc hx
  unfold xp0 xp1 xp2 xp3
  omega
theorem half_le {p : Int} (h : -3458764526705442816 ≤ p ∧ p ≤ 3458764526705442816) : -1610612742 ≤ half p ∧ half p ≤ 1610612742 := near_abs (by decide) (by omega) (by omega)
theorem half_any (p : Int) (w : World) (h : -3458764526705442816 ≤ p ∧ p ≤ 3458764526705442816) :
    Calls Tryz.prog 93 #[.int .i64 p, .int .i64 2147483648] w fun e w' => e = .returned (.tuple #[.int .i64 (half p), .int .i64 0]) ∧ Ext w w' := by
  have H := ratio_any p 2147483648 w (by omega) (by omega) (by omega) (by omega)
  have hl := half_le h
  have e : shareR p 1 2147483648 = (half p, 0) := by
    rw [share_word p 1 2147483648 (half p) (by omega) (by rw [over_pos _ _ (by omega), Int.mul_one]; exact nearI_spec p 2147483648 (by decide)), okW_of (by omega) (by omega)]
    rfl
  rw [e] at H
  exact H
/-- the four numbers of which Spin makes a unit -/
def sp0 (a b c d x y z : Int) : Int := a + half (xp0 b c d x y z)
def sp1 (a b c d x y z : Int) : Int := b + half (xp1 a c d x y z)
def sp2 (a b c d x y z : Int) : Int := c + half (xp2 a b d x y z)
def sp3 (a b c d x y z : Int) : Int := d + half (xp3 a b c x y z)
theorem sp_le {a b c d x y z : Int} (h : okO a b c d = true) (k : rad3 x y z = true) :
    (-2684354570 ≤ sp0 a b c d x y z ∧ sp0 a b c d x y z ≤ 2684354570) ∧ (-2684354570 ≤ sp1 a b c d x y z ∧ sp1 a b c d x y z ≤ 2684354570) ∧ (-2684354570 ≤ sp2 a b c d x y z ∧ sp2 a b c d x y z ≤ 2684354570) ∧ (-2684354570 ≤ sp3 a b c d x y z ∧ sp3 a b c d x y z ≤ 2684354570) := by
  obtain ⟨ha, hb, hc, hd⟩ := okO_abs h
  obtain ⟨e0, e1, e2, e3⟩ := xp_le h k
  have h0 := half_le e0; have h1 := half_le e1; have h2 := half_le e2; have h3 := half_le e3
  unfold sp0 sp1 sp2 sp3
  omega
theorem ok4_of {a b c d : Int} (ha : -35184372088832 < a ∧ a < 35184372088832) (hb : -35184372088832 < b ∧ b < 35184372088832) (hc : -35184372088832 < c ∧ c < 35184372088832) (hd : -35184372088832 < d ∧ d < 35184372088832) : ok4 a b c d = true := by
  unfold ok4; rw [okW_of ha.1 ha.2, okW_of hb.1 hb.2, okW_of hc.1 hc.2, okW_of hd.1 hd.2]; rfl
theorem ok3_of {a b c : Int} (ha : -35184372088832 < a ∧ a < 35184372088832) (hb : -35184372088832 < b ∧ b < 35184372088832) (hc : -35184372088832 < c ∧ c < 35184372088832) : ok3 a b c = true := by
  unfold ok3; rw [okW_of ha.1 ha.2, okW_of hb.1 hb.2, okW_of hc.1 hc.2]; rfl
/-- what lies across q, rounded, doesn't take q away -/
theorem move_zero {a b c d t0 t1 t2 t3 p0 p1 p2 p3 D : Int} (h : okO a b c d = true) (hD : 0 < D) (hp : a * p0 + b * p1 + c * p2 + d * p3 = 0)
    (h0 : -D ≤ 2 * (D * t0 - D * a - p0) ∧ 2 * (D * t0 - D * a - p0) ≤ D) (h1 : -D ≤ 2 * (D * t1 - D * b - p1) ∧ 2 * (D * t1 - D * b - p1) ≤ D) (h2 : -D ≤ 2 * (D * t2 - D * c - p2) ∧ 2 * (D * t2 - D * c - p2) ≤ D) (h3 : -D ≤ 2 * (D * t3 - D * d - p3) ∧ 2 * (D * t3 - D * d - p3) ≤ D) :
    ¬ (t0 = 0 ∧ t1 = 0 ∧ t2 = 0 ∧ t3 = 0) := by
  rintro ⟨rfl, rfl, rfl, rfl⟩
  have hO := okO_iff.1 h
  obtain ⟨ha, hb, hc, hd, hs, _⟩ := hO
  have e : a * (2 * (D * 0 - D * a - p0)) + b * (2 * (D * 0 - D * b - p1)) + c * (2 * (D * 0 - D * c - p2)) + d * (2 * (D * 0 - D * d - p3)) = -(D * (2 * (a * a + b * b + c * c + d * d))) := by grind
  have m0 := mul_le_of ha.1 ha.2 h0.1 h0.2
  have m1 := mul_le_of hb.1 hb.2 h1.1 h1.2
  have m2 := mul_le_of hc.1 hc.2 h2.1 h2.2
  have m3 := mul_le_of hd.1 hd.2 h3.1 h3.2
  have g : D * 2305842992033824800 ≤ D * (2 * (a * a + b * b + c * c + d * d)) := Int.mul_le_mul_of_nonneg_left (by omega) (by omega)
  omega
theorem sp_zero {a b c d x y z : Int} (h : okO a b c d = true) : ¬ (sp0 a b c d x y z = 0 ∧ sp1 a b c d x y z = 0 ∧ sp2 a b c d x y z = 0 ∧ sp3 a b c d x y z = 0) := by
  have n0 := nearI_spec (xp0 b c d x y z) 2147483648 (by decide)
  have n1 := nearI_spec (xp1 a c d x y z) 2147483648 (by decide)
  have n2 := nearI_spec (xp2 a b d x y z) 2147483648 (by decide)
  have n3 := nearI_spec (xp3 a b c x y z) 2147483648 (by decide)
  refine move_zero (p0 := xp0 b c d x y z) (p1 := xp1 a c d x y z) (p2 := xp2 a b d x y z) (p3 := xp3 a b c x y z) (D := 2147483648) h (by decide) (by unfold xp0 xp1 xp2 xp3; grind) ?_ ?_ ?_ ?_
  · obtain ⟨g1, g2, _⟩ := n0; unfold sp0 half; omega
  · obtain ⟨g1, g2, _⟩ := n1; unfold sp1 half; omega
  · obtain ⟨g1, g2, _⟩ := n2; unfold sp2 half; omega
  · obtain ⟨g1, g2, _⟩ := n3; unfold sp3 half; omega
theorem qunit_told {a b c d u0 u1 u2 u3 : Int} (w : World) (h : ok4 a b c d = true) (hz : ¬ (a = 0 ∧ b = 0 ∧ c = 0 ∧ d = 0)) (hu : UnitQ a b c d u0 u1 u2 u3) :
    Calls Tryz.prog 61 #[.agg #[.int .i64 a, .int .i64 b, .int .i64 c, .int .i64 d]] w fun e w' => e = .returned (.tuple #[.agg #[.int .i64 u0, .int .i64 u1, .int .i64 u2, .int .i64 u3], .int .i64 0]) ∧ Ext w w' := by
  obtain ⟨k0, k1, k2, k3, q0, q1, q2, q3, rfl, rfl, rfl, rfl⟩ := hu
  exact qUnit_yes a b c d k0 k1 k2 k3 w h hz q0 q1 q2 q3
/-- what Spin tells, by the angle (x, y, z) -/
def SpinD (a b c d x y z u0 u1 u2 u3 : Int) : Prop := UnitQ (sp0 a b c d x y z) (sp1 a b c d x y z) (sp2 a b c d x y z) (sp3 a b c d x y z) u0 u1 u2 u3
theorem spinD_ex {a b c d : Int} (x y z : Int) (h : okO a b c d = true) : ∃ u0 u1 u2 u3, SpinD a b c d x y z u0 u1 u2 u3 := unitq_ex (sp_zero h)
theorem spinD_ok {a b c d x y z u0 u1 u2 u3 : Int} (h : okO a b c d = true) (hu : SpinD a b c d x y z u0 u1 u2 u3) : okO u0 u1 u2 u3 = true := unitq_okO (sp_zero h) hu
theorem chkO_y {a b c d : Int} (h : okO a b c d = true) : chkO a b c d = 0 := by unfold chkO; rw [if_pos h]
theorem chkO_n {a b c d : Int} (h : okO a b c d = false) : chkO a b c d = 1 := by unfold chkO; rw [if_neg (by rw [h]; decide)]
theorem spin_told {a b c d x y z n u0 u1 u2 u3 : Int} (w : World) (h : okO a b c d = true) (k : ok3 x y z = true) (ht : tck n = true) (hr : rad3 (n * x) (n * y) (n * z) = true) (hu : SpinD a b c d (n * x) (n * y) (n * z) u0 u1 u2 u3) :
    Calls Tryz.prog 12 #[.agg #[.int .i64 a, .int .i64 b, .int .i64 c, .int .i64 d], .agg #[.int .i64 x, .int .i64 y, .int .i64 z], .int .i64 n] w fun e w' => e = .returned (.tuple #[.agg #[.int .i64 u0, .int .i64 u1, .int .i64 u2, .int .i64 u3], .int .i64 0]) ∧ Ext w w' := by
  have K := fun w' => fCheck_any a b c d w'
  rw [chkO_y h] at K
  have V := fun w' => vCheck_any x y z w'
  rw [chk3_yes k] at V
  have T := fun w' => isticks_any n w'
  rw [ht] at T
  obtain ⟨rx, ry, rz⟩ := rad3_abs hr
  have A := fun w' => angle_any n x y z _ _ _ w' rfl rfl rfl (by omega) (by omega) (by omega) (by omega) (by omega) (by omega)
  have S := fun w' => isspin_any (n * x) (n * y) (n * z) w'
  rw [hr] at S
  obtain ⟨l0, l1, l2, l3⟩ := sp_le h hr
  obtain ⟨e0, e1, e2, e3⟩ := xp_le h hr
  refine spin_good a b c d x y z n (n * x) (n * y) (n * z) u0 u1 u2 u3 0 w K V T A S (fun w' => ?_)
  refine stepSpun a b c d (n * x) (n * y) (n * z) (sp0 a b c d (n * x) (n * y) (n * z)) (sp1 a b c d (n * x) (n * y) (n * z)) (sp2 a b c d (n * x) (n * y) (n * z)) (sp3 a b c d (n * x) (n * y) (n * z)) u0 u1 u2 u3 0 w' (fun w' => ?_) (fun w' => ?_)
  · exact spun_raw a b c d (n * x) (n * y) (n * z) _ _ _ _ _ _ _ _ _ _ _ _ w' (fun w' => numbersOf_any a b c d w') (fun w' => exprod_any a b c d _ _ _ w' h hr) (fun w' => half_any _ w' e0) (fun w' => half_any _ w' e1) (fun w' => half_any _ w' e2) (fun w' => half_any _ w' e3) rfl (by omega) (by omega) rfl (by omega) (by omega) rfl (by omega) (by omega) rfl (by omega) (by omega)
  · exact qunit_told w' (ok4_of (by omega) (by omega) (by omega) (by omega)) (sp_zero h) hu
theorem spin_form {a b c d x y z n : Int} (w : World) (h : (okO a b c d && ok3 x y z && tck n) = false) :
    Calls Tryz.prog 12 #[.agg #[.int .i64 a, .int .i64 b, .int .i64 c, .int .i64 d], .agg #[.int .i64 x, .int .i64 y, .int .i64 z], .int .i64 n] w fun e w' => e = .returned (.tuple #[.agg #[.int .i64 0, .int .i64 0, .int .i64 0, .int .i64 0], .int .i64 1]) ∧ Ext w w' := by
  have K := fun w' => fCheck_any a b c d w'
  have V := fun w' => vCheck_any x y z w'
  have T := fun w' => isticks_any n w'
  cases h1 : okO a b c d
  · rw [chkO_n h1] at K
    exact spin_bad0 a b c d x y z n w K
  · rw [chkO_y h1] at K
    cases h2 : ok3 x y z
    · rw [chk3_no h2] at V
      exact spin_bad1 a b c d x y z n w K V
    · rw [chk3_yes h2] at V
      rw [h1, h2] at h
      have h3 : tck n = false := by simpa using h
      rw [h3] at T
      exact spin_bad2 a b c d x y z n w K V T
theorem spin_range {a b c d x y z n : Int} (w : World) (h : okO a b c d = true) (k : ok3 x y z = true) (ht : tck n = true) (hr : rad3 (n * x) (n * y) (n * z) = false) :
    Calls Tryz.prog 12 #[.agg #[.int .i64 a, .int .i64 b, .int .i64 c, .int .i64 d], .agg #[.int .i64 x, .int .i64 y, .int .i64 z], .int .i64 n] w fun e w' => e = .returned (.tuple #[.agg #[.int .i64 0, .int .i64 0, .int .i64 0, .int .i64 0], .int .i64 2]) ∧ Ext w w' := by
  have K := fun w' => fCheck_any a b c d w'
  rw [chkO_y h] at K
  have V := fun w' => vCheck_any x y z w'
  rw [chk3_yes k] at V
  have T := fun w' => isticks_any n w'
  rw [ht] at T
  obtain ⟨g0, g1, g2⟩ := ok3_parts k
  have b0 := okW_bounds g0; have b1 := okW_bounds g1; have b2 := okW_bounds g2
  have hn := tck_iff.1 ht
  have m0 := mul_le_of (a := n) (A := 1000) (b := x) (B := 35184372088832) (by omega) (by omega) (by omega) (by omega)
  have m1 := mul_le_of (a := n) (A := 1000) (b := y) (B := 35184372088832) (by omega) (by omega) (by omega) (by omega)
  have m2 := mul_le_of (a := n) (A := 1000) (b := z) (B := 35184372088832) (by omega) (by omega) (by omega) (by omega)
  have A := fun w' => angle_any n x y z _ _ _ w' rfl rfl rfl (by omega) (by omega) (by omega) (by omega) (by omega) (by omega)
  have S := fun w' => isspin_any (n * x) (n * y) (n * z) w'
  rw [hr] at S
  exact spin_far a b c d x y z n (n * x) (n * y) (n * z) w K V T A S
/-- what an orientation shows as up -/
def sh0 (a b c d : Int) : Int := nearI (tnx a (-b) (-c) (-d) 0 0 1073741824) (sq4 a b c d)
def sh1 (a b c d : Int) : Int := nearI (tny a (-b) (-c) (-d) 0 0 1073741824) (sq4 a b c d)
def sh2 (a b c d : Int) : Int := nearI (tnz a (-b) (-c) (-d) 0 0 1073741824) (sq4 a b c d)
theorem wneg {b : Int} (h : -1073741828 ≤ b ∧ b ≤ 1073741828) : wrap64 (-b) = -b := wrap_neg (okW_of (by omega) (by omega))
theorem sh_le {a b c d : Int} (h : okO a b c d = true) : (-1073741824 ≤ sh0 a b c d ∧ sh0 a b c d ≤ 1073741824) ∧ (-1073741824 ≤ sh1 a b c d ∧ sh1 a b c d ≤ 1073741824) ∧ (-1073741824 ≤ sh2 a b c d ∧ sh2 a b c d ≤ 1073741824) := by
  have hb := tn_bound (a := a) (b := -b) (c := -c) (d := -d) (x := 0) (y := 0) (z := 1073741824) (B := 1073741824) (by decide) (by rw [sq4_conj]; exact sq4_pos (okO_zero h)) (by decide)
  rw [sq4_conj] at hb
  exact hb
theorem back_told {a b c d : Int} (w : World) (h : okO a b c d = true) :
    Calls Tryz.prog 95 #[.agg #[.int .i64 a, .int .i64 b, .int .i64 c, .int .i64 d], .agg #[.int .i64 0, .int .i64 0, .int .i64 1073741824]] w fun e w' => e = .returned (.tuple #[.agg #[.int .i64 (sh0 a b c d), .int .i64 (sh1 a b c d), .int .i64 (sh2 a b c d)], .int .i64 0]) ∧ Ext w w' := by
  have B := qBack_any a b c d 0 0 1073741824 w
  obtain ⟨ha, hb, hc, hd⟩ := okO_abs h
  obtain ⟨l0, l1, l2⟩ := sh_le h
  rw [wneg hb, wneg hc, wneg hd] at B
  have e : turnR a (-b) (-c) (-d) 0 0 1073741824 = .tuple #[.agg #[.int .i64 (sh0 a b c d), .int .i64 (sh1 a b c d), .int .i64 (sh2 a b c d)], .int .i64 0] := by
    have k4 : ok4 a (-b) (-c) (-d) = true := ok4_of (by omega) (by omega) (by omega) (by omega)
    have k3 : ok3 0 0 1073741824 = true := by decide
    have hz := okO_zero h
    unfold turnR
    rw [if_pos (by rw [k4, k3]; rfl), if_neg (by omega), sq4_conj]
    unfold vres
    rw [if_pos (ok3_of (by unfold sh0 at l0; omega) (by unfold sh1 at l1; omega) (by unfold sh2 at l2; omega))]
    rfl
  rw [e] at B
  exact B
theorem vunit_told {x y z m0 m1 m2 : Int} (w : World) (h : ok3 x y z = true) (hz : ¬ (x = 0 ∧ y = 0 ∧ z = 0)) (hu : UnitV x y z m0 m1 m2) :
    Calls Tryz.prog 96 #[.agg #[.int .i64 x, .int .i64 y, .int .i64 z]] w fun e w' => e = .returned (.tuple #[.agg #[.int .i64 m0, .int .i64 m1, .int .i64 m2], .int .i64 0]) ∧ Ext w w' := by
  have hl := unitv_le hz hu
  obtain ⟨k0, k1, k2, q0, q1, q2, rfl, rfl, rfl⟩ := hu
  have H := vUnit_yes x y z k0 k1 k2 w h hz q0 q1 q2
  unfold vres at H
  rw [if_pos (ok3_of (by omega) (by omega) (by omega))] at H
  exact H
/-- how far what is measured (m) and what is shown (s) are off, number by number; and what it is turned by -/
def of0 (m1 m2 s1 s2 : Int) : Int := nearQ (m1 * s2 - m2 * s1)
def lean (o : Int) : Int := nearQ (o * 8388608)
theorem of_le {p q r s : Int} (hp : -1073741824 ≤ p ∧ p ≤ 1073741824) (hq : -1073741824 ≤ q ∧ q ≤ 1073741824) (hr : -1073741824 ≤ r ∧ r ≤ 1073741824) (hs : -1073741824 ≤ s ∧ s ≤ 1073741824) : -2147483648 ≤ of0 p q r s ∧ of0 p q r s ≤ 2147483648 := by
  have m0 := mul_le_of hp.1 hp.2 hs.1 hs.2
  have m1 := mul_le_of hq.1 hq.2 hr.1 hr.2
  exact nearQ_abs (B := 2147483648) (by omega) (by omega)
theorem lean_le {o : Int} (h : -2147483648 ≤ o ∧ o ≤ 2147483648) : -16777216 ≤ lean o ∧ lean o ≤ 16777216 := nearQ_abs (B := 16777216) (by omega) (by omega)
/-- what Up leans by -/
def UpC (a b c d x y z c0 c1 c2 : Int) : Prop := ∃ m0 m1 m2, UnitV x y z m0 m1 m2 ∧ c0 = lean (of0 m1 m2 (sh1 a b c d) (sh2 a b c d)) ∧ c1 = lean (of0 m2 m0 (sh2 a b c d) (sh0 a b c d)) ∧ c2 = lean (of0 m0 m1 (sh0 a b c d) (sh1 a b c d))
theorem upC_ex (a b c d : Int) {x y z : Int} (hz : ¬ (x = 0 ∧ y = 0 ∧ z = 0)) : ∃ c0 c1 c2, UpC a b c d x y z c0 c1 c2 := by
  obtain ⟨m0, m1, m2, hm⟩ := unitv_ex hz
  exact ⟨_, _, _, m0, m1, m2, hm, rfl, rfl, rfl⟩
theorem upC_le {a b c d x y z c0 c1 c2 : Int} (h : okO a b c d = true) (hz : ¬ (x = 0 ∧ y = 0 ∧ z = 0)) (hc : UpC a b c d x y z c0 c1 c2) : (-16777216 ≤ c0 ∧ c0 ≤ 16777216) ∧ (-16777216 ≤ c1 ∧ c1 ≤ 16777216) ∧ (-16777216 ≤ c2 ∧ c2 ≤ 16777216) := by
  obtain ⟨m0, m1, m2, hm, rfl, rfl, rfl⟩ := hc
  obtain ⟨l0, l1, l2⟩ := unitv_le hz hm
  obtain ⟨s0, s1, s2⟩ := sh_le h
  exact ⟨lean_le (of_le l1 l2 s1 s2), lean_le (of_le l2 l0 s2 s0), lean_le (of_le l0 l1 s0 s1)⟩
theorem upward_told {a b c d x y z c0 c1 c2 : Int} (w : World) (h : okO a b c d = true) (k : ok3 x y z = true) (hz : ¬ (x = 0 ∧ y = 0 ∧ z = 0)) (hc : UpC a b c d x y z c0 c1 c2) :
    Calls Tryz.prog 54 #[.agg #[.int .i64 a, .int .i64 b, .int .i64 c, .int .i64 d], .agg #[.int .i64 x, .int .i64 y, .int .i64 z]] w fun e w' => e = .returned (.tuple #[.agg #[.int .i64 c0, .int .i64 c1, .int .i64 c2], .int .i64 0]) ∧ Ext w w' := by
  have hl := upC_le h hz hc
  obtain ⟨m0, m1, m2, hm, e0, e1, e2⟩ := hc
  obtain ⟨l0, l1, l2⟩ := unitv_le hz hm
  obtain ⟨s0, s1, s2⟩ := sh_le h
  have o0 := of_le l1 l2 s1 s2; have o1 := of_le l2 l0 s2 s0; have o2 := of_le l0 l1 s0 s1
  refine upward_raw a b c d x y z (sh0 a b c d) (sh1 a b c d) (sh2 a b c d) m0 m1 m2 (of0 m1 m2 (sh1 a b c d) (sh2 a b c d)) (of0 m2 m0 (sh2 a b c d) (sh0 a b c d)) (of0 m0 m1 (sh0 a b c d) (sh1 a b c d)) c0 c1 c2 w (fun w' => back_told w' h) (fun w' => vunit_told w' k hz hm) (fun w' => ?_) (fun w' => ?_)
  · have H := vCross_yes m0 m1 m2 (sh0 a b c d) (sh1 a b c d) (sh2 a b c d) w' (ok3_of (by omega) (by omega) (by omega)) (ok3_of (by omega) (by omega) (by omega))
    have r0 : rowQ 0 (sh2 a b c d) (-(sh1 a b c d)) m0 m1 m2 = of0 m1 m2 (sh1 a b c d) (sh2 a b c d) := by unfold rowQ of0 dot3; congr 1; grind
    have r1 : rowQ (-(sh2 a b c d)) 0 (sh0 a b c d) m0 m1 m2 = of0 m2 m0 (sh2 a b c d) (sh0 a b c d) := by unfold rowQ of0 dot3; congr 1; grind
    have r2 : rowQ (sh1 a b c d) (-(sh0 a b c d)) 0 m0 m1 m2 = of0 m0 m1 (sh0 a b c d) (sh1 a b c d) := by unfold rowQ of0 dot3; congr 1; grind
    rw [r0, r1, r2] at H
    unfold vres at H
    rw [if_pos (ok3_of (by omega) (by omega) (by omega))] at H
    exact H
  · have H := vScale_yes (of0 m1 m2 (sh1 a b c d) (sh2 a b c d)) (of0 m2 m0 (sh2 a b c d) (sh0 a b c d)) (of0 m0 m1 (sh0 a b c d) (sh1 a b c d)) 8388608 w' (ok3_of (by omega) (by omega) (by omega)) (by decide)
    unfold lean at e0 e1 e2
    rw [← e0, ← e1, ← e2] at H
    unfold vres at H
    rw [if_pos (ok3_of (by omega) (by omega) (by omega))] at H
    exact H
/-- the numbers of a product, rounded -/
def mw (a b c d x y z t : Int) : Int := nearQ (qw a b c d x y z t)
def mx (a b c d x y z t : Int) : Int := nearQ (qx a b c d x y z t)
def my (a b c d x y z t : Int) : Int := nearQ (qy a b c d x y z t)
def mz (a b c d x y z t : Int) : Int := nearQ (qz a b c d x y z t)
theorem near_off (p : Int) : -1073741824 ≤ 2 * (1073741824 * nearQ p - p) ∧ 2 * (1073741824 * nearQ p - p) ≤ 1073741824 := by
  obtain ⟨h1, h2, _⟩ := nearQ_IsNear p
  omega
theorem qk_le {a x : Int} (h : -1073741828 ≤ a ∧ a ≤ 1073741828) (k : -16777216 ≤ x ∧ x ≤ 16777216) : -18014398576590848 ≤ a * x ∧ a * x ≤ 18014398576590848 := by
  have := mul_le_of h.1 h.2 k.1 k.2
  omega
/-- a product with what is 1 ahead: neither 0 nor beyond words; from the right (Up) and from the left (North) -/
theorem lean_prod {a b c d x y z : Int} (h : okO a b c d = true) (hx : -16777216 ≤ x ∧ x ≤ 16777216) (hy : -16777216 ≤ y ∧ y ≤ 16777216) (hz : -16777216 ≤ z ∧ z ≤ 16777216) :
    ok4 (mw a b c d 1073741824 x y z) (mx a b c d 1073741824 x y z) (my a b c d 1073741824 x y z) (mz a b c d 1073741824 x y z) = true ∧ ¬ (mw a b c d 1073741824 x y z = 0 ∧ mx a b c d 1073741824 x y z = 0 ∧ my a b c d 1073741824 x y z = 0 ∧ mz a b c d 1073741824 x y z = 0) := by
  obtain ⟨ha, hb, hc, hd⟩ := okO_abs h
  have q0 := qk_le ha hx; have q1 := qk_le ha hy; have q2 := qk_le ha hz
  have q3 := qk_le hb hx; have q4 := qk_le hb hy; have q5 := qk_le hb hz
  have q6 := qk_le hc hx; have q7 := qk_le hc hy; have q8 := qk_le hc hz
  have q9 := qk_le hd hx; have q10 := qk_le hd hy; have q11 := qk_le hd hz
  constructor
  · have g0 := nearQ_abs (p := qw a b c d 1073741824 x y z) (B := 1342177280) (by unfold qw; omega) (by unfold qw; omega)
    have g1 := nearQ_abs (p := qx a b c d 1073741824 x y z) (B := 1342177280) (by unfold qx; omega) (by unfold qx; omega)
    have g2 := nearQ_abs (p := qy a b c d 1073741824 x y z) (B := 1342177280) (by unfold qy; omega) (by unfold qy; omega)
    have g3 := nearQ_abs (p := qz a b c d 1073741824 x y z) (B := 1342177280) (by unfold qz; omega) (by unfold qz; omega)
    exact ok4_of (by unfold mw; omega) (by unfold mx; omega) (by unfold my; omega) (by unfold mz; omega)
  · have f0 := near_off (qw a b c d 1073741824 x y z); have f1 := near_off (qx a b c d 1073741824 x y z); have f2 := near_off (qy a b c d 1073741824 x y z); have f3 := near_off (qz a b c d 1073741824 x y z)
    refine move_zero (D := 1073741824) (p0 := -(b * x) - c * y - d * z) (p1 := a * x + c * z - d * y) (p2 := a * y - b * z + d * x) (p3 := a * z + b * y - c * x) h (by decide) (by grind) ?_ ?_ ?_ ?_
    · unfold mw; unfold qw at f0 ⊢; omega
    · unfold mx; unfold qx at f1 ⊢; omega
    · unfold my; unfold qy at f2 ⊢; omega
    · unfold mz; unfold qz at f3 ⊢; omega
theorem swing_prod {a b c d x : Int} (h : okO a b c d = true) (hx : -16777216 ≤ x ∧ x ≤ 16777216) :
    ok4 (mw 1073741824 0 0 x a b c d) (mx 1073741824 0 0 x a b c d) (my 1073741824 0 0 x a b c d) (mz 1073741824 0 0 x a b c d) = true ∧ ¬ (mw 1073741824 0 0 x a b c d = 0 ∧ mx 1073741824 0 0 x a b c d = 0 ∧ my 1073741824 0 0 x a b c d = 0 ∧ mz 1073741824 0 0 x a b c d = 0) := by
  obtain ⟨ha, hb, hc, hd⟩ := okO_abs h
  have q0 := qk_le ha hx; have q3 := qk_le hb hx; have q6 := qk_le hc hx; have q9 := qk_le hd hx
  rw [Int.mul_comm] at q0 q3 q6 q9
  constructor
  · have g0 := nearQ_abs (p := qw 1073741824 0 0 x a b c d) (B := 1342177280) (by unfold qw; omega) (by unfold qw; omega)
    have g1 := nearQ_abs (p := qx 1073741824 0 0 x a b c d) (B := 1342177280) (by unfold qx; omega) (by unfold qx; omega)
    have g2 := nearQ_abs (p := qy 1073741824 0 0 x a b c d) (B := 1342177280) (by unfold qy; omega) (by unfold qy; omega)
    have g3 := nearQ_abs (p := qz 1073741824 0 0 x a b c d) (B := 1342177280) (by unfold qz; omega) (by unfold qz; omega)
    exact ok4_of (by unfold mw; omega) (by unfold mx; omega) (by unfold my; omega) (by unfold mz; omega)
  · have f0 := near_off (qw 1073741824 0 0 x a b c d); have f1 := near_off (qx 1073741824 0 0 x a b c d); have f2 := near_off (qy 1073741824 0 0 x a b c d); have f3 := near_off (qz 1073741824 0 0 x a b c d)
    refine move_zero (D := 1073741824) (p0 := -(x * d)) (p1 := -(x * c)) (p2 := x * b) (p3 := x * a) h (by decide) (by grind) ?_ ?_ ?_ ?_
    · unfold mw; unfold qw at f0 ⊢; omega
    · unfold mx; unfold qx at f1 ⊢; omega
    · unfold my; unfold qy at f2 ⊢; omega
    · unfold mz; unfold qz at f3 ⊢; omega
theorem qmul_told {a b c d x y z t : Int} (w : World) (h : ok4 a b c d = true) (k : ok4 x y z t = true) (m : ok4 (mw a b c d x y z t) (mx a b c d x y z t) (my a b c d x y z t) (mz a b c d x y z t) = true) :
    Calls Tryz.prog 99 #[.agg #[.int .i64 a, .int .i64 b, .int .i64 c, .int .i64 d], .agg #[.int .i64 x, .int .i64 y, .int .i64 z, .int .i64 t]] w fun e w' => e = .returned (.tuple #[.agg #[.int .i64 (mw a b c d x y z t), .int .i64 (mx a b c d x y z t), .int .i64 (my a b c d x y z t), .int .i64 (mz a b c d x y z t)], .int .i64 0]) ∧ Ext w w' := by
  have H := qMul_any a b c d x y z t w
  unfold qmulR at H
  rw [if_pos (by rw [h, k]; rfl)] at H
  unfold qres at H
  unfold mw mx my mz at m ⊢
  rw [if_pos m] at H
  exact H
/-- what Up tells -/
def UpD (a b c d x y z u0 u1 u2 u3 : Int) : Prop := ∃ k : Nat, RootQ (sq3 x y z) 1 k ∧ (gat k = false ∧ u0 = a ∧ u1 = b ∧ u2 = c ∧ u3 = d ∨ gat k = true ∧ ∃ c0 c1 c2, UpC a b c d x y z c0 c1 c2 ∧ UnitQ (mw a b c d 1073741824 c0 c1 c2) (mx a b c d 1073741824 c0 c1 c2) (my a b c d 1073741824 c0 c1 c2) (mz a b c d 1073741824 c0 c1 c2) u0 u1 u2 u3)
theorem gat_zero {x y z : Int} {k : Nat} (hk : RootQ (sq3 x y z) 1 k) (hg : gat k = true) : ¬ (x = 0 ∧ y = 0 ∧ z = 0) := by
  rintro ⟨rfl, rfl, rfl⟩
  have e : sq3 0 0 0 = 0 := by decide
  rw [e] at hk
  have := gat_iff.1 hg
  have := rootQ_zero (by decide) hk
  omega
theorem upD_ex {a b c d : Int} (x y z : Int) (h : okO a b c d = true) : ∃ u0 u1 u2 u3, UpD a b c d x y z u0 u1 u2 u3 := by
  obtain ⟨k, hk⟩ := rootQ_exists (sq3 x y z) 1 (by decide)
  cases hg : gat k
  · exact ⟨a, b, c, d, k, hk, .inl ⟨hg, rfl, rfl, rfl, rfl⟩⟩
  · have hz := gat_zero hk hg
    obtain ⟨c0, c1, c2, hc⟩ := upC_ex a b c d hz
    obtain ⟨l0, l1, l2⟩ := upC_le h hz hc
    obtain ⟨u0, u1, u2, u3, hu⟩ := unitq_ex (lean_prod h l0 l1 l2).2
    exact ⟨u0, u1, u2, u3, k, hk, .inr ⟨hg, c0, c1, c2, hc, hu⟩⟩
theorem upD_ok {a b c d x y z u0 u1 u2 u3 : Int} (h : okO a b c d = true) (hu : UpD a b c d x y z u0 u1 u2 u3) : okO u0 u1 u2 u3 = true := by
  obtain ⟨k, hk, ⟨_, rfl, rfl, rfl, rfl⟩ | ⟨hg, c0, c1, c2, hc, hu⟩⟩ := hu
  · exact h
  · have hz := gat_zero hk hg
    obtain ⟨l0, l1, l2⟩ := upC_le h hz hc
    exact unitq_okO (lean_prod h l0 l1 l2).2 hu
theorem up_told {a b c d x y z u0 u1 u2 u3 : Int} (w : World) (h : okO a b c d = true) (k : ok3 x y z = true) (hu : UpD a b c d x y z u0 u1 u2 u3) :
    Calls Tryz.prog 16 #[.agg #[.int .i64 a, .int .i64 b, .int .i64 c, .int .i64 d], .agg #[.int .i64 x, .int .i64 y, .int .i64 z]] w fun e w' => e = .returned (.tuple #[.agg #[.int .i64 u0, .int .i64 u1, .int .i64 u2, .int .i64 u3], .int .i64 0]) ∧ Ext w w' := by
  have K := fun w' => fCheck_any a b c d w'
  rw [chkO_y h] at K
  have V := fun w' => vCheck_any x y z w'
  rw [chk3_yes k] at V
  have O := fun g w' hg => cmpOr2 0 0 0 g w' hg rfl
  obtain ⟨n, hk, hu⟩ := hu
  have G := fun w' => grav_any x y z n w' (fun w' => vNorm_yes x y z n w' k hk)
  rcases hu with ⟨hg, rfl, rfl, rfl, rfl⟩ | ⟨hg, c0, c1, c2, hc, hu⟩
  · rw [hg] at G
    exact up_stays _ _ _ _ x y z 0 0 w K V O G
  · rw [hg] at G
    have hz := gat_zero hk hg
    obtain ⟨l0, l1, l2⟩ := upC_le h hz hc
    obtain ⟨m4, mz⟩ := lean_prod h l0 l1 l2
    refine up_good a b c d x y z 0 0 c0 c1 c2 u0 u1 u2 u3 0 w K V O G (fun w' => upward_told w' h k hz hc) (fun w' => ?_)
    refine stepLeaned a b c d c0 c1 c2 _ _ _ _ u0 u1 u2 u3 0 w' (fun w' => ?_) (fun w' => qunit_told w' m4 mz hu)
    exact leaned_raw a b c d c0 c1 c2 _ _ _ _ 0 w' (fun w' => qmul_told w' (okO_ok4 h) (ok4_of (by omega) (by omega) (by omega) (by omega)) m4)
theorem up_form {a b c d x y z : Int} (w : World) (h : (okO a b c d && ok3 x y z) = false) :
    Calls Tryz.prog 16 #[.agg #[.int .i64 a, .int .i64 b, .int .i64 c, .int .i64 d], .agg #[.int .i64 x, .int .i64 y, .int .i64 z]] w fun e w' => e = .returned (.tuple #[.agg #[.int .i64 0, .int .i64 0, .int .i64 0, .int .i64 0], .int .i64 1]) ∧ Ext w w' := by
  have K := fun w' => fCheck_any a b c d w'
  have V := fun w' => vCheck_any x y z w'
  refine up_bad a b c d x y z (chkO a b c d) (chk3 x y z) 1 w K V (fun g w' hg => cmpOr2 _ _ _ g w' hg ?_) (by decide)
  cases h1 : okO a b c d
  · rw [chkO_n h1]; rfl
  · rw [h1] at h
    rw [chkO_y h1, chk3_no (by simpa using h)]; rfl
/-- what North tells, of a field that is shown as (h0, h1, h2) -/
def nh0 (a b c d x y z : Int) : Int := nearI (tnx a b c d x y z) (sq4 a b c d)
def nh1 (a b c d x y z : Int) : Int := nearI (tny a b c d x y z) (sq4 a b c d)
def nh2 (a b c d x y z : Int) : Int := nearI (tnz a b c d x y z) (sq4 a b c d)
def NorthD (a b c d x y z u0 u1 u2 u3 : Int) : Prop := nh0 a b c d x y z = 0 ∧ nh1 a b c d x y z = 0 ∧ u0 = a ∧ u1 = b ∧ u2 = c ∧ u3 = d ∨ ¬ (nh0 a b c d x y z = 0 ∧ nh1 a b c d x y z = 0 ∧ (0 : Int) = 0) ∧ ∃ s0 s1 s2, UnitV (nh0 a b c d x y z) (nh1 a b c d x y z) 0 s0 s1 s2 ∧ UnitQ (mw 1073741824 0 0 (lean s0) a b c d) (mx 1073741824 0 0 (lean s0) a b c d) (my 1073741824 0 0 (lean s0) a b c d) (mz 1073741824 0 0 (lean s0) a b c d) u0 u1 u2 u3
theorem northD_ex {a b c d : Int} (x y z : Int) (h : okO a b c d = true) : ∃ u0 u1 u2 u3, NorthD a b c d x y z u0 u1 u2 u3 := by
  by_cases hz : nh0 a b c d x y z = 0 ∧ nh1 a b c d x y z = 0 ∧ (0 : Int) = 0
  · exact ⟨a, b, c, d, .inl ⟨hz.1, hz.2.1, rfl, rfl, rfl, rfl⟩⟩
  · obtain ⟨s0, s1, s2, hs⟩ := unitv_ex hz
    obtain ⟨l0, _, _⟩ := unitv_le hz hs
    obtain ⟨u0, u1, u2, u3, hu⟩ := unitq_ex (swing_prod h (lean_le (o := s0) (by omega))).2
    exact ⟨u0, u1, u2, u3, .inr ⟨hz, s0, s1, s2, hs, hu⟩⟩
theorem northD_ok {a b c d x y z u0 u1 u2 u3 : Int} (h : okO a b c d = true) (hu : NorthD a b c d x y z u0 u1 u2 u3) : okO u0 u1 u2 u3 = true := by
  rcases hu with ⟨_, _, rfl, rfl, rfl, rfl⟩ | ⟨hz, s0, s1, s2, hs, hu⟩
  · exact h
  · obtain ⟨l0, _, _⟩ := unitv_le hz hs
    exact unitq_okO (swing_prod h (lean_le (o := s0) (by omega))).2 hu
theorem nturn {a b c d x y z : Int} (w : World) (h : okO a b c d = true) (k : ok3 x y z = true) :
    Calls Tryz.prog 56 #[.agg #[.int .i64 a, .int .i64 b, .int .i64 c, .int .i64 d], .agg #[.int .i64 x, .int .i64 y, .int .i64 z]] w fun e w' => e = .returned (vres (nh0 a b c d x y z) (nh1 a b c d x y z) (nh2 a b c d x y z)) ∧ Ext w w' := by
  have T := qTurn_any a b c d x y z w
  have hz := okO_zero h
  unfold turnR at T
  rw [if_pos (by rw [okO_ok4 h, k]; rfl), if_neg hz] at T
  exact T
theorem eqV3 (x y z a b c : Int) (w : World) : (Op.equalIn 10000 28 (.agg #[.int .i64 x, .int .i64 y, .int .i64 z]) (.agg #[.int .i64 a, .int .i64 b, .int .i64 c])).run Tryz.prog w = .ok (x == a && (y == b && z == c)) w := by
  by_cases hx : x = a <;> by_cases hy : y = b <;> by_cases hz : z = c <;> simp [go_sem, hx, hy, hz]
theorem eqV0 (x y : Int) (w : World) : (Op.equalIn 10000 28 (.agg #[.int .i64 x, .int .i64 y, .int .i64 0]) (.agg #[.int .i64 0, .int .i64 0, .int .i64 0])).run Tryz.prog w = .ok (x == 0 && y == 0) w := by
  have := eqV3 x y 0 0 0 0 w
  rw [this]; simp
theorem north_told {a b c d x y z u0 u1 u2 u3 : Int} (w : World) (h : okO a b c d = true) (k : ok3 x y z = true) (hn : ok3 (nh0 a b c d x y z) (nh1 a b c d x y z) (nh2 a b c d x y z) = true) (hu : NorthD a b c d x y z u0 u1 u2 u3) :
    Calls Tryz.prog 17 #[.agg #[.int .i64 a, .int .i64 b, .int .i64 c, .int .i64 d], .agg #[.int .i64 x, .int .i64 y, .int .i64 z]] w fun e w' => e = .returned (.tuple #[.agg #[.int .i64 u0, .int .i64 u1, .int .i64 u2, .int .i64 u3], .int .i64 0]) ∧ Ext w w' := by
  have K := fun w' => fCheck_any a b c d w'
  rw [chkO_y h] at K
  have V := fun w' => vCheck_any x y z w'
  rw [chk3_yes k] at V
  have O := fun g w' hg => cmpOr2 0 0 0 g w' hg rfl
  have T := fun w' => nturn w' h k
  unfold vres at T
  rw [if_pos hn] at T
  obtain ⟨g0, g1, g2⟩ := ok3_parts hn
  rcases hu with ⟨e0, e1, rfl, rfl, rfl, rfl⟩ | ⟨hz, s0, s1, s2, hs, hu⟩
  · rw [e0, e1] at T
    exact north_stays _ _ _ _ x y z 0 0 _ w K V O T (fun w' => eqV0 0 0 w')
  · obtain ⟨l0, l1, l2⟩ := unitv_le hz hs
    have hl := lean_le (o := s0) (by omega)
    obtain ⟨m4, mz⟩ := swing_prod h hl
    have n3 : ok3 (nh0 a b c d x y z) (nh1 a b c d x y z) 0 = true := by unfold ok3; rw [g0, g1]; rfl
    generalize nh0 a b c d x y z = h0 at *
    generalize nh1 a b c d x y z = h1 at *
    generalize nh2 a b c d x y z = h2 at *
    have he : (h0 == 0 && h1 == 0) = false := by
      rw [Bool.eq_false_iff]; intro hc; simp at hc; exact hz ⟨hc.1, hc.2, rfl⟩
    refine north_good a b c d x y z 0 0 h0 h1 h2 (lean s0) u0 u1 u2 u3 0 w K V O T (fun w' => by rw [eqV0, he]) (fun w' => ?_) (fun w' => ?_)
    · refine northward_raw h0 h1 0 s0 s1 s2 (lean s0) w' (fun w' => vunit_told w' n3 hz hs) (fun w' => ?_)
      have H := mulw s0 8388608 (okW_of (by omega) (by omega)) (by decide) w'
      unfold lean at hl ⊢
      rw [fit_yes' (okW_of (by omega) (by omega))] at H
      exact H
    · refine stepSwung a b c d (lean s0) _ _ _ _ u0 u1 u2 u3 0 w' (fun w' => ?_) (fun w' => qunit_told w' m4 mz hu)
      exact swung_raw a b c d (lean s0) _ _ _ _ 0 w' (fun w' => qmul_told w' (ok4_of (by omega) (by omega) (by omega) (by omega)) (okO_ok4 h) m4)
theorem north_range {a b c d x y z : Int} (w : World) (h : okO a b c d = true) (k : ok3 x y z = true) (hn : ok3 (nh0 a b c d x y z) (nh1 a b c d x y z) (nh2 a b c d x y z) = false) :
    Calls Tryz.prog 17 #[.agg #[.int .i64 a, .int .i64 b, .int .i64 c, .int .i64 d], .agg #[.int .i64 x, .int .i64 y, .int .i64 z]] w fun e w' => e = .returned (.tuple #[.agg #[.int .i64 0, .int .i64 0, .int .i64 0, .int .i64 0], .int .i64 2]) ∧ Ext w w' := by
  have K := fun w' => fCheck_any a b c d w'
  rw [chkO_y h] at K
  have V := fun w' => vCheck_any x y z w'
  rw [chk3_yes k] at V
  have O := fun g w' hg => cmpOr2 0 0 0 g w' hg rfl
  have T := fun w' => nturn w' h k
  unfold vres at T
  rw [if_neg (by rw [hn]; decide)] at T
  exact north_err a b c d x y z 0 0 0 0 0 2 w K V O T (by decide)
theorem north_form {a b c d x y z : Int} (w : World) (h : (okO a b c d && ok3 x y z) = false) :
    Calls Tryz.prog 17 #[.agg #[.int .i64 a, .int .i64 b, .int .i64 c, .int .i64 d], .agg #[.int .i64 x, .int .i64 y, .int .i64 z]] w fun e w' => e = .returned (.tuple #[.agg #[.int .i64 0, .int .i64 0, .int .i64 0, .int .i64 0], .int .i64 1]) ∧ Ext w w' := by
  have K := fun w' => fCheck_any a b c d w'
  have V := fun w' => vCheck_any x y z w'
  refine north_bad a b c d x y z (chkO a b c d) (chk3 x y z) 1 w K V (fun g w' hg => cmpOr2 _ _ _ g w' hg ?_) (by decide)
  cases h1 : okO a b c d
  · rw [chkO_n h1]; rfl
  · rw [h1] at h
    rw [chkO_y h1, chk3_no (by simpa using h)]; rfl
end Go.Proofs.YtmbdcgijjpcppaaGreat
