/- gimbalref3: one, Norm. -/
import Derived.Test.YtojcndgoihkfnaaMg50
namespace Go.Proofs.Ytojcndgoihkfnaa
open Go.RowKit Go.Shelf
set_option maxHeartbeats 8000000 in
theorem one_no (N : Int) (r : Value) (w : World) (hr : IsI w r N) (HZ : Hid (∀ r w', IsI w' r N → Calls Try.prog 50 #[r] w' fun e w'' => e = .returned (.bool false) ∧ Ext w' w'')) :
    Calls Try.prog 36 #[r] w fun e w' => (∃ r', e = .returned r' ∧ IsI w' r' N) ∧ Ext w w' := by
  obtain ⟨u, rfl, hk⟩ := hr
  obtain ⟨an, ln, cn, hau⟩ := hk.isSlice
  subst hau
  have IN : Hid (IsI w (.agg #[.bool (decide (N < 0)), .slice an ln cn]) N) := ⟨_, rfl, hk⟩
  clear hk
  generalize decide (N < 0) = bn at *
  have E0 : Hid (Ext w ((w.alloc (.cells #[.bool bn, .slice an ln cn] 72)).alloc (.cells #[.bool false, .slice none 0 0] 72))) := ((Ext.refl _).alloc _).alloc _
  have QB : Hid (HV ((w.alloc (.cells #[.bool bn, .slice an ln cn] 72)).alloc (.cells #[.bool false, .slice none 0 0] 72)) w.heap.size [.bool bn, .slice an ln cn]) := HV.alloc (hv_at rfl) _
  have RB : Hid (HV ((w.alloc (.cells #[.bool bn, .slice an ln cn] 72)).alloc (.cells #[.bool false, .slice none 0 0] 72)) (w.heap.size + 1) [.bool false, .slice none 0 0]) := hv_at (by simp)
  have IN : Hid (IsI ((w.alloc (.cells #[.bool bn, .slice an ln cn] 72)).alloc (.cells #[.bool false, .slice none 0 0] 72)) (.agg #[.bool bn, .slice an ln cn]) N) := IN.out.ext E0.out
  go_enter Try.func36, Try.ntmps36
  go_upto_region 1 with fail
  generalize ((w.alloc (.cells #[.bool bn, .slice an ln cn] 72)).alloc (.cells #[.bool false, .slice none 0 0] 72)) = wB at *
  have q0 := QB.out.c 0 rfl
  have q1 := QB.out.c 1 rfl
  go_upto_region 3 with (go_at_call 50; refine (HZ.out _ _ IN.out).mono ?_; rintro e w1 ⟨rfl, x1⟩)
  have IN : Hid (IsI w1 (.agg #[.bool bn, .slice an ln cn]) N) := IN.out.ext x1
  have QB : Hid (HV w1 w.heap.size [.bool bn, .slice an ln cn]) := QB.out.ext x1
  have RB : Hid (HV w1 (w.heap.size + 1) [.bool false, .slice none 0 0]) := RB.out.ext x1
  have E0 : Hid (Ext w w1) := E0.out.trans x1
  clear x1 q0 q1 HZ
  have q0 := QB.out.c 0 rfl
  have q1 := QB.out.c 1 rfl
  have z0 := RB.out.c 0 rfl
  have z1 := RB.out.c 1 rfl
  have y0 := RB.out.f 0 rfl
  have y1 := RB.out.f 1 rfl
  have rl := RB.out.1
  go_wp2_with fail
  exact bodyPost_ret (v := .agg #[.bool bn, .slice an ln cn]) (by simp [results, Try.results36, go_sem, z0, z1]) rfl ⟨⟨_, rfl, IN.out.put2 RB.out⟩, (E0.out.set (p := ⟨w.heap.size + 1, 0, none⟩) (Nat.le_succ _) _).set (p := ⟨w.heap.size + 1, 1, none⟩) (Nat.le_succ _) _⟩
set_option maxHeartbeats 8000000 in
theorem one_yes (N : Int) (r : Value) (w : World) (hr : IsI w r N) (HZ : Hid (∀ r w', IsI w' r N → Calls Try.prog 50 #[r] w' fun e w'' => e = .returned (.bool true) ∧ Ext w' w'')) (H1 : Hid (∀ w', Calls Try.prog 51 #[.int .i64 1] w' fun e w'' => (∃ r, e = .returned r ∧ IsI w'' r (1)) ∧ Ext w' w'')) :
    Calls Try.prog 36 #[r] w fun e w' => (∃ r', e = .returned r' ∧ IsI w' r' 1) ∧ Ext w w' := by
  obtain ⟨u, rfl, hk⟩ := hr
  obtain ⟨an, ln, cn, hau⟩ := hk.isSlice
  subst hau
  have IN : Hid (IsI w (.agg #[.bool (decide (N < 0)), .slice an ln cn]) N) := ⟨_, rfl, hk⟩
  clear hk
  generalize decide (N < 0) = bn at *
  have E0 : Hid (Ext w ((w.alloc (.cells #[.bool bn, .slice an ln cn] 72)).alloc (.cells #[.bool false, .slice none 0 0] 72))) := ((Ext.refl _).alloc _).alloc _
  have QB : Hid (HV ((w.alloc (.cells #[.bool bn, .slice an ln cn] 72)).alloc (.cells #[.bool false, .slice none 0 0] 72)) w.heap.size [.bool bn, .slice an ln cn]) := HV.alloc (hv_at rfl) _
  have RB : Hid (HV ((w.alloc (.cells #[.bool bn, .slice an ln cn] 72)).alloc (.cells #[.bool false, .slice none 0 0] 72)) (w.heap.size + 1) [.bool false, .slice none 0 0]) := hv_at (by simp)
  have IN : Hid (IsI ((w.alloc (.cells #[.bool bn, .slice an ln cn] 72)).alloc (.cells #[.bool false, .slice none 0 0] 72)) (.agg #[.bool bn, .slice an ln cn]) N) := IN.out.ext E0.out
  go_enter Try.func36, Try.ntmps36
  go_upto_region 1 with fail
  generalize ((w.alloc (.cells #[.bool bn, .slice an ln cn] 72)).alloc (.cells #[.bool false, .slice none 0 0] 72)) = wB at *
  have q0 := QB.out.c 0 rfl
  have q1 := QB.out.c 1 rfl
  go_upto_region 2 with (go_at_call 50; refine (HZ.out _ _ IN.out).mono ?_; rintro e w1 ⟨rfl, x1⟩)
  have RB : Hid (HV w1 (w.heap.size + 1) [.bool false, .slice none 0 0]) := RB.out.ext x1
  have E0 : Hid (Ext w w1) := E0.out.trans x1
  clear x1 q0 q1 HZ QB IN
  go_wp2_with fail
  refine (H1.out _).mono ?_
  rintro e w2 ⟨⟨r, rfl, hr⟩, x2⟩
  obtain ⟨u, hu, hk⟩ := hr
  obtain ⟨au, lu, cu, hau⟩ := hk.isSlice
  subst hau; subst hu
  have IM : Hid (IsI w2 (.agg #[.bool (decide ((1 : Int) < 0)), .slice au lu cu]) 1) := ⟨_, rfl, hk⟩
  clear hk H1
  generalize decide ((1 : Int) < 0) = bm at *
  have RB : Hid (HV w2 (w.heap.size + 1) [.bool false, .slice none 0 0]) := RB.out.ext x2
  have E0 : Hid (Ext w w2) := E0.out.trans x2
  have z0 := RB.out.c 0 rfl
  have z1 := RB.out.c 1 rfl
  have y0 := RB.out.f 0 rfl
  have y1 := RB.out.f 1 rfl
  have rl := RB.out.1
  clear x2
  go_wp2_with fail
  exact bodyPost_ret (v := .agg #[.bool bm, .slice au lu cu]) (by simp [results, Try.results36, go_sem, z0, z1]) rfl ⟨⟨_, rfl, IM.out.put2 RB.out⟩, (E0.out.set (p := ⟨w.heap.size + 1, 0, none⟩) (Nat.le_succ _) _).set (p := ⟨w.heap.size + 1, 1, none⟩) (Nat.le_succ _) _⟩
theorem one_raw (N : Int) (r : Value) (w : World) (hr : IsI w r N) (hs : SmallI N) : Calls Try.prog 36 #[r] w fun e w' => (∃ r', e = .returned r' ∧ IsI w' r' (if N = 0 then 1 else N)) ∧ Ext w w' := by
  by_cases h : N = 0
  · rw [if_pos h]
    exact one_yes N r w hr (fun r w' hr => by have H := zero_isI N r w' hr hs; rw [decide_eq_true h] at H; exact H) (fun w' => from_any 1 w' (by decide) (by decide))
  · rw [if_neg h]
    exact one_no N r w hr (fun r w' hr => by have H := zero_isI N r w' hr hs; rw [decide_eq_false h] at H; exact H)
set_option maxHeartbeats 8000000 in
theorem rnorm_raw (a b c N M t p er : Int) (w : World) (HD : Hid (∀ w', Calls Try.prog 35 #[.agg #[.int .i64 a, .int .i64 b, .int .i64 c], .agg #[.int .i64 a, .int .i64 b, .int .i64 c]] w' fun e w'' => (∃ r, e = .returned r ∧ IsI w'' r (N)) ∧ Ext w' w'')) (HO : Hid (∀ r w', IsI w' r N → Calls Try.prog 36 #[r] w' fun e w'' => (∃ r, e = .returned r ∧ IsI w'' r (M)) ∧ Ext w' w'')) (HR : Hid (∀ r1 r2 w', IsI w' r1 N → IsI w' r2 M → Calls Try.prog 34 #[r1, r2] w' fun e w'' => (∃ r, e = .returned r ∧ IsI w'' r (t)) ∧ Ext w' w'')) (HW : Hid (∀ r w', IsI w' r t → Calls Try.prog 33 #[r] w' fun e w'' => e = .returned (.tuple #[.int .i64 p, .int .i64 er]) ∧ Ext w' w'')) :
    Calls Try.prog 25 #[.agg #[.int .i64 a, .int .i64 b, .int .i64 c]] w fun e' w' => e' = .returned (.tuple #[.int .i64 p, .int .i64 er]) ∧ Ext w w' := by
  have QB : Hid (HV (w.alloc (.cells #[.int .i64 a, .int .i64 b, .int .i64 c] 24)) w.heap.size [.int .i64 a, .int .i64 b, .int .i64 c]) := hv_at rfl
  have E0 : Hid (Ext w (w.alloc (.cells #[.int .i64 a, .int .i64 b, .int .i64 c] 24))) := (Ext.refl _).alloc _
  go_enter Try.func25, Try.ntmps25
  go_upto_region 1 with fail
  generalize (w.alloc (.cells #[.int .i64 a, .int .i64 b, .int .i64 c] 24)) = wB at *
  have q0 := QB.out.c 0 rfl
  have q1 := QB.out.c 1 rfl
  have q2 := QB.out.c 2 rfl
  have ql := QB.out.1
  go_region_held3 (fun w' => w'.cell? ⟨w.heap.size, 0, none⟩ = some (.int .i64 a) ∧ w'.cell? ⟨w.heap.size, 1, none⟩ = some (.int .i64 b) ∧ w'.cell? ⟨w.heap.size, 2, none⟩ = some (.int .i64 c)) (first | (go_keep; done) | skip) (first | (have hdd := hd; go_at_call 35; refine (HD.out _).mono ?_; rintro e wm ⟨⟨rm, rfl, hm⟩, xm⟩; have Ym : Ext wB wm := Ext.trans (by repeat (first | with_reducible assumption | with_reducible exact Ext.refl _ | with_reducible refine Ext.drew ?_ | with_reducible refine Ext.drewN ?_ _ | with_reducible refine Ext.alloc ?_ _ | with_reducible refine Ext.set ?_ (by first | exact Nat.le_refl _ | (dsimp only; omega) | (simp; done)) _)) xm; have km0 := (QB.out.ext Ym).c 0 rfl; have km1 := (QB.out.ext Ym).c 1 rfl; have km2 := (QB.out.ext Ym).c 2 rfl; have lm := (QB.out.ext Ym).1) | (go_at_call 35; refine (HD.out _).mono ?_; rintro e wd ⟨⟨rd, rfl, hd⟩, xd⟩; have Yd : Ext wB wd := Ext.trans (by repeat (first | with_reducible assumption | with_reducible exact Ext.refl _ | with_reducible refine Ext.drew ?_ | with_reducible refine Ext.drewN ?_ _ | with_reducible refine Ext.alloc ?_ _ | with_reducible refine Ext.set ?_ (by first | exact Nat.le_refl _ | (dsimp only; omega) | (simp; done)) _)) xd; have kd0 := (QB.out.ext Yd).c 0 rfl; have kd1 := (QB.out.ext Yd).c 1 rfl; have kd2 := (QB.out.ext Yd).c 2 rfl; have ld := (QB.out.ext Yd).1) | (go_at_call 36; refine (HO.out _ _ (hm.ext (by repeat (first | with_reducible assumption | with_reducible exact Ext.refl _ | with_reducible refine Ext.drew ?_ | with_reducible refine Ext.drewN ?_ _ | with_reducible refine Ext.alloc ?_ _ | with_reducible refine Ext.set ?_ (by first | exact Nat.le_refl _ | (dsimp only; omega) | (simp; done)) _)))).mono ?_; rintro e wn ⟨⟨rn, rfl, hn⟩, xn⟩; have Yn : Ext wB wn := Ext.trans (by repeat (first | with_reducible assumption | with_reducible exact Ext.refl _ | with_reducible refine Ext.drew ?_ | with_reducible refine Ext.drewN ?_ _ | with_reducible refine Ext.alloc ?_ _ | with_reducible refine Ext.set ?_ (by first | exact Nat.le_refl _ | (dsimp only; omega) | (simp; done)) _)) xn; have kn0 := (QB.out.ext Yn).c 0 rfl; have kn1 := (QB.out.ext Yn).c 1 rfl; have kn2 := (QB.out.ext Yn).c 2 rfl; have ln := (QB.out.ext Yn).1) | (go_at_call 34; refine (HR.out _ _ _ (hdd.ext (Ext.trans xm (by repeat (first | with_reducible assumption | with_reducible exact Ext.refl _ | with_reducible refine Ext.drew ?_ | with_reducible refine Ext.drewN ?_ _ | with_reducible refine Ext.alloc ?_ _ | with_reducible refine Ext.set ?_ (by first | exact Nat.le_refl _ | (dsimp only; omega) | (simp; done)) _)))) (hn.ext (by repeat (first | with_reducible assumption | with_reducible exact Ext.refl _ | with_reducible refine Ext.drew ?_ | with_reducible refine Ext.drewN ?_ _ | with_reducible refine Ext.alloc ?_ _ | with_reducible refine Ext.set ?_ (by first | exact Nat.le_refl _ | (dsimp only; omega) | (simp; done)) _)))).mono ?_; rintro e wo ⟨⟨ro, rfl, ho⟩, xo⟩; have Yo : Ext wB wo := Ext.trans (by repeat (first | with_reducible assumption | with_reducible exact Ext.refl _ | with_reducible refine Ext.drew ?_ | with_reducible refine Ext.drewN ?_ _ | with_reducible refine Ext.alloc ?_ _ | with_reducible refine Ext.set ?_ (by first | exact Nat.le_refl _ | (dsimp only; omega) | (simp; done)) _)) xo; have ko0 := (QB.out.ext Yo).c 0 rfl; have ko1 := (QB.out.ext Yo).c 1 rfl; have ko2 := (QB.out.ext Yo).c 2 rfl; have lo := (QB.out.ext Yo).1) | (go_at_call 33; refine (HW.out _ _ (ho.ext (by repeat (first | with_reducible assumption | with_reducible exact Ext.refl _ | with_reducible refine Ext.drew ?_ | with_reducible refine Ext.drewN ?_ _ | with_reducible refine Ext.alloc ?_ _ | with_reducible refine Ext.set ?_ (by first | exact Nat.le_refl _ | (dsimp only; omega) | (simp; done)) _)))).mono ?_; rintro e wz ⟨rfl, xz⟩; have Yz : Ext wB wz := Ext.trans (by repeat (first | with_reducible assumption | with_reducible exact Ext.refl _ | with_reducible refine Ext.drew ?_ | with_reducible refine Ext.drewN ?_ _ | with_reducible refine Ext.alloc ?_ _ | with_reducible refine Ext.set ?_ (by first | exact Nat.le_refl _ | (dsimp only; omega) | (simp; done)) _)) xz; have kz0 := (QB.out.ext Yz).c 0 rfl; have kz1 := (QB.out.ext Yz).c 1 rfl; have kz2 := (QB.out.ext Yz).c 2 rfl; have lz := (QB.out.ext Yz).1))
  all_goals
    go_wp2_with fail
    go_ret2
    exact ⟨rfl, E0.out.trans Yz⟩
theorem rnorm_any (a b c : Int) (k : Nat) (w : World) (h : ok3 a b c = true) (hk : RootQ (sq3 a b c) 1 k) :
    Calls Try.prog 25 #[.agg #[.int .i64 a, .int .i64 b, .int .i64 c]] w fun e w' => e = .returned (.tuple #[.int .i64 (fitR k).1, .int .i64 (fitR k).2]) ∧ Ext w w' := by
  have e := sq3_dot a b c
  have fN := dot3_fit h
  have f1 : Fit 100 1 := by unfold Fit; decide
  have hl := sq3_lt h
  have hkl : k ≤ 70368744177664 := rootQ_le (B := 70368744177664) hk (by decide) (by omega)
  have fk : Fit 100 (k : Int) := by
    have p : (2 : Nat) ^ 100 = 1267650600228229401496703205376 := by decide
    unfold Fit; rw [Int.natAbs_natCast, p]; omega
  refine rnorm_raw a b c (dot3 a b c a b c) (if dot3 a b c a b c = 0 then 1 else dot3 a b c a b c) (k : Int) _ _ w (fun w' => rdot_any a b c a b c w' h h) (fun r w' hr => one_raw _ r w' hr (fN.small (by omega))) (fun r1 r2 w' i1 i2 => ?_) (fun r w' hr => word_any _ r w' hr (fk.small (by omega)))
  by_cases h0 : dot3 a b c a b c = 0
  · rw [if_pos h0] at i2
    rw [h0] at i1
    refine (overroot_any 0 1 100 r1 r2 w' i1 i2 (by decide) (by omega) (by omega) (by unfold Fit; decide) f1).mono ?_
    rintro e' w'' ⟨⟨r, s, he, hr, hs⟩, hx⟩
    have hq : sq3 a b c = 0 := by omega
    rw [hq] at hk
    obtain rfl : s = k := rootQ_unique (by decide) hs hk
    exact ⟨⟨r, he, hr⟩, hx⟩
  · rw [if_neg h0] at i2
    have hp : 0 < sq3 a b c := by omega
    rw [e] at i1 i2 fN
    refine (overroot_any _ (sq3 a b c) 100 r1 r2 w' i1 i2 (by omega) (by omega) (by omega) fN fN).mono ?_
    rintro e' w'' ⟨⟨r, s, he, hr, hs⟩, hx⟩
    have hm := rootQ_mul hp hk
    rw [Nat.mul_one] at hm
    rw [Int.natAbs_natCast] at hs
    obtain rfl : s = k := rootQ_unique hp hs hm
    rw [if_neg (by omega)] at hr
    exact ⟨⟨r, he, hr⟩, hx⟩
end Go.Proofs.Ytojcndgoihkfnaa
