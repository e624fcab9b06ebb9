/- thin: all of it, in one text. -/
import Derived.Test.YtkcfgkedgjpeoaaThVM
import Derived.Test.YtkcfgkedgjpeoaaNearNum
import Derived.Test.YtkcfgkedgjpeoaaFaces  
import Derived.Deep.RegionHeld3
import Derived.Deep.Cut
import Derived.Deep.DeepCutAuto
import Derived.BigRegion
namespace Go.Proofs.Ytkcfgkedgjpeoaa
open Go.RowKit Go.Shelf
theorem wrap_le (n : Int) (h1 : -9223372036854775808 ≤ n) (h2 : n ≤ 9223372036854775807) : wrap64 n = n := by unfold wrap64; omega
/-- a number that a sum may have -/
def okS (x : Int) : Bool := decide (-9007199254740992 < x) && decide (x < 9007199254740992)
theorem okS_iff {x : Int} : okS x = true ↔ -9007199254740992 < x ∧ x < 9007199254740992 := by unfold okS; simp
/-- how many -/
def okK (x : Int) : Bool := decide (1 ≤ x) && decide (x ≤ 256)
theorem okK_iff {x : Int} : okK x = true ↔ 1 ≤ x ∧ x ≤ 256 := by unfold okK; simp
set_option maxHeartbeats 400000 in
theorem below_any (x : Int) (w : World) : Calls Try.prog 39 #[.int .i64 x] w fun e w' => e = .returned (.bool (okS x)) ∧ w' = w := by
  by_cases h1 : -9007199254740992 < x
  · by_cases h2 : x < 9007199254740992
    · have e : Hid (okS x = true) := okS_iff.2 ⟨h1, h2⟩
      go_enter Try.func39, Try.ntmps39
      go_wp2
      go_ret
      rw [e.out]; exact ⟨rfl, rfl⟩
    · have e : Hid (okS x = false) := Bool.eq_false_iff.2 (fun h => h2 (okS_iff.1 h).2)
      go_enter Try.func39, Try.ntmps39
      go_wp2
      go_ret
      rw [e.out]; exact ⟨rfl, rfl⟩
  · have e : Hid (okS x = false) := Bool.eq_false_iff.2 (fun h => h1 (okS_iff.1 h).1)
    go_enter Try.func39, Try.ntmps39
    go_wp2
    go_ret
    rw [e.out]; exact ⟨rfl, rfl⟩
set_option maxHeartbeats 400000 in
theorem iscount_any (x : Int) (w : World) : Calls Try.prog 19 #[.int .i64 x] w fun e w' => e = .returned (.bool (okK x)) ∧ w' = w := by
  by_cases h1 : 1 ≤ x
  · by_cases h2 : x ≤ 256
    · have e : Hid (okK x = true) := okK_iff.2 ⟨h1, h2⟩
      go_enter Try.func19, Try.ntmps19
      go_wp2
      go_ret
      rw [e.out]; exact ⟨rfl, rfl⟩
    · have e : Hid (okK x = false) := Bool.eq_false_iff.2 (fun h => h2 (okK_iff.1 h).2)
      go_enter Try.func19, Try.ntmps19
      go_wp2
      go_ret
      rw [e.out]; exact ⟨rfl, rfl⟩
  · have e : Hid (okK x = false) := Bool.eq_false_iff.2 (fun h => h1 (okK_iff.1 h).1)
    go_enter Try.func19, Try.ntmps19
    go_wp2
    go_ret
    rw [e.out]; exact ⟨rfl, rfl⟩
/-- three of them -/
def okS3 (x y z : Int) : Bool := okS x && okS y && okS z
set_option maxRecDepth 20000 in
set_option maxHeartbeats 4000000 in
theorem issum_any (x y z : Int) (w : World) : Calls Try.prog 26 #[.agg #[.int .i64 x, .int .i64 y, .int .i64 z]] w fun e w' => e = .returned (.bool (okS3 x y z)) ∧ Ext w w' := by
  have HX : Hid (∀ w, Calls Try.prog 39 #[.int .i64 x] w fun e w' => e = .returned (.bool (okS x)) ∧ w' = w) := below_any x
  have HY : Hid (∀ w, Calls Try.prog 39 #[.int .i64 y] w fun e w' => e = .returned (.bool (okS y)) ∧ w' = w) := below_any y
  have HZ : Hid (∀ w, Calls Try.prog 39 #[.int .i64 z] w fun e w' => e = .returned (.bool (okS z)) ∧ w' = w) := below_any z
  have ex : Hid (okS3 x y z = (okS x && okS y && okS z)) := rfl
  generalize okS x = p1 at *
  generalize okS y = p2 at *
  generalize okS z = p3 at *
  generalize okS3 x y z = R at *
  have hx : Ext w (w.alloc (.cells #[.int .i64 x, .int .i64 y, .int .i64 z] 24)) := (Ext.refl w).alloc _
  cases p1 <;> cases p2 <;> cases p3
  all_goals
    go_enter Try.func26, Try.ntmps26
    go_wp2_with (first | (go_at_call_of 39 (Value.int IntKind.i64 x); refine (HX.out _).mono ?_; rintro e wx ⟨rfl, hwx⟩; have hwy := hwx.symm; clear hwx; subst hwy) | (go_at_call_of 39 (Value.int IntKind.i64 y); refine (HY.out _).mono ?_; rintro e wx ⟨rfl, hwx⟩; have hwy := hwx.symm; clear hwx; subst hwy) | (go_at_call_of 39 (Value.int IntKind.i64 z); refine (HZ.out _).mono ?_; rintro e wx ⟨rfl, hwx⟩; have hwy := hwx.symm; clear hwx; subst hwy))
    go_ret
    rw [ex.out]
    exact ⟨by first | rfl | simp, hx⟩
/-- how far it is -/
def okT (s0 s1 s2 n : Int) : Bool := if n = 0 then decide (s0 = 0 ∧ s1 = 0 ∧ s2 = 0) else decide (0 < n) && decide (n < 256) && okS3 s0 s1 s2
theorem okT_bounds {s0 s1 s2 n : Int} (h : okT s0 s1 s2 n = true) : 0 ≤ n ∧ n < 256 ∧ (-9007199254740992 < s0 ∧ s0 < 9007199254740992) ∧ (-9007199254740992 < s1 ∧ s1 < 9007199254740992) ∧ (-9007199254740992 < s2 ∧ s2 < 9007199254740992) := by
  unfold okT at h
  by_cases hn : n = 0
  · rw [if_pos hn] at h
    have := of_decide_eq_true h
    omega
  · rw [if_neg hn] at h
    unfold okS3 at h
    simp only [Bool.and_eq_true, decide_eq_true_eq] at h
    obtain ⟨⟨h1, h2⟩, ⟨h3, h4⟩, h5⟩ := h
    exact ⟨by omega, h2, okS_iff.1 h3, okS_iff.1 h4, okS_iff.1 h5⟩
set_option maxRecDepth 20000 in
set_option maxHeartbeats 4000000 in
theorem isthin_any (s0 s1 s2 n : Int) (w : World) : Calls Try.prog 18 #[.agg #[.int .i64 s0, .int .i64 s1, .int .i64 s2, .int .i64 n]] w fun e w' => e = .returned (.bool (okT s0 s1 s2 n)) ∧ Ext w w' := by
  have HS : Hid (∀ w, Calls Try.prog 26 #[.agg #[.int .i64 s0, .int .i64 s1, .int .i64 s2]] w fun e w' => e = .returned (.bool (okS3 s0 s1 s2)) ∧ Ext w w') := issum_any s0 s1 s2
  by_cases hn : n = 0
  · subst hn
    have ex : Hid (okT s0 s1 s2 0 = decide (s0 = 0 ∧ s1 = 0 ∧ s2 = 0)) := rfl
    generalize okT s0 s1 s2 0 = R at *
    go_enter Try.func18, Try.ntmps18
    go_wp2_with fail
    all_goals
      go_ret
      exact ⟨by rw [ex.out]; simp [*], by repeat (first | with_reducible assumption | with_reducible exact Ext.refl _ | with_reducible refine Ext.drew ?_ | with_reducible refine Ext.drewN ?_ _ | with_reducible refine Ext.alloc ?_ _ | with_reducible refine Ext.set ?_ (by first | exact Nat.le_refl _ | (dsimp only; omega) | (simp; done)) _)⟩
  · have ex : Hid (okT s0 s1 s2 n = (decide (0 < n) && decide (n < 256) && okS3 s0 s1 s2)) := if_neg hn
    generalize okT s0 s1 s2 n = R at *
    generalize okS3 s0 s1 s2 = p at *
    by_cases hp : 0 < n
    · by_cases hq : n < 256
      · have er : R = p := by rw [ex.out]; simp [hp, hq]
        subst er
        clear ex
        go_enter Try.func18, Try.ntmps18
        go_wp2_with (go_at_call 26; refine (HS.out _).mono ?_; rintro e w1 ⟨rfl, x1⟩)
        go_ret
        exact ⟨rfl, Ext.trans (by repeat (first | with_reducible assumption | with_reducible exact Ext.refl _ | with_reducible refine Ext.drew ?_ | with_reducible refine Ext.drewN ?_ _ | with_reducible refine Ext.alloc ?_ _ | with_reducible refine Ext.set ?_ (by first | exact Nat.le_refl _ | (dsimp only; omega) | (simp; done)) _)) x1⟩
      · have er : R = false := by rw [ex.out]; simp [hq]
        subst er
        clear ex
        go_enter Try.func18, Try.ntmps18
        go_wp2_with fail
        go_ret
        exact ⟨rfl, by repeat (first | with_reducible assumption | with_reducible exact Ext.refl _ | with_reducible refine Ext.drew ?_ | with_reducible refine Ext.drewN ?_ _ | with_reducible refine Ext.alloc ?_ _ | with_reducible refine Ext.set ?_ (by first | exact Nat.le_refl _ | (dsimp only; omega) | (simp; done)) _)⟩
    · have er : R = false := by rw [ex.out]; simp [hp]
      subst er
      clear ex
      go_enter Try.func18, Try.ntmps18
      go_wp2_with fail
      go_ret
      exact ⟨rfl, by repeat (first | with_reducible assumption | with_reducible exact Ext.refl _ | with_reducible refine Ext.drew ?_ | with_reducible refine Ext.drewN ?_ _ | with_reducible refine Ext.alloc ?_ _ | with_reducible refine Ext.set ?_ (by first | exact Nat.le_refl _ | (dsimp only; omega) | (simp; done)) _)⟩
set_option maxRecDepth 20000 in
set_option maxHeartbeats 1000000 in
theorem numbersof_any (x y z : Int) (w : World) : Calls Try.prog 30 #[.agg #[.int .i64 x, .int .i64 y, .int .i64 z]] w fun e w' => e = .returned (.agg #[.int .i64 x, .int .i64 y, .int .i64 z]) ∧ Ext w w' := by
  go_enter Try.func30, Try.ntmps30
  go_wp2_with fail
  exact bodyPost_ret (v := .agg #[.int .i64 x, .int .i64 y, .int .i64 z]) (by simp [results, Try.results30, go_sem]) rfl ⟨rfl, by repeat (first | with_reducible assumption | with_reducible exact Ext.refl _ | with_reducible refine Ext.drew ?_ | with_reducible refine Ext.drewN ?_ _ | with_reducible refine Ext.alloc ?_ _ | with_reducible refine Ext.set ?_ (by first | exact Nat.le_refl _ | (dsimp only; omega) | (simp; done)) _)⟩
set_option maxRecDepth 20000 in
set_option maxHeartbeats 1000000 in
theorem vectorof_any (x y z : Int) (w : World) : Calls Try.prog 32 #[.agg #[.int .i64 x, .int .i64 y, .int .i64 z]] w fun e w' => e = .returned (.agg #[.int .i64 x, .int .i64 y, .int .i64 z]) ∧ Ext w w' := by
  go_enter Try.func32, Try.ntmps32
  go_wp2_with fail
  exact bodyPost_ret (v := .agg #[.int .i64 x, .int .i64 y, .int .i64 z]) (by simp [results, Try.results32, go_sem]) rfl ⟨rfl, by repeat (first | with_reducible assumption | with_reducible exact Ext.refl _ | with_reducible refine Ext.drew ?_ | with_reducible refine Ext.drewN ?_ _ | with_reducible refine Ext.alloc ?_ _ | with_reducible refine Ext.set ?_ (by first | exact Nat.le_refl _ | (dsimp only; omega) | (simp; done)) _)⟩
set_option maxHeartbeats 1000000 in
theorem plus1_any (a b c : Int) (w : World) (h : wrap64 (a + b) = c) : Calls Try.prog 31 #[.int .i64 a, .int .i64 b] w fun e w' => e = .returned (.tuple #[.int .i64 c, .int .i64 0]) ∧ Ext w w' := by
  subst h
  go_enter Try.func31, Try.ntmps31
  go_wp2_with fail
  go_ret2
  exact ⟨rfl, Ext.refl w⟩
theorem ratio_n (n p : Int) (w : World) (hp : 1 ≤ p ∧ p ≤ 32768) (h1 : -9223372036854775808 ≤ n) (h2 : n ≤ 9223372036854775807) :
    Calls Try.prog 33 #[.int .i64 n, .int .i64 p] w fun e w' => e = .returned (.tuple #[.int .i64 (fitR (nearI n p)).1, .int .i64 (fitR (nearI n p)).2]) ∧ Ext w w' := by
  have h := ratio_any n p w h1 h2 (by omega) (by omega)
  have e := share_word n 1 p (nearI n p) (by omega) (by
    have e : over (n * 1) p = n := by unfold over; rw [if_neg (by omega), Int.mul_one]
    rw [e, Int.natAbs_of_nonneg (by omega)]
    exact nearI_spec n p (by omega))
  rw [e] at h
  exact h

set_option maxRecDepth 20000 in
set_option maxHeartbeats 8000000 in
theorem thr_plus (a0 a1 a2 b0 b1 b2 r0 r1 r2 : Int) (w : World)
    (H0 : Hid (∀ w', Calls Try.prog 31 #[.int .i64 a0, .int .i64 b0] w' fun e w'' => e = .returned (.tuple #[.int .i64 r0, .int .i64 0]) ∧ Ext w' w''))
    (H1 : Hid (∀ w', Calls Try.prog 31 #[.int .i64 a1, .int .i64 b1] w' fun e w'' => e = .returned (.tuple #[.int .i64 r1, .int .i64 0]) ∧ Ext w' w''))
    (H2 : Hid (∀ w', Calls Try.prog 31 #[.int .i64 a2, .int .i64 b2] w' fun e w'' => e = .returned (.tuple #[.int .i64 r2, .int .i64 0]) ∧ Ext w' w'')) :
    Calls Try.prog 29 #[.agg #[.int .i64 a0, .int .i64 a1, .int .i64 a2], .agg #[.int .i64 b0, .int .i64 b1, .int .i64 b2], .func (.func 31) #[] #[]] w fun e w' => e = .returned (.tuple #[.agg #[.int .i64 r0, .int .i64 r1, .int .i64 r2], .int .i64 0]) ∧ Ext w w' := by
  have BA : Hid (HV ((((w.alloc (.cells #[.int .i64 a0, .int .i64 a1, .int .i64 a2] 56)).alloc (.cells #[.int .i64 b0, .int .i64 b1, .int .i64 b2] 56)).alloc (.cells #[.int .i64 0, .int .i64 0, .int .i64 0] 56)).alloc (.cells #[.int .i64 0, .int .i64 0, .int .i64 0] 56)) w.heap.size [.int .i64 a0, .int .i64 a1, .int .i64 a2]) := (((hv_at rfl).alloc _).alloc _).alloc _
  have BB : Hid (HV ((((w.alloc (.cells #[.int .i64 a0, .int .i64 a1, .int .i64 a2] 56)).alloc (.cells #[.int .i64 b0, .int .i64 b1, .int .i64 b2] 56)).alloc (.cells #[.int .i64 0, .int .i64 0, .int .i64 0] 56)).alloc (.cells #[.int .i64 0, .int .i64 0, .int .i64 0] 56)) (w.heap.size + 1) [.int .i64 b0, .int .i64 b1, .int .i64 b2]) := ((hv_at (by simp)).alloc _).alloc _
  have BR : Hid (HV ((((w.alloc (.cells #[.int .i64 a0, .int .i64 a1, .int .i64 a2] 56)).alloc (.cells #[.int .i64 b0, .int .i64 b1, .int .i64 b2] 56)).alloc (.cells #[.int .i64 0, .int .i64 0, .int .i64 0] 56)).alloc (.cells #[.int .i64 0, .int .i64 0, .int .i64 0] 56)) (w.heap.size + 2) [.int .i64 0, .int .i64 0, .int .i64 0]) := (hv_at (by simp)).alloc _
  have BM : Hid (HV ((((w.alloc (.cells #[.int .i64 a0, .int .i64 a1, .int .i64 a2] 56)).alloc (.cells #[.int .i64 b0, .int .i64 b1, .int .i64 b2] 56)).alloc (.cells #[.int .i64 0, .int .i64 0, .int .i64 0] 56)).alloc (.cells #[.int .i64 0, .int .i64 0, .int .i64 0] 56)) (w.heap.size + 3) [.int .i64 0, .int .i64 0, .int .i64 0]) := hv_at (by simp)
  have HX : Hid (Ext w ((((w.alloc (.cells #[.int .i64 a0, .int .i64 a1, .int .i64 a2] 56)).alloc (.cells #[.int .i64 b0, .int .i64 b1, .int .i64 b2] 56)).alloc (.cells #[.int .i64 0, .int .i64 0, .int .i64 0] 56)).alloc (.cells #[.int .i64 0, .int .i64 0, .int .i64 0] 56))) := ((((Ext.refl w).alloc _).alloc _).alloc _).alloc _
  have lt2 : Hid (w.heap.size ≤ w.heap.size + 2) := Nat.le_add_right _ _
  have lt3 : Hid (w.heap.size ≤ w.heap.size + 3) := Nat.le_add_right _ _
  go_enter Try.func29, Try.ntmps29
  go_wp2_with fail
  generalize ((((w.alloc (.cells #[.int .i64 a0, .int .i64 a1, .int .i64 a2] 56)).alloc (.cells #[.int .i64 b0, .int .i64 b1, .int .i64 b2] 56)).alloc (.cells #[.int .i64 0, .int .i64 0, .int .i64 0] 56)).alloc (.cells #[.int .i64 0, .int .i64 0, .int .i64 0] 56)) = wa at *
  refine wp_loop_rounds 4 ?_
  rw [rounds_succ]
  go_upto_region 5 with fail
  have qa : wa.cell? ⟨w.heap.size, 0, none⟩ = some (.int .i64 a0) := BA.out.c 0 rfl
  have qb : wa.cell? ⟨w.heap.size + 1, 0, none⟩ = some (.int .i64 b0) := BB.out.c 0 rfl
  go_region_held3 (fun w' => w'.cell? ⟨w.heap.size, 0, none⟩ = some (.int .i64 a0) ∧ w'.cell? ⟨w.heap.size + 1, 0, none⟩ = some (.int .i64 b0)) (first | (simp [*]; done) | skip) (first | (go_at_call 31; refine (H0.out _).mono ?_; rintro e ua ⟨rfl, xa0⟩; have xa : Ext wa ua := Ext.trans (by repeat (first | with_reducible assumption | with_reducible exact Ext.refl _ | with_reducible refine Ext.drew ?_ | with_reducible refine Ext.drewN ?_ _ | with_reducible refine Ext.alloc ?_ _ | with_reducible refine Ext.set ?_ (by first | exact Nat.le_refl _ | (dsimp only; omega) | (simp; done)) _)) xa0; clear xa0; have ka : ua.cell? ⟨w.heap.size, 0, none⟩ = some (.int .i64 a0) := (BA.out.ext xa).c 0 rfl; have kb : ua.cell? ⟨w.heap.size + 1, 0, none⟩ = some (.int .i64 b0) := (BB.out.ext xa).c 0 rfl))
  have BA : Hid (HV ua w.heap.size [.int .i64 a0, .int .i64 a1, .int .i64 a2]) := BA.out.ext xa
  have BB : Hid (HV ua (w.heap.size + 1) [.int .i64 b0, .int .i64 b1, .int .i64 b2]) := BB.out.ext xa
  have BR : Hid (HV ua (w.heap.size + 2) [.int .i64 0, .int .i64 0, .int .i64 0]) := BR.out.ext xa
  have BM : Hid (HV ua (w.heap.size + 3) [.int .i64 0, .int .i64 0, .int .i64 0]) := BM.out.ext xa
  have HX : Hid (Ext w ua) := HX.out.trans xa
  clear qa qb ka kb xa H0
  have m0 : ua.cell? ⟨w.heap.size + 3, 0, none⟩ = some (.int .i64 0) := BM.out.c 0 rfl
  have m1 : ua.frozen? ⟨w.heap.size + 3, 0, none⟩ = false := BM.out.f 0 rfl
  go_wp2_with fail
  have BA : Hid (HV (ua.setCell ⟨w.heap.size + 3, 0, none⟩ (.int .i64 r0)) w.heap.size [.int .i64 a0, .int .i64 a1, .int .i64 a2]) := BA.out.far (by omega)
  have BB : Hid (HV (ua.setCell ⟨w.heap.size + 3, 0, none⟩ (.int .i64 r0)) (w.heap.size + 1) [.int .i64 b0, .int .i64 b1, .int .i64 b2]) := BB.out.far (by omega)
  have BR : Hid (HV (ua.setCell ⟨w.heap.size + 3, 0, none⟩ (.int .i64 r0)) (w.heap.size + 2) [.int .i64 0, .int .i64 0, .int .i64 0]) := BR.out.far (by omega)
  have BM : Hid (HV (ua.setCell ⟨w.heap.size + 3, 0, none⟩ (.int .i64 r0)) (w.heap.size + 3) [.int .i64 r0, .int .i64 0, .int .i64 0]) := BM.out.set 0 _
  have HX : Hid (Ext w (ua.setCell ⟨w.heap.size + 3, 0, none⟩ (.int .i64 r0))) := HX.out.set (p := ⟨w.heap.size + 3, 0, none⟩) lt3.out _
  clear m0 m1
  generalize (ua.setCell ⟨w.heap.size + 3, 0, none⟩ (.int .i64 r0)) = va at *
  rw [rounds_succ]
  go_upto_region 5 with fail
  have qa : va.cell? ⟨w.heap.size, 1, none⟩ = some (.int .i64 a1) := BA.out.c 1 rfl
  have qb : va.cell? ⟨w.heap.size + 1, 1, none⟩ = some (.int .i64 b1) := BB.out.c 1 rfl
  go_region_held3 (fun w' => w'.cell? ⟨w.heap.size, 1, none⟩ = some (.int .i64 a1) ∧ w'.cell? ⟨w.heap.size + 1, 1, none⟩ = some (.int .i64 b1)) (first | (simp [*]; done) | skip) (first | (go_at_call 31; refine (H1.out _).mono ?_; rintro e ub ⟨rfl, xb0⟩; have xb : Ext va ub := Ext.trans (by repeat (first | with_reducible assumption | with_reducible exact Ext.refl _ | with_reducible refine Ext.drew ?_ | with_reducible refine Ext.drewN ?_ _ | with_reducible refine Ext.alloc ?_ _ | with_reducible refine Ext.set ?_ (by first | exact Nat.le_refl _ | (dsimp only; omega) | (simp; done)) _)) xb0; clear xb0; have ka : ub.cell? ⟨w.heap.size, 1, none⟩ = some (.int .i64 a1) := (BA.out.ext xb).c 1 rfl; have kb : ub.cell? ⟨w.heap.size + 1, 1, none⟩ = some (.int .i64 b1) := (BB.out.ext xb).c 1 rfl))
  have BA : Hid (HV ub w.heap.size [.int .i64 a0, .int .i64 a1, .int .i64 a2]) := BA.out.ext xb
  have BB : Hid (HV ub (w.heap.size + 1) [.int .i64 b0, .int .i64 b1, .int .i64 b2]) := BB.out.ext xb
  have BR : Hid (HV ub (w.heap.size + 2) [.int .i64 0, .int .i64 0, .int .i64 0]) := BR.out.ext xb
  have BM : Hid (HV ub (w.heap.size + 3) [.int .i64 r0, .int .i64 0, .int .i64 0]) := BM.out.ext xb
  have HX : Hid (Ext w ub) := HX.out.trans xb
  clear qa qb ka kb xb H1
  have m0 : ub.cell? ⟨w.heap.size + 3, 1, none⟩ = some (.int .i64 0) := BM.out.c 1 rfl
  have m1 : ub.frozen? ⟨w.heap.size + 3, 1, none⟩ = false := BM.out.f 1 rfl
  go_wp2_with fail
  have BA : Hid (HV (ub.setCell ⟨w.heap.size + 3, 1, none⟩ (.int .i64 r1)) w.heap.size [.int .i64 a0, .int .i64 a1, .int .i64 a2]) := BA.out.far (by omega)
  have BB : Hid (HV (ub.setCell ⟨w.heap.size + 3, 1, none⟩ (.int .i64 r1)) (w.heap.size + 1) [.int .i64 b0, .int .i64 b1, .int .i64 b2]) := BB.out.far (by omega)
  have BR : Hid (HV (ub.setCell ⟨w.heap.size + 3, 1, none⟩ (.int .i64 r1)) (w.heap.size + 2) [.int .i64 0, .int .i64 0, .int .i64 0]) := BR.out.far (by omega)
  have BM : Hid (HV (ub.setCell ⟨w.heap.size + 3, 1, none⟩ (.int .i64 r1)) (w.heap.size + 3) [.int .i64 r0, .int .i64 r1, .int .i64 0]) := BM.out.set 1 _
  have HX : Hid (Ext w (ub.setCell ⟨w.heap.size + 3, 1, none⟩ (.int .i64 r1))) := HX.out.set (p := ⟨w.heap.size + 3, 1, none⟩) lt3.out _
  clear m0 m1
  generalize (ub.setCell ⟨w.heap.size + 3, 1, none⟩ (.int .i64 r1)) = vb at *
  rw [rounds_succ]
  go_upto_region 5 with fail
  have qa : vb.cell? ⟨w.heap.size, 2, none⟩ = some (.int .i64 a2) := BA.out.c 2 rfl
  have qb : vb.cell? ⟨w.heap.size + 1, 2, none⟩ = some (.int .i64 b2) := BB.out.c 2 rfl
  go_region_held3 (fun w' => w'.cell? ⟨w.heap.size, 2, none⟩ = some (.int .i64 a2) ∧ w'.cell? ⟨w.heap.size + 1, 2, none⟩ = some (.int .i64 b2)) (first | (simp [*]; done) | skip) (first | (go_at_call 31; refine (H2.out _).mono ?_; rintro e uc ⟨rfl, xc0⟩; have xc : Ext vb uc := Ext.trans (by repeat (first | with_reducible assumption | with_reducible exact Ext.refl _ | with_reducible refine Ext.drew ?_ | with_reducible refine Ext.drewN ?_ _ | with_reducible refine Ext.alloc ?_ _ | with_reducible refine Ext.set ?_ (by first | exact Nat.le_refl _ | (dsimp only; omega) | (simp; done)) _)) xc0; clear xc0; have ka : uc.cell? ⟨w.heap.size, 2, none⟩ = some (.int .i64 a2) := (BA.out.ext xc).c 2 rfl; have kb : uc.cell? ⟨w.heap.size + 1, 2, none⟩ = some (.int .i64 b2) := (BB.out.ext xc).c 2 rfl))
  have BA : Hid (HV uc w.heap.size [.int .i64 a0, .int .i64 a1, .int .i64 a2]) := BA.out.ext xc
  have BB : Hid (HV uc (w.heap.size + 1) [.int .i64 b0, .int .i64 b1, .int .i64 b2]) := BB.out.ext xc
  have BR : Hid (HV uc (w.heap.size + 2) [.int .i64 0, .int .i64 0, .int .i64 0]) := BR.out.ext xc
  have BM : Hid (HV uc (w.heap.size + 3) [.int .i64 r0, .int .i64 r1, .int .i64 0]) := BM.out.ext xc
  have HX : Hid (Ext w uc) := HX.out.trans xc
  clear qa qb ka kb xc H2
  have m0 : uc.cell? ⟨w.heap.size + 3, 2, none⟩ = some (.int .i64 0) := BM.out.c 2 rfl
  have m1 : uc.frozen? ⟨w.heap.size + 3, 2, none⟩ = false := BM.out.f 2 rfl
  go_wp2_with fail
  have BA : Hid (HV (uc.setCell ⟨w.heap.size + 3, 2, none⟩ (.int .i64 r2)) w.heap.size [.int .i64 a0, .int .i64 a1, .int .i64 a2]) := BA.out.far (by omega)
  have BB : Hid (HV (uc.setCell ⟨w.heap.size + 3, 2, none⟩ (.int .i64 r2)) (w.heap.size + 1) [.int .i64 b0, .int .i64 b1, .int .i64 b2]) := BB.out.far (by omega)
  have BR : Hid (HV (uc.setCell ⟨w.heap.size + 3, 2, none⟩ (.int .i64 r2)) (w.heap.size + 2) [.int .i64 0, .int .i64 0, .int .i64 0]) := BR.out.far (by omega)
  have BM : Hid (HV (uc.setCell ⟨w.heap.size + 3, 2, none⟩ (.int .i64 r2)) (w.heap.size + 3) [.int .i64 r0, .int .i64 r1, .int .i64 r2]) := BM.out.set 2 _
  have HX : Hid (Ext w (uc.setCell ⟨w.heap.size + 3, 2, none⟩ (.int .i64 r2))) := HX.out.set (p := ⟨w.heap.size + 3, 2, none⟩) lt3.out _
  clear m0 m1
  generalize (uc.setCell ⟨w.heap.size + 3, 2, none⟩ (.int .i64 r2)) = vc at *
  rw [rounds_succ]
  obtain ⟨m0, m1, m2⟩ := BM.out.k3
  obtain ⟨y0, y1, y2⟩ := BR.out.k3
  obtain ⟨f0, f1, f2⟩ := BR.out.z3
  go_wp2_with fail
  refine bodyPost_ret (v := .tuple #[.agg #[.int .i64 r0, .int .i64 r1, .int .i64 r2], .int .i64 0]) (by simp [results, Try.results29, go_sem, y0, y1, y2]) rfl ⟨rfl, ?_⟩
  exact Ext.set (Ext.set (Ext.set HX.out lt2.out _) lt2.out _) lt2.out _
set_option maxRecDepth 20000 in
set_option maxHeartbeats 8000000 in
theorem thr_ratio0 (a0 a1 a2 b0 b1 b2  : Int) (w : World)
    (H0 : Hid (∀ w', Calls Try.prog 33 #[.int .i64 a0, .int .i64 b0] w' fun e w'' => e = .returned (.tuple #[.int .i64 0, .int .i64 2]) ∧ Ext w' w'')) :
    Calls Try.prog 29 #[.agg #[.int .i64 a0, .int .i64 a1, .int .i64 a2], .agg #[.int .i64 b0, .int .i64 b1, .int .i64 b2], .func (.func 33) #[] #[]] w fun e w' => e = .returned (.tuple #[.agg #[.int .i64 0, .int .i64 0, .int .i64 0], .int .i64 2]) ∧ Ext w w' := by
  have BA : Hid (HV ((((w.alloc (.cells #[.int .i64 a0, .int .i64 a1, .int .i64 a2] 56)).alloc (.cells #[.int .i64 b0, .int .i64 b1, .int .i64 b2] 56)).alloc (.cells #[.int .i64 0, .int .i64 0, .int .i64 0] 56)).alloc (.cells #[.int .i64 0, .int .i64 0, .int .i64 0] 56)) w.heap.size [.int .i64 a0, .int .i64 a1, .int .i64 a2]) := (((hv_at rfl).alloc _).alloc _).alloc _
  have BB : Hid (HV ((((w.alloc (.cells #[.int .i64 a0, .int .i64 a1, .int .i64 a2] 56)).alloc (.cells #[.int .i64 b0, .int .i64 b1, .int .i64 b2] 56)).alloc (.cells #[.int .i64 0, .int .i64 0, .int .i64 0] 56)).alloc (.cells #[.int .i64 0, .int .i64 0, .int .i64 0] 56)) (w.heap.size + 1) [.int .i64 b0, .int .i64 b1, .int .i64 b2]) := ((hv_at (by simp)).alloc _).alloc _
  have BR : Hid (HV ((((w.alloc (.cells #[.int .i64 a0, .int .i64 a1, .int .i64 a2] 56)).alloc (.cells #[.int .i64 b0, .int .i64 b1, .int .i64 b2] 56)).alloc (.cells #[.int .i64 0, .int .i64 0, .int .i64 0] 56)).alloc (.cells #[.int .i64 0, .int .i64 0, .int .i64 0] 56)) (w.heap.size + 2) [.int .i64 0, .int .i64 0, .int .i64 0]) := (hv_at (by simp)).alloc _
  have BM : Hid (HV ((((w.alloc (.cells #[.int .i64 a0, .int .i64 a1, .int .i64 a2] 56)).alloc (.cells #[.int .i64 b0, .int .i64 b1, .int .i64 b2] 56)).alloc (.cells #[.int .i64 0, .int .i64 0, .int .i64 0] 56)).alloc (.cells #[.int .i64 0, .int .i64 0, .int .i64 0] 56)) (w.heap.size + 3) [.int .i64 0, .int .i64 0, .int .i64 0]) := hv_at (by simp)
  have HX : Hid (Ext w ((((w.alloc (.cells #[.int .i64 a0, .int .i64 a1, .int .i64 a2] 56)).alloc (.cells #[.int .i64 b0, .int .i64 b1, .int .i64 b2] 56)).alloc (.cells #[.int .i64 0, .int .i64 0, .int .i64 0] 56)).alloc (.cells #[.int .i64 0, .int .i64 0, .int .i64 0] 56))) := ((((Ext.refl w).alloc _).alloc _).alloc _).alloc _
  have lt2 : Hid (w.heap.size ≤ w.heap.size + 2) := Nat.le_add_right _ _
  have lt3 : Hid (w.heap.size ≤ w.heap.size + 3) := Nat.le_add_right _ _
  go_enter Try.func29, Try.ntmps29
  go_wp2_with fail
  generalize ((((w.alloc (.cells #[.int .i64 a0, .int .i64 a1, .int .i64 a2] 56)).alloc (.cells #[.int .i64 b0, .int .i64 b1, .int .i64 b2] 56)).alloc (.cells #[.int .i64 0, .int .i64 0, .int .i64 0] 56)).alloc (.cells #[.int .i64 0, .int .i64 0, .int .i64 0] 56)) = wa at *
  refine wp_loop_rounds 4 ?_
  rw [rounds_succ]
  go_upto_region 5 with fail
  have qa : wa.cell? ⟨w.heap.size, 0, none⟩ = some (.int .i64 a0) := BA.out.c 0 rfl
  have qb : wa.cell? ⟨w.heap.size + 1, 0, none⟩ = some (.int .i64 b0) := BB.out.c 0 rfl
  go_region_held3 (fun w' => w'.cell? ⟨w.heap.size, 0, none⟩ = some (.int .i64 a0) ∧ w'.cell? ⟨w.heap.size + 1, 0, none⟩ = some (.int .i64 b0)) (first | (simp [*]; done) | skip) (first | (go_at_call 33; refine (H0.out _).mono ?_; rintro e ua ⟨rfl, xa0⟩; have xa : Ext wa ua := Ext.trans (by repeat (first | with_reducible assumption | with_reducible exact Ext.refl _ | with_reducible refine Ext.drew ?_ | with_reducible refine Ext.drewN ?_ _ | with_reducible refine Ext.alloc ?_ _ | with_reducible refine Ext.set ?_ (by first | exact Nat.le_refl _ | (dsimp only; omega) | (simp; done)) _)) xa0; clear xa0; have ka : ua.cell? ⟨w.heap.size, 0, none⟩ = some (.int .i64 a0) := (BA.out.ext xa).c 0 rfl; have kb : ua.cell? ⟨w.heap.size + 1, 0, none⟩ = some (.int .i64 b0) := (BB.out.ext xa).c 0 rfl))
  have BA : Hid (HV ua w.heap.size [.int .i64 a0, .int .i64 a1, .int .i64 a2]) := BA.out.ext xa
  have BB : Hid (HV ua (w.heap.size + 1) [.int .i64 b0, .int .i64 b1, .int .i64 b2]) := BB.out.ext xa
  have BR : Hid (HV ua (w.heap.size + 2) [.int .i64 0, .int .i64 0, .int .i64 0]) := BR.out.ext xa
  have BM : Hid (HV ua (w.heap.size + 3) [.int .i64 0, .int .i64 0, .int .i64 0]) := BM.out.ext xa
  have HX : Hid (Ext w ua) := HX.out.trans xa
  clear qa qb ka kb xa H0
  obtain ⟨y0, y1, y2⟩ := BR.out.k3
  obtain ⟨f0, f1, f2⟩ := BR.out.z3
  go_wp2_with fail
  refine bodyPost_ret (v := .tuple #[.agg #[.int .i64 0, .int .i64 0, .int .i64 0], .int .i64 2]) (by simp [results, Try.results29, go_sem, y0, y1, y2]) rfl ⟨rfl, ?_⟩
  exact Ext.set (Ext.set (Ext.set HX.out lt2.out _) lt2.out _) lt2.out _
set_option maxRecDepth 20000 in
set_option maxHeartbeats 8000000 in
theorem thr_ratio1 (a0 a1 a2 b0 b1 b2 r0 : Int) (w : World)
    (H0 : Hid (∀ w', Calls Try.prog 33 #[.int .i64 a0, .int .i64 b0] w' fun e w'' => e = .returned (.tuple #[.int .i64 r0, .int .i64 0]) ∧ Ext w' w''))
    (H1 : Hid (∀ w', Calls Try.prog 33 #[.int .i64 a1, .int .i64 b1] w' fun e w'' => e = .returned (.tuple #[.int .i64 0, .int .i64 2]) ∧ Ext w' w'')) :
    Calls Try.prog 29 #[.agg #[.int .i64 a0, .int .i64 a1, .int .i64 a2], .agg #[.int .i64 b0, .int .i64 b1, .int .i64 b2], .func (.func 33) #[] #[]] w fun e w' => e = .returned (.tuple #[.agg #[.int .i64 0, .int .i64 0, .int .i64 0], .int .i64 2]) ∧ Ext w w' := by
  have BA : Hid (HV ((((w.alloc (.cells #[.int .i64 a0, .int .i64 a1, .int .i64 a2] 56)).alloc (.cells #[.int .i64 b0, .int .i64 b1, .int .i64 b2] 56)).alloc (.cells #[.int .i64 0, .int .i64 0, .int .i64 0] 56)).alloc (.cells #[.int .i64 0, .int .i64 0, .int .i64 0] 56)) w.heap.size [.int .i64 a0, .int .i64 a1, .int .i64 a2]) := (((hv_at rfl).alloc _).alloc _).alloc _
  have BB : Hid (HV ((((w.alloc (.cells #[.int .i64 a0, .int .i64 a1, .int .i64 a2] 56)).alloc (.cells #[.int .i64 b0, .int .i64 b1, .int .i64 b2] 56)).alloc (.cells #[.int .i64 0, .int .i64 0, .int .i64 0] 56)).alloc (.cells #[.int .i64 0, .int .i64 0, .int .i64 0] 56)) (w.heap.size + 1) [.int .i64 b0, .int .i64 b1, .int .i64 b2]) := ((hv_at (by simp)).alloc _).alloc _
  have BR : Hid (HV ((((w.alloc (.cells #[.int .i64 a0, .int .i64 a1, .int .i64 a2] 56)).alloc (.cells #[.int .i64 b0, .int .i64 b1, .int .i64 b2] 56)).alloc (.cells #[.int .i64 0, .int .i64 0, .int .i64 0] 56)).alloc (.cells #[.int .i64 0, .int .i64 0, .int .i64 0] 56)) (w.heap.size + 2) [.int .i64 0, .int .i64 0, .int .i64 0]) := (hv_at (by simp)).alloc _
  have BM : Hid (HV ((((w.alloc (.cells #[.int .i64 a0, .int .i64 a1, .int .i64 a2] 56)).alloc (.cells #[.int .i64 b0, .int .i64 b1, .int .i64 b2] 56)).alloc (.cells #[.int .i64 0, .int .i64 0, .int .i64 0] 56)).alloc (.cells #[.int .i64 0, .int .i64 0, .int .i64 0] 56)) (w.heap.size + 3) [.int .i64 0, .int .i64 0, .int .i64 0]) := hv_at (by simp)
  have HX : Hid (Ext w ((((w.alloc (.cells #[.int .i64 a0, .int .i64 a1, .int .i64 a2] 56)).alloc (.cells #[.int .i64 b0, .int .i64 b1, .int .i64 b2] 56)).alloc (.cells #[.int .i64 0, .int .i64 0, .int .i64 0] 56)).alloc (.cells #[.int .i64 0, .int .i64 0, .int .i64 0] 56))) := ((((Ext.refl w).alloc _).alloc _).alloc _).alloc _
  have lt2 : Hid (w.heap.size ≤ w.heap.size + 2) := Nat.le_add_right _ _
  have lt3 : Hid (w.heap.size ≤ w.heap.size + 3) := Nat.le_add_right _ _
  go_enter Try.func29, Try.ntmps29
  go_wp2_with fail
  generalize ((((w.alloc (.cells #[.int .i64 a0, .int .i64 a1, .int .i64 a2] 56)).alloc (.cells #[.int .i64 b0, .int .i64 b1, .int .i64 b2] 56)).alloc (.cells #[.int .i64 0, .int .i64 0, .int .i64 0] 56)).alloc (.cells #[.int .i64 0, .int .i64 0, .int .i64 0] 56)) = wa at *
  refine wp_loop_rounds 4 ?_
  rw [rounds_succ]
  go_upto_region 5 with fail
  have qa : wa.cell? ⟨w.heap.size, 0, none⟩ = some (.int .i64 a0) := BA.out.c 0 rfl
  have qb : wa.cell? ⟨w.heap.size + 1, 0, none⟩ = some (.int .i64 b0) := BB.out.c 0 rfl
  go_region_held3 (fun w' => w'.cell? ⟨w.heap.size, 0, none⟩ = some (.int .i64 a0) ∧ w'.cell? ⟨w.heap.size + 1, 0, none⟩ = some (.int .i64 b0)) (first | (simp [*]; done) | skip) (first | (go_at_call 33; refine (H0.out _).mono ?_; rintro e ua ⟨rfl, xa0⟩; have xa : Ext wa ua := Ext.trans (by repeat (first | with_reducible assumption | with_reducible exact Ext.refl _ | with_reducible refine Ext.drew ?_ | with_reducible refine Ext.drewN ?_ _ | with_reducible refine Ext.alloc ?_ _ | with_reducible refine Ext.set ?_ (by first | exact Nat.le_refl _ | (dsimp only; omega) | (simp; done)) _)) xa0; clear xa0; have ka : ua.cell? ⟨w.heap.size, 0, none⟩ = some (.int .i64 a0) := (BA.out.ext xa).c 0 rfl; have kb : ua.cell? ⟨w.heap.size + 1, 0, none⟩ = some (.int .i64 b0) := (BB.out.ext xa).c 0 rfl))
  have BA : Hid (HV ua w.heap.size [.int .i64 a0, .int .i64 a1, .int .i64 a2]) := BA.out.ext xa
  have BB : Hid (HV ua (w.heap.size + 1) [.int .i64 b0, .int .i64 b1, .int .i64 b2]) := BB.out.ext xa
  have BR : Hid (HV ua (w.heap.size + 2) [.int .i64 0, .int .i64 0, .int .i64 0]) := BR.out.ext xa
  have BM : Hid (HV ua (w.heap.size + 3) [.int .i64 0, .int .i64 0, .int .i64 0]) := BM.out.ext xa
  have HX : Hid (Ext w ua) := HX.out.trans xa
  clear qa qb ka kb xa H0
  have m0 : ua.cell? ⟨w.heap.size + 3, 0, none⟩ = some (.int .i64 0) := BM.out.c 0 rfl
  have m1 : ua.frozen? ⟨w.heap.size + 3, 0, none⟩ = false := BM.out.f 0 rfl
  go_wp2_with fail
  have BA : Hid (HV (ua.setCell ⟨w.heap.size + 3, 0, none⟩ (.int .i64 r0)) w.heap.size [.int .i64 a0, .int .i64 a1, .int .i64 a2]) := BA.out.far (by omega)
  have BB : Hid (HV (ua.setCell ⟨w.heap.size + 3, 0, none⟩ (.int .i64 r0)) (w.heap.size + 1) [.int .i64 b0, .int .i64 b1, .int .i64 b2]) := BB.out.far (by omega)
  have BR : Hid (HV (ua.setCell ⟨w.heap.size + 3, 0, none⟩ (.int .i64 r0)) (w.heap.size + 2) [.int .i64 0, .int .i64 0, .int .i64 0]) := BR.out.far (by omega)
  have BM : Hid (HV (ua.setCell ⟨w.heap.size + 3, 0, none⟩ (.int .i64 r0)) (w.heap.size + 3) [.int .i64 r0, .int .i64 0, .int .i64 0]) := BM.out.set 0 _
  have HX : Hid (Ext w (ua.setCell ⟨w.heap.size + 3, 0, none⟩ (.int .i64 r0))) := HX.out.set (p := ⟨w.heap.size + 3, 0, none⟩) lt3.out _
  clear m0 m1
  generalize (ua.setCell ⟨w.heap.size + 3, 0, none⟩ (.int .i64 r0)) = va at *
  rw [rounds_succ]
  go_upto_region 5 with fail
  have qa : va.cell? ⟨w.heap.size, 1, none⟩ = some (.int .i64 a1) := BA.out.c 1 rfl
  have qb : va.cell? ⟨w.heap.size + 1, 1, none⟩ = some (.int .i64 b1) := BB.out.c 1 rfl
  go_region_held3 (fun w' => w'.cell? ⟨w.heap.size, 1, none⟩ = some (.int .i64 a1) ∧ w'.cell? ⟨w.heap.size + 1, 1, none⟩ = some (.int .i64 b1)) (first | (simp [*]; done) | skip) (first | (go_at_call 33; refine (H1.out _).mono ?_; rintro e ub ⟨rfl, xb0⟩; have xb : Ext va ub := Ext.trans (by repeat (first | with_reducible assumption | with_reducible exact Ext.refl _ | with_reducible refine Ext.drew ?_ | with_reducible refine Ext.drewN ?_ _ | with_reducible refine Ext.alloc ?_ _ | with_reducible refine Ext.set ?_ (by first | exact Nat.le_refl _ | (dsimp only; omega) | (simp; done)) _)) xb0; clear xb0; have ka : ub.cell? ⟨w.heap.size, 1, none⟩ = some (.int .i64 a1) := (BA.out.ext xb).c 1 rfl; have kb : ub.cell? ⟨w.heap.size + 1, 1, none⟩ = some (.int .i64 b1) := (BB.out.ext xb).c 1 rfl))
  have BA : Hid (HV ub w.heap.size [.int .i64 a0, .int .i64 a1, .int .i64 a2]) := BA.out.ext xb
  have BB : Hid (HV ub (w.heap.size + 1) [.int .i64 b0, .int .i64 b1, .int .i64 b2]) := BB.out.ext xb
  have BR : Hid (HV ub (w.heap.size + 2) [.int .i64 0, .int .i64 0, .int .i64 0]) := BR.out.ext xb
  have BM : Hid (HV ub (w.heap.size + 3) [.int .i64 r0, .int .i64 0, .int .i64 0]) := BM.out.ext xb
  have HX : Hid (Ext w ub) := HX.out.trans xb
  clear qa qb ka kb xb H1
  obtain ⟨y0, y1, y2⟩ := BR.out.k3
  obtain ⟨f0, f1, f2⟩ := BR.out.z3
  go_wp2_with fail
  refine bodyPost_ret (v := .tuple #[.agg #[.int .i64 0, .int .i64 0, .int .i64 0], .int .i64 2]) (by simp [results, Try.results29, go_sem, y0, y1, y2]) rfl ⟨rfl, ?_⟩
  exact Ext.set (Ext.set (Ext.set HX.out lt2.out _) lt2.out _) lt2.out _
set_option maxRecDepth 20000 in
set_option maxHeartbeats 8000000 in
theorem thr_ratio2 (a0 a1 a2 b0 b1 b2 r0 r1 : Int) (w : World)
    (H0 : Hid (∀ w', Calls Try.prog 33 #[.int .i64 a0, .int .i64 b0] w' fun e w'' => e = .returned (.tuple #[.int .i64 r0, .int .i64 0]) ∧ Ext w' w''))
    (H1 : Hid (∀ w', Calls Try.prog 33 #[.int .i64 a1, .int .i64 b1] w' fun e w'' => e = .returned (.tuple #[.int .i64 r1, .int .i64 0]) ∧ Ext w' w''))
    (H2 : Hid (∀ w', Calls Try.prog 33 #[.int .i64 a2, .int .i64 b2] w' fun e w'' => e = .returned (.tuple #[.int .i64 0, .int .i64 2]) ∧ Ext w' w'')) :
    Calls Try.prog 29 #[.agg #[.int .i64 a0, .int .i64 a1, .int .i64 a2], .agg #[.int .i64 b0, .int .i64 b1, .int .i64 b2], .func (.func 33) #[] #[]] w fun e w' => e = .returned (.tuple #[.agg #[.int .i64 0, .int .i64 0, .int .i64 0], .int .i64 2]) ∧ Ext w w' := by
  have BA : Hid (HV ((((w.alloc (.cells #[.int .i64 a0, .int .i64 a1, .int .i64 a2] 56)).alloc (.cells #[.int .i64 b0, .int .i64 b1, .int .i64 b2] 56)).alloc (.cells #[.int .i64 0, .int .i64 0, .int .i64 0] 56)).alloc (.cells #[.int .i64 0, .int .i64 0, .int .i64 0] 56)) w.heap.size [.int .i64 a0, .int .i64 a1, .int .i64 a2]) := (((hv_at rfl).alloc _).alloc _).alloc _
  have BB : Hid (HV ((((w.alloc (.cells #[.int .i64 a0, .int .i64 a1, .int .i64 a2] 56)).alloc (.cells #[.int .i64 b0, .int .i64 b1, .int .i64 b2] 56)).alloc (.cells #[.int .i64 0, .int .i64 0, .int .i64 0] 56)).alloc (.cells #[.int .i64 0, .int .i64 0, .int .i64 0] 56)) (w.heap.size + 1) [.int .i64 b0, .int .i64 b1, .int .i64 b2]) := ((hv_at (by simp)).alloc _).alloc _
  have BR : Hid (HV ((((w.alloc (.cells #[.int .i64 a0, .int .i64 a1, .int .i64 a2] 56)).alloc (.cells #[.int .i64 b0, .int .i64 b1, .int .i64 b2] 56)).alloc (.cells #[.int .i64 0, .int .i64 0, .int .i64 0] 56)).alloc (.cells #[.int .i64 0, .int .i64 0, .int .i64 0] 56)) (w.heap.size + 2) [.int .i64 0, .int .i64 0, .int .i64 0]) := (hv_at (by simp)).alloc _
  have BM : Hid (HV ((((w.alloc (.cells #[.int .i64 a0, .int .i64 a1, .int .i64 a2] 56)).alloc (.cells #[.int .i64 b0, .int .i64 b1, .int .i64 b2] 56)).alloc (.cells #[.int .i64 0, .int .i64 0, .int .i64 0] 56)).alloc (.cells #[.int .i64 0, .int .i64 0, .int .i64 0] 56)) (w.heap.size + 3) [.int .i64 0, .int .i64 0, .int .i64 0]) := hv_at (by simp)
  have HX : Hid (Ext w ((((w.alloc (.cells #[.int .i64 a0, .int .i64 a1, .int .i64 a2] 56)).alloc (.cells #[.int .i64 b0, .int .i64 b1, .int .i64 b2] 56)).alloc (.cells #[.int .i64 0, .int .i64 0, .int .i64 0] 56)).alloc (.cells #[.int .i64 0, .int .i64 0, .int .i64 0] 56))) := ((((Ext.refl w).alloc _).alloc _).alloc _).alloc _
  have lt2 : Hid (w.heap.size ≤ w.heap.size + 2) := Nat.le_add_right _ _
  have lt3 : Hid (w.heap.size ≤ w.heap.size + 3) := Nat.le_add_right _ _
  go_enter Try.func29, Try.ntmps29
  go_wp2_with fail
  generalize ((((w.alloc (.cells #[.int .i64 a0, .int .i64 a1, .int .i64 a2] 56)).alloc (.cells #[.int .i64 b0, .int .i64 b1, .int .i64 b2] 56)).alloc (.cells #[.int .i64 0, .int .i64 0, .int .i64 0] 56)).alloc (.cells #[.int .i64 0, .int .i64 0, .int .i64 0] 56)) = wa at *
  refine wp_loop_rounds 4 ?_
  rw [rounds_succ]
  go_upto_region 5 with fail
  have qa : wa.cell? ⟨w.heap.size, 0, none⟩ = some (.int .i64 a0) := BA.out.c 0 rfl
  have qb : wa.cell? ⟨w.heap.size + 1, 0, none⟩ = some (.int .i64 b0) := BB.out.c 0 rfl
  go_region_held3 (fun w' => w'.cell? ⟨w.heap.size, 0, none⟩ = some (.int .i64 a0) ∧ w'.cell? ⟨w.heap.size + 1, 0, none⟩ = some (.int .i64 b0)) (first | (simp [*]; done) | skip) (first | (go_at_call 33; refine (H0.out _).mono ?_; rintro e ua ⟨rfl, xa0⟩; have xa : Ext wa ua := Ext.trans (by repeat (first | with_reducible assumption | with_reducible exact Ext.refl _ | with_reducible refine Ext.drew ?_ | with_reducible refine Ext.drewN ?_ _ | with_reducible refine Ext.alloc ?_ _ | with_reducible refine Ext.set ?_ (by first | exact Nat.le_refl _ | (dsimp only; omega) | (simp; done)) _)) xa0; clear xa0; have ka : ua.cell? ⟨w.heap.size, 0, none⟩ = some (.int .i64 a0) := (BA.out.ext xa).c 0 rfl; have kb : ua.cell? ⟨w.heap.size + 1, 0, none⟩ = some (.int .i64 b0) := (BB.out.ext xa).c 0 rfl))
  have BA : Hid (HV ua w.heap.size [.int .i64 a0, .int .i64 a1, .int .i64 a2]) := BA.out.ext xa
  have BB : Hid (HV ua (w.heap.size + 1) [.int .i64 b0, .int .i64 b1, .int .i64 b2]) := BB.out.ext xa
  have BR : Hid (HV ua (w.heap.size + 2) [.int .i64 0, .int .i64 0, .int .i64 0]) := BR.out.ext xa
  have BM : Hid (HV ua (w.heap.size + 3) [.int .i64 0, .int .i64 0, .int .i64 0]) := BM.out.ext xa
  have HX : Hid (Ext w ua) := HX.out.trans xa
  clear qa qb ka kb xa H0
  have m0 : ua.cell? ⟨w.heap.size + 3, 0, none⟩ = some (.int .i64 0) := BM.out.c 0 rfl
  have m1 : ua.frozen? ⟨w.heap.size + 3, 0, none⟩ = false := BM.out.f 0 rfl
  go_wp2_with fail
  have BA : Hid (HV (ua.setCell ⟨w.heap.size + 3, 0, none⟩ (.int .i64 r0)) w.heap.size [.int .i64 a0, .int .i64 a1, .int .i64 a2]) := BA.out.far (by omega)
  have BB : Hid (HV (ua.setCell ⟨w.heap.size + 3, 0, none⟩ (.int .i64 r0)) (w.heap.size + 1) [.int .i64 b0, .int .i64 b1, .int .i64 b2]) := BB.out.far (by omega)
  have BR : Hid (HV (ua.setCell ⟨w.heap.size + 3, 0, none⟩ (.int .i64 r0)) (w.heap.size + 2) [.int .i64 0, .int .i64 0, .int .i64 0]) := BR.out.far (by omega)
  have BM : Hid (HV (ua.setCell ⟨w.heap.size + 3, 0, none⟩ (.int .i64 r0)) (w.heap.size + 3) [.int .i64 r0, .int .i64 0, .int .i64 0]) := BM.out.set 0 _
  have HX : Hid (Ext w (ua.setCell ⟨w.heap.size + 3, 0, none⟩ (.int .i64 r0))) := HX.out.set (p := ⟨w.heap.size + 3, 0, none⟩) lt3.out _
  clear m0 m1
  generalize (ua.setCell ⟨w.heap.size + 3, 0, none⟩ (.int .i64 r0)) = va at *
  rw [rounds_succ]
  go_upto_region 5 with fail
  have qa : va.cell? ⟨w.heap.size, 1, none⟩ = some (.int .i64 a1) := BA.out.c 1 rfl
  have qb : va.cell? ⟨w.heap.size + 1, 1, none⟩ = some (.int .i64 b1) := BB.out.c 1 rfl
  go_region_held3 (fun w' => w'.cell? ⟨w.heap.size, 1, none⟩ = some (.int .i64 a1) ∧ w'.cell? ⟨w.heap.size + 1, 1, none⟩ = some (.int .i64 b1)) (first | (simp [*]; done) | skip) (first | (go_at_call 33; refine (H1.out _).mono ?_; rintro e ub ⟨rfl, xb0⟩; have xb : Ext va ub := Ext.trans (by repeat (first | with_reducible assumption | with_reducible exact Ext.refl _ | with_reducible refine Ext.drew ?_ | with_reducible refine Ext.drewN ?_ _ | with_reducible refine Ext.alloc ?_ _ | with_reducible refine Ext.set ?_ (by first | exact Nat.le_refl _ | (dsimp only; omega) | (simp; done)) _)) xb0; clear xb0; have ka : ub.cell? ⟨w.heap.size, 1, none⟩ = some (.int .i64 a1) := (BA.out.ext xb).c 1 rfl; have kb : ub.cell? ⟨w.heap.size + 1, 1, none⟩ = some (.int .i64 b1) := (BB.out.ext xb).c 1 rfl))
  have BA : Hid (HV ub w.heap.size [.int .i64 a0, .int .i64 a1, .int .i64 a2]) := BA.out.ext xb
  have BB : Hid (HV ub (w.heap.size + 1) [.int .i64 b0, .int .i64 b1, .int .i64 b2]) := BB.out.ext xb
  have BR : Hid (HV ub (w.heap.size + 2) [.int .i64 0, .int .i64 0, .int .i64 0]) := BR.out.ext xb
  have BM : Hid (HV ub (w.heap.size + 3) [.int .i64 r0, .int .i64 0, .int .i64 0]) := BM.out.ext xb
  have HX : Hid (Ext w ub) := HX.out.trans xb
  clear qa qb ka kb xb H1
  have m0 : ub.cell? ⟨w.heap.size + 3, 1, none⟩ = some (.int .i64 0) := BM.out.c 1 rfl
  have m1 : ub.frozen? ⟨w.heap.size + 3, 1, none⟩ = false := BM.out.f 1 rfl
  go_wp2_with fail
  have BA : Hid (HV (ub.setCell ⟨w.heap.size + 3, 1, none⟩ (.int .i64 r1)) w.heap.size [.int .i64 a0, .int .i64 a1, .int .i64 a2]) := BA.out.far (by omega)
  have BB : Hid (HV (ub.setCell ⟨w.heap.size + 3, 1, none⟩ (.int .i64 r1)) (w.heap.size + 1) [.int .i64 b0, .int .i64 b1, .int .i64 b2]) := BB.out.far (by omega)
  have BR : Hid (HV (ub.setCell ⟨w.heap.size + 3, 1, none⟩ (.int .i64 r1)) (w.heap.size + 2) [.int .i64 0, .int .i64 0, .int .i64 0]) := BR.out.far (by omega)
  have BM : Hid (HV (ub.setCell ⟨w.heap.size + 3, 1, none⟩ (.int .i64 r1)) (w.heap.size + 3) [.int .i64 r0, .int .i64 r1, .int .i64 0]) := BM.out.set 1 _
  have HX : Hid (Ext w (ub.setCell ⟨w.heap.size + 3, 1, none⟩ (.int .i64 r1))) := HX.out.set (p := ⟨w.heap.size + 3, 1, none⟩) lt3.out _
  clear m0 m1
  generalize (ub.setCell ⟨w.heap.size + 3, 1, none⟩ (.int .i64 r1)) = vb at *
  rw [rounds_succ]
  go_upto_region 5 with fail
  have qa : vb.cell? ⟨w.heap.size, 2, none⟩ = some (.int .i64 a2) := BA.out.c 2 rfl
  have qb : vb.cell? ⟨w.heap.size + 1, 2, none⟩ = some (.int .i64 b2) := BB.out.c 2 rfl
  go_region_held3 (fun w' => w'.cell? ⟨w.heap.size, 2, none⟩ = some (.int .i64 a2) ∧ w'.cell? ⟨w.heap.size + 1, 2, none⟩ = some (.int .i64 b2)) (first | (simp [*]; done) | skip) (first | (go_at_call 33; refine (H2.out _).mono ?_; rintro e uc ⟨rfl, xc0⟩; have xc : Ext vb uc := Ext.trans (by repeat (first | with_reducible assumption | with_reducible exact Ext.refl _ | with_reducible refine Ext.drew ?_ | with_reducible refine Ext.drewN ?_ _ | with_reducible refine Ext.alloc ?_ _ | with_reducible refine Ext.set ?_ (by first | exact Nat.le_refl _ | (dsimp only; omega) | (simp; done)) _)) xc0; clear xc0; have ka : uc.cell? ⟨w.heap.size, 2, none⟩ = some (.int .i64 a2) := (BA.out.ext xc).c 2 rfl; have kb : uc.cell? ⟨w.heap.size + 1, 2, none⟩ = some (.int .i64 b2) := (BB.out.ext xc).c 2 rfl))
  have BA : Hid (HV uc w.heap.size [.int .i64 a0, .int .i64 a1, .int .i64 a2]) := BA.out.ext xc
  have BB : Hid (HV uc (w.heap.size + 1) [.int .i64 b0, .int .i64 b1, .int .i64 b2]) := BB.out.ext xc
  have BR : Hid (HV uc (w.heap.size + 2) [.int .i64 0, .int .i64 0, .int .i64 0]) := BR.out.ext xc
  have BM : Hid (HV uc (w.heap.size + 3) [.int .i64 r0, .int .i64 r1, .int .i64 0]) := BM.out.ext xc
  have HX : Hid (Ext w uc) := HX.out.trans xc
  clear qa qb ka kb xc H2
  obtain ⟨y0, y1, y2⟩ := BR.out.k3
  obtain ⟨f0, f1, f2⟩ := BR.out.z3
  go_wp2_with fail
  refine bodyPost_ret (v := .tuple #[.agg #[.int .i64 0, .int .i64 0, .int .i64 0], .int .i64 2]) (by simp [results, Try.results29, go_sem, y0, y1, y2]) rfl ⟨rfl, ?_⟩
  exact Ext.set (Ext.set (Ext.set HX.out lt2.out _) lt2.out _) lt2.out _
set_option maxRecDepth 20000 in
set_option maxHeartbeats 8000000 in
theorem thr_ratio3 (a0 a1 a2 b0 b1 b2 r0 r1 r2 : Int) (w : World)
    (H0 : Hid (∀ w', Calls Try.prog 33 #[.int .i64 a0, .int .i64 b0] w' fun e w'' => e = .returned (.tuple #[.int .i64 r0, .int .i64 0]) ∧ Ext w' w''))
    (H1 : Hid (∀ w', Calls Try.prog 33 #[.int .i64 a1, .int .i64 b1] w' fun e w'' => e = .returned (.tuple #[.int .i64 r1, .int .i64 0]) ∧ Ext w' w''))
    (H2 : Hid (∀ w', Calls Try.prog 33 #[.int .i64 a2, .int .i64 b2] w' fun e w'' => e = .returned (.tuple #[.int .i64 r2, .int .i64 0]) ∧ Ext w' w'')) :
    Calls Try.prog 29 #[.agg #[.int .i64 a0, .int .i64 a1, .int .i64 a2], .agg #[.int .i64 b0, .int .i64 b1, .int .i64 b2], .func (.func 33) #[] #[]] w fun e w' => e = .returned (.tuple #[.agg #[.int .i64 r0, .int .i64 r1, .int .i64 r2], .int .i64 0]) ∧ Ext w w' := by
  have BA : Hid (HV ((((w.alloc (.cells #[.int .i64 a0, .int .i64 a1, .int .i64 a2] 56)).alloc (.cells #[.int .i64 b0, .int .i64 b1, .int .i64 b2] 56)).alloc (.cells #[.int .i64 0, .int .i64 0, .int .i64 0] 56)).alloc (.cells #[.int .i64 0, .int .i64 0, .int .i64 0] 56)) w.heap.size [.int .i64 a0, .int .i64 a1, .int .i64 a2]) := (((hv_at rfl).alloc _).alloc _).alloc _
  have BB : Hid (HV ((((w.alloc (.cells #[.int .i64 a0, .int .i64 a1, .int .i64 a2] 56)).alloc (.cells #[.int .i64 b0, .int .i64 b1, .int .i64 b2] 56)).alloc (.cells #[.int .i64 0, .int .i64 0, .int .i64 0] 56)).alloc (.cells #[.int .i64 0, .int .i64 0, .int .i64 0] 56)) (w.heap.size + 1) [.int .i64 b0, .int .i64 b1, .int .i64 b2]) := ((hv_at (by simp)).alloc _).alloc _
  have BR : Hid (HV ((((w.alloc (.cells #[.int .i64 a0, .int .i64 a1, .int .i64 a2] 56)).alloc (.cells #[.int .i64 b0, .int .i64 b1, .int .i64 b2] 56)).alloc (.cells #[.int .i64 0, .int .i64 0, .int .i64 0] 56)).alloc (.cells #[.int .i64 0, .int .i64 0, .int .i64 0] 56)) (w.heap.size + 2) [.int .i64 0, .int .i64 0, .int .i64 0]) := (hv_at (by simp)).alloc _
  have BM : Hid (HV ((((w.alloc (.cells #[.int .i64 a0, .int .i64 a1, .int .i64 a2] 56)).alloc (.cells #[.int .i64 b0, .int .i64 b1, .int .i64 b2] 56)).alloc (.cells #[.int .i64 0, .int .i64 0, .int .i64 0] 56)).alloc (.cells #[.int .i64 0, .int .i64 0, .int .i64 0] 56)) (w.heap.size + 3) [.int .i64 0, .int .i64 0, .int .i64 0]) := hv_at (by simp)
  have HX : Hid (Ext w ((((w.alloc (.cells #[.int .i64 a0, .int .i64 a1, .int .i64 a2] 56)).alloc (.cells #[.int .i64 b0, .int .i64 b1, .int .i64 b2] 56)).alloc (.cells #[.int .i64 0, .int .i64 0, .int .i64 0] 56)).alloc (.cells #[.int .i64 0, .int .i64 0, .int .i64 0] 56))) := ((((Ext.refl w).alloc _).alloc _).alloc _).alloc _
  have lt2 : Hid (w.heap.size ≤ w.heap.size + 2) := Nat.le_add_right _ _
  have lt3 : Hid (w.heap.size ≤ w.heap.size + 3) := Nat.le_add_right _ _
  go_enter Try.func29, Try.ntmps29
  go_wp2_with fail
  generalize ((((w.alloc (.cells #[.int .i64 a0, .int .i64 a1, .int .i64 a2] 56)).alloc (.cells #[.int .i64 b0, .int .i64 b1, .int .i64 b2] 56)).alloc (.cells #[.int .i64 0, .int .i64 0, .int .i64 0] 56)).alloc (.cells #[.int .i64 0, .int .i64 0, .int .i64 0] 56)) = wa at *
  refine wp_loop_rounds 4 ?_
  rw [rounds_succ]
  go_upto_region 5 with fail
  have qa : wa.cell? ⟨w.heap.size, 0, none⟩ = some (.int .i64 a0) := BA.out.c 0 rfl
  have qb : wa.cell? ⟨w.heap.size + 1, 0, none⟩ = some (.int .i64 b0) := BB.out.c 0 rfl
  go_region_held3 (fun w' => w'.cell? ⟨w.heap.size, 0, none⟩ = some (.int .i64 a0) ∧ w'.cell? ⟨w.heap.size + 1, 0, none⟩ = some (.int .i64 b0)) (first | (simp [*]; done) | skip) (first | (go_at_call 33; refine (H0.out _).mono ?_; rintro e ua ⟨rfl, xa0⟩; have xa : Ext wa ua := Ext.trans (by repeat (first | with_reducible assumption | with_reducible exact Ext.refl _ | with_reducible refine Ext.drew ?_ | with_reducible refine Ext.drewN ?_ _ | with_reducible refine Ext.alloc ?_ _ | with_reducible refine Ext.set ?_ (by first | exact Nat.le_refl _ | (dsimp only; omega) | (simp; done)) _)) xa0; clear xa0; have ka : ua.cell? ⟨w.heap.size, 0, none⟩ = some (.int .i64 a0) := (BA.out.ext xa).c 0 rfl; have kb : ua.cell? ⟨w.heap.size + 1, 0, none⟩ = some (.int .i64 b0) := (BB.out.ext xa).c 0 rfl))
  have BA : Hid (HV ua w.heap.size [.int .i64 a0, .int .i64 a1, .int .i64 a2]) := BA.out.ext xa
  have BB : Hid (HV ua (w.heap.size + 1) [.int .i64 b0, .int .i64 b1, .int .i64 b2]) := BB.out.ext xa
  have BR : Hid (HV ua (w.heap.size + 2) [.int .i64 0, .int .i64 0, .int .i64 0]) := BR.out.ext xa
  have BM : Hid (HV ua (w.heap.size + 3) [.int .i64 0, .int .i64 0, .int .i64 0]) := BM.out.ext xa
  have HX : Hid (Ext w ua) := HX.out.trans xa
  clear qa qb ka kb xa H0
  have m0 : ua.cell? ⟨w.heap.size + 3, 0, none⟩ = some (.int .i64 0) := BM.out.c 0 rfl
  have m1 : ua.frozen? ⟨w.heap.size + 3, 0, none⟩ = false := BM.out.f 0 rfl
  go_wp2_with fail
  have BA : Hid (HV (ua.setCell ⟨w.heap.size + 3, 0, none⟩ (.int .i64 r0)) w.heap.size [.int .i64 a0, .int .i64 a1, .int .i64 a2]) := BA.out.far (by omega)
  have BB : Hid (HV (ua.setCell ⟨w.heap.size + 3, 0, none⟩ (.int .i64 r0)) (w.heap.size + 1) [.int .i64 b0, .int .i64 b1, .int .i64 b2]) := BB.out.far (by omega)
  have BR : Hid (HV (ua.setCell ⟨w.heap.size + 3, 0, none⟩ (.int .i64 r0)) (w.heap.size + 2) [.int .i64 0, .int .i64 0, .int .i64 0]) := BR.out.far (by omega)
  have BM : Hid (HV (ua.setCell ⟨w.heap.size + 3, 0, none⟩ (.int .i64 r0)) (w.heap.size + 3) [.int .i64 r0, .int .i64 0, .int .i64 0]) := BM.out.set 0 _
  have HX : Hid (Ext w (ua.setCell ⟨w.heap.size + 3, 0, none⟩ (.int .i64 r0))) := HX.out.set (p := ⟨w.heap.size + 3, 0, none⟩) lt3.out _
  clear m0 m1
  generalize (ua.setCell ⟨w.heap.size + 3, 0, none⟩ (.int .i64 r0)) = va at *
  rw [rounds_succ]
  go_upto_region 5 with fail
  have qa : va.cell? ⟨w.heap.size, 1, none⟩ = some (.int .i64 a1) := BA.out.c 1 rfl
  have qb : va.cell? ⟨w.heap.size + 1, 1, none⟩ = some (.int .i64 b1) := BB.out.c 1 rfl
  go_region_held3 (fun w' => w'.cell? ⟨w.heap.size, 1, none⟩ = some (.int .i64 a1) ∧ w'.cell? ⟨w.heap.size + 1, 1, none⟩ = some (.int .i64 b1)) (first | (simp [*]; done) | skip) (first | (go_at_call 33; refine (H1.out _).mono ?_; rintro e ub ⟨rfl, xb0⟩; have xb : Ext va ub := Ext.trans (by repeat (first | with_reducible assumption | with_reducible exact Ext.refl _ | with_reducible refine Ext.drew ?_ | with_reducible refine Ext.drewN ?_ _ | with_reducible refine Ext.alloc ?_ _ | with_reducible refine Ext.set ?_ (by first | exact Nat.le_refl _ | (dsimp only; omega) | (simp; done)) _)) xb0; clear xb0; have ka : ub.cell? ⟨w.heap.size, 1, none⟩ = some (.int .i64 a1) := (BA.out.ext xb).c 1 rfl; have kb : ub.cell? ⟨w.heap.size + 1, 1, none⟩ = some (.int .i64 b1) := (BB.out.ext xb).c 1 rfl))
  have BA : Hid (HV ub w.heap.size [.int .i64 a0, .int .i64 a1, .int .i64 a2]) := BA.out.ext xb
  have BB : Hid (HV ub (w.heap.size + 1) [.int .i64 b0, .int .i64 b1, .int .i64 b2]) := BB.out.ext xb
  have BR : Hid (HV ub (w.heap.size + 2) [.int .i64 0, .int .i64 0, .int .i64 0]) := BR.out.ext xb
  have BM : Hid (HV ub (w.heap.size + 3) [.int .i64 r0, .int .i64 0, .int .i64 0]) := BM.out.ext xb
  have HX : Hid (Ext w ub) := HX.out.trans xb
  clear qa qb ka kb xb H1
  have m0 : ub.cell? ⟨w.heap.size + 3, 1, none⟩ = some (.int .i64 0) := BM.out.c 1 rfl
  have m1 : ub.frozen? ⟨w.heap.size + 3, 1, none⟩ = false := BM.out.f 1 rfl
  go_wp2_with fail
  have BA : Hid (HV (ub.setCell ⟨w.heap.size + 3, 1, none⟩ (.int .i64 r1)) w.heap.size [.int .i64 a0, .int .i64 a1, .int .i64 a2]) := BA.out.far (by omega)
  have BB : Hid (HV (ub.setCell ⟨w.heap.size + 3, 1, none⟩ (.int .i64 r1)) (w.heap.size + 1) [.int .i64 b0, .int .i64 b1, .int .i64 b2]) := BB.out.far (by omega)
  have BR : Hid (HV (ub.setCell ⟨w.heap.size + 3, 1, none⟩ (.int .i64 r1)) (w.heap.size + 2) [.int .i64 0, .int .i64 0, .int .i64 0]) := BR.out.far (by omega)
  have BM : Hid (HV (ub.setCell ⟨w.heap.size + 3, 1, none⟩ (.int .i64 r1)) (w.heap.size + 3) [.int .i64 r0, .int .i64 r1, .int .i64 0]) := BM.out.set 1 _
  have HX : Hid (Ext w (ub.setCell ⟨w.heap.size + 3, 1, none⟩ (.int .i64 r1))) := HX.out.set (p := ⟨w.heap.size + 3, 1, none⟩) lt3.out _
  clear m0 m1
  generalize (ub.setCell ⟨w.heap.size + 3, 1, none⟩ (.int .i64 r1)) = vb at *
  rw [rounds_succ]
  go_upto_region 5 with fail
  have qa : vb.cell? ⟨w.heap.size, 2, none⟩ = some (.int .i64 a2) := BA.out.c 2 rfl
  have qb : vb.cell? ⟨w.heap.size + 1, 2, none⟩ = some (.int .i64 b2) := BB.out.c 2 rfl
  go_region_held3 (fun w' => w'.cell? ⟨w.heap.size, 2, none⟩ = some (.int .i64 a2) ∧ w'.cell? ⟨w.heap.size + 1, 2, none⟩ = some (.int .i64 b2)) (first | (simp [*]; done) | skip) (first | (go_at_call 33; refine (H2.out _).mono ?_; rintro e uc ⟨rfl, xc0⟩; have xc : Ext vb uc := Ext.trans (by repeat (first | with_reducible assumption | with_reducible exact Ext.refl _ | with_reducible refine Ext.drew ?_ | with_reducible refine Ext.drewN ?_ _ | with_reducible refine Ext.alloc ?_ _ | with_reducible refine Ext.set ?_ (by first | exact Nat.le_refl _ | (dsimp only; omega) | (simp; done)) _)) xc0; clear xc0; have ka : uc.cell? ⟨w.heap.size, 2, none⟩ = some (.int .i64 a2) := (BA.out.ext xc).c 2 rfl; have kb : uc.cell? ⟨w.heap.size + 1, 2, none⟩ = some (.int .i64 b2) := (BB.out.ext xc).c 2 rfl))
  have BA : Hid (HV uc w.heap.size [.int .i64 a0, .int .i64 a1, .int .i64 a2]) := BA.out.ext xc
  have BB : Hid (HV uc (w.heap.size + 1) [.int .i64 b0, .int .i64 b1, .int .i64 b2]) := BB.out.ext xc
  have BR : Hid (HV uc (w.heap.size + 2) [.int .i64 0, .int .i64 0, .int .i64 0]) := BR.out.ext xc
  have BM : Hid (HV uc (w.heap.size + 3) [.int .i64 r0, .int .i64 r1, .int .i64 0]) := BM.out.ext xc
  have HX : Hid (Ext w uc) := HX.out.trans xc
  clear qa qb ka kb xc H2
  have m0 : uc.cell? ⟨w.heap.size + 3, 2, none⟩ = some (.int .i64 0) := BM.out.c 2 rfl
  have m1 : uc.frozen? ⟨w.heap.size + 3, 2, none⟩ = false := BM.out.f 2 rfl
  go_wp2_with fail
  have BA : Hid (HV (uc.setCell ⟨w.heap.size + 3, 2, none⟩ (.int .i64 r2)) w.heap.size [.int .i64 a0, .int .i64 a1, .int .i64 a2]) := BA.out.far (by omega)
  have BB : Hid (HV (uc.setCell ⟨w.heap.size + 3, 2, none⟩ (.int .i64 r2)) (w.heap.size + 1) [.int .i64 b0, .int .i64 b1, .int .i64 b2]) := BB.out.far (by omega)
  have BR : Hid (HV (uc.setCell ⟨w.heap.size + 3, 2, none⟩ (.int .i64 r2)) (w.heap.size + 2) [.int .i64 0, .int .i64 0, .int .i64 0]) := BR.out.far (by omega)
  have BM : Hid (HV (uc.setCell ⟨w.heap.size + 3, 2, none⟩ (.int .i64 r2)) (w.heap.size + 3) [.int .i64 r0, .int .i64 r1, .int .i64 r2]) := BM.out.set 2 _
  have HX : Hid (Ext w (uc.setCell ⟨w.heap.size + 3, 2, none⟩ (.int .i64 r2))) := HX.out.set (p := ⟨w.heap.size + 3, 2, none⟩) lt3.out _
  clear m0 m1
  generalize (uc.setCell ⟨w.heap.size + 3, 2, none⟩ (.int .i64 r2)) = vc at *
  rw [rounds_succ]
  obtain ⟨m0, m1, m2⟩ := BM.out.k3
  obtain ⟨y0, y1, y2⟩ := BR.out.k3
  obtain ⟨f0, f1, f2⟩ := BR.out.z3
  go_wp2_with fail
  refine bodyPost_ret (v := .tuple #[.agg #[.int .i64 r0, .int .i64 r1, .int .i64 r2], .int .i64 0]) (by simp [results, Try.results29, go_sem, y0, y1, y2]) rfl ⟨rfl, ?_⟩
  exact Ext.set (Ext.set (Ext.set HX.out lt2.out _) lt2.out _) lt2.out _
theorem thr_mean (a0 a1 a2 n : Int) (w : World) (hn : 1 ≤ n ∧ n ≤ 32768) (h0 : -9223372036854775808 ≤ a0 ∧ a0 ≤ 9223372036854775807) (h1 : -9223372036854775808 ≤ a1 ∧ a1 ≤ 9223372036854775807) (h2 : -9223372036854775808 ≤ a2 ∧ a2 ≤ 9223372036854775807) :
    Calls Try.prog 29 #[.agg #[.int .i64 a0, .int .i64 a1, .int .i64 a2], .agg #[.int .i64 n, .int .i64 n, .int .i64 n], .func (.func 33) #[] #[]] w fun e w' => e = .returned (vres (nearI a0 n) (nearI a1 n) (nearI a2 n)) ∧ Ext w w' := by
  have R0 := fun w => ratio_n a0 n w hn h0.1 h0.2
  have R1 := fun w => ratio_n a1 n w hn h1.1 h1.2
  have R2 := fun w => ratio_n a2 n w hn h2.1 h2.2
  cases k0 : okW (nearI a0 n)
  · rw [fit_no' k0] at R0
    have e : vres (nearI a0 n) (nearI a1 n) (nearI a2 n) = .tuple #[.agg #[.int .i64 0, .int .i64 0, .int .i64 0], .int .i64 2] := by unfold vres ok3; rw [k0]; rfl
    rw [e]
    exact thr_ratio0 _ _ _ _ _ _ w R0
  · rw [fit_yes' k0] at R0
    cases k1 : okW (nearI a1 n)
    · rw [fit_no' k1] at R1
      have e : vres (nearI a0 n) (nearI a1 n) (nearI a2 n) = .tuple #[.agg #[.int .i64 0, .int .i64 0, .int .i64 0], .int .i64 2] := by unfold vres ok3; rw [k0, k1]; rfl
      rw [e]
      exact thr_ratio1 _ _ _ _ _ _ _ w R0 R1
    · rw [fit_yes' k1] at R1
      cases k2 : okW (nearI a2 n)
      · rw [fit_no' k2] at R2
        have e : vres (nearI a0 n) (nearI a1 n) (nearI a2 n) = .tuple #[.agg #[.int .i64 0, .int .i64 0, .int .i64 0], .int .i64 2] := by unfold vres ok3; rw [k0, k1, k2]; rfl
        rw [e]
        exact thr_ratio2 _ _ _ _ _ _ _ _ w R0 R1 R2
      · rw [fit_yes' k2] at R2
        have e : vres (nearI a0 n) (nearI a1 n) (nearI a2 n) = .tuple #[.agg #[.int .i64 (nearI a0 n), .int .i64 (nearI a1 n), .int .i64 (nearI a2 n)], .int .i64 0] := by unfold vres ok3; rw [k0, k1, k2]; rfl
        rw [e]
        exact thr_ratio3 _ _ _ _ _ _ _ _ _ w R0 R1 R2

set_option maxRecDepth 20000 in
set_option maxHeartbeats 16000000 in
theorem twith_any (s0 s1 s2 n v0 v1 v2 t0 t1 t2 m : Int) (w : World) (h0 : wrap64 (s0 + v0) = t0) (h1 : wrap64 (s1 + v1) = t1) (h2 : wrap64 (s2 + v2) = t2) (hm : wrap64 (n + 1) = m) :
    Calls Try.prog 21 #[.agg #[.int .i64 s0, .int .i64 s1, .int .i64 s2, .int .i64 n], .agg #[.int .i64 v0, .int .i64 v1, .int .i64 v2]] w fun e w' => e = .returned (.tuple #[.agg #[.int .i64 t0, .int .i64 t1, .int .i64 t2, .int .i64 m], .int .i64 0]) ∧ Ext w w' := by
  have NS : Hid (∀ w, Calls Try.prog 30 #[.agg #[.int .i64 s0, .int .i64 s1, .int .i64 s2]] w fun e w' => e = .returned (.agg #[.int .i64 s0, .int .i64 s1, .int .i64 s2]) ∧ Ext w w') := numbersof_any s0 s1 s2
  have NV : Hid (∀ w, Calls Try.prog 30 #[.agg #[.int .i64 v0, .int .i64 v1, .int .i64 v2]] w fun e w' => e = .returned (.agg #[.int .i64 v0, .int .i64 v1, .int .i64 v2]) ∧ Ext w w') := numbersof_any v0 v1 v2
  have HT : Hid (∀ w, Calls Try.prog 29 #[.agg #[.int .i64 s0, .int .i64 s1, .int .i64 s2], .agg #[.int .i64 v0, .int .i64 v1, .int .i64 v2], .func (.func 31) #[] #[]] w fun e w' => e = .returned (.tuple #[.agg #[.int .i64 t0, .int .i64 t1, .int .i64 t2], .int .i64 0]) ∧ Ext w w') := fun w => thr_plus _ _ _ _ _ _ _ _ _ w (fun w => plus1_any _ _ _ w h0) (fun w => plus1_any _ _ _ w h1) (fun w => plus1_any _ _ _ w h2)
  have HO : Hid (∀ w, Calls Try.prog 32 #[.agg #[.int .i64 t0, .int .i64 t1, .int .i64 t2]] w fun e w' => e = .returned (.agg #[.int .i64 t0, .int .i64 t1, .int .i64 t2]) ∧ Ext w w') := vectorof_any t0 t1 t2
  clear h0 h1 h2
  have B1 : Hid (HV (((w.alloc (.cells #[.int .i64 s0, .int .i64 s1, .int .i64 s2, .int .i64 n] 26)).alloc (.cells #[.int .i64 v0, .int .i64 v1, .int .i64 v2] 24)).alloc (.cells #[.int .i64 0, .int .i64 0, .int .i64 0, .int .i64 0] 26)) w.heap.size [.int .i64 s0, .int .i64 s1, .int .i64 s2, .int .i64 n]) := ((hv_at rfl).alloc _).alloc _
  have B2 : Hid (HV (((w.alloc (.cells #[.int .i64 s0, .int .i64 s1, .int .i64 s2, .int .i64 n] 26)).alloc (.cells #[.int .i64 v0, .int .i64 v1, .int .i64 v2] 24)).alloc (.cells #[.int .i64 0, .int .i64 0, .int .i64 0, .int .i64 0] 26)) (w.heap.size + 1) [.int .i64 v0, .int .i64 v1, .int .i64 v2]) := (hv_at (by simp)).alloc _
  have B3 : Hid (HV (((w.alloc (.cells #[.int .i64 s0, .int .i64 s1, .int .i64 s2, .int .i64 n] 26)).alloc (.cells #[.int .i64 v0, .int .i64 v1, .int .i64 v2] 24)).alloc (.cells #[.int .i64 0, .int .i64 0, .int .i64 0, .int .i64 0] 26)) (w.heap.size + 2) [.int .i64 0, .int .i64 0, .int .i64 0, .int .i64 0]) := hv_at (by simp)
  have lt2 : Hid (w.heap.size ≤ w.heap.size + 2) := Nat.le_add_right _ _
  have HX : Hid (Ext w (((w.alloc (.cells #[.int .i64 s0, .int .i64 s1, .int .i64 s2, .int .i64 n] 26)).alloc (.cells #[.int .i64 v0, .int .i64 v1, .int .i64 v2] 24)).alloc (.cells #[.int .i64 0, .int .i64 0, .int .i64 0, .int .i64 0] 26))) := (((Ext.refl w).alloc _).alloc _).alloc _
  go_enter Try.func21, Try.ntmps21
  go_upto_region 1 with fail
  generalize (((w.alloc (.cells #[.int .i64 s0, .int .i64 s1, .int .i64 s2, .int .i64 n] 26)).alloc (.cells #[.int .i64 v0, .int .i64 v1, .int .i64 v2] 24)).alloc (.cells #[.int .i64 0, .int .i64 0, .int .i64 0, .int .i64 0] 26)) = w2 at *
  go_cut [6, 7] (fun v6 v7 wx => ∃ g : Nat, v6 = .pointer (some ⟨g, 0, none⟩) ∧ v7 = .int .i64 0 ∧ w.heap.size + 2 < g ∧ Hid (HV wx g [.int .i64 t0, .int .i64 t1, .int .i64 t2]) ∧ Hid (Ext w2 wx))
  case first =>
    have c0 : w2.cell? ⟨w.heap.size, 0, none⟩ = some (.int .i64 s0) := B1.out.c 0 rfl
    have c1 : w2.cell? ⟨w.heap.size, 1, none⟩ = some (.int .i64 s1) := B1.out.c 1 rfl
    have c2 : w2.cell? ⟨w.heap.size, 2, none⟩ = some (.int .i64 s2) := B1.out.c 2 rfl
    have d0 : w2.cell? ⟨w.heap.size + 1, 0, none⟩ = some (.int .i64 v0) := B2.out.c 0 rfl
    have d1 : w2.cell? ⟨w.heap.size + 1, 1, none⟩ = some (.int .i64 v1) := B2.out.c 1 rfl
    have d2 : w2.cell? ⟨w.heap.size + 1, 2, none⟩ = some (.int .i64 v2) := B2.out.c 2 rfl
    have lt3 : w.heap.size + 2 < w2.heap.size := B3.out.1
    obtain ⟨nea, neb, nec, ned⟩ : w.heap.size ≠ w2.heap.size ∧ w2.heap.size ≠ w.heap.size ∧ w.heap.size + 1 ≠ w2.heap.size ∧ w2.heap.size ≠ w.heap.size + 1 := by omega
    go_region_held3 (fun w' => w'.cell? ⟨w.heap.size, 0, none⟩ = some (.int .i64 s0) ∧ w'.cell? ⟨w.heap.size, 1, none⟩ = some (.int .i64 s1) ∧ w'.cell? ⟨w.heap.size, 2, none⟩ = some (.int .i64 s2) ∧ w'.cell? ⟨w.heap.size + 1, 0, none⟩ = some (.int .i64 v0) ∧ w'.cell? ⟨w.heap.size + 1, 1, none⟩ = some (.int .i64 v1) ∧ w'.cell? ⟨w.heap.size + 1, 2, none⟩ = some (.int .i64 v2)) (first | (go_keep; done) | (refine ⟨?_, ?_, ?_, ?_, ?_, ?_⟩ <;> (rw [World.cell?_setCell_far _ _ _ _ (by dsimp only; omega), World.cell?_setCell_far _ _ _ _ (by dsimp only; omega), World.cell?_setCell_far _ _ _ _ (by dsimp only; omega)]; with_reducible assumption)) | skip) (first | (go_at_call_of 30 ((Value.agg #[Value.int IntKind.i64 s0, Value.int IntKind.i64 s1, Value.int IntKind.i64 s2])); refine (NS.out _).mono ?_; rintro e m1 ⟨rfl, zm1⟩; have Ym1 : Ext w2 m1 := Ext.trans (by repeat (first | with_reducible assumption | with_reducible exact Ext.refl _ | with_reducible refine Ext.drew ?_ | with_reducible refine Ext.drewN ?_ _ | with_reducible refine Ext.alloc ?_ _ | with_reducible refine Ext.set ?_ (by first | exact Nat.le_refl _ | (dsimp only; omega) | (simp; done)) _)) zm1; have cm10 : m1.cell? ⟨w.heap.size, 0, none⟩ = some (.int .i64 s0) := (B1.out.ext Ym1).c 0 rfl; have cm11 : m1.cell? ⟨w.heap.size, 1, none⟩ = some (.int .i64 s1) := (B1.out.ext Ym1).c 1 rfl; have cm12 : m1.cell? ⟨w.heap.size, 2, none⟩ = some (.int .i64 s2) := (B1.out.ext Ym1).c 2 rfl; have dm10 : m1.cell? ⟨w.heap.size + 1, 0, none⟩ = some (.int .i64 v0) := (B2.out.ext Ym1).c 0 rfl; have dm11 : m1.cell? ⟨w.heap.size + 1, 1, none⟩ = some (.int .i64 v1) := (B2.out.ext Ym1).c 1 rfl; have dm12 : m1.cell? ⟨w.heap.size + 1, 2, none⟩ = some (.int .i64 v2) := (B2.out.ext Ym1).c 2 rfl; obtain ⟨nem1a, nem1b, nem1c, nem1d, lem1⟩ : w.heap.size ≠ m1.heap.size ∧ m1.heap.size ≠ w.heap.size ∧ w.heap.size + 1 ≠ m1.heap.size ∧ m1.heap.size ≠ w.heap.size + 1 ∧ w2.heap.size ≤ m1.heap.size := (by have := Ym1.size; omega); first | (have G : Hid (HV m1 w2.heap.size [.int .i64 0, .int .i64 0, .int .i64 0]) := (hv_at (w := w2) (T := 56) rfl).drew.ext zm1; obtain ⟨gm10, gm11, gm12⟩ := G.out.k3; obtain ⟨fm10, fm11, fm12⟩ := G.out.z3) | (have G : Hid (HV m1 w2.heap.size [.int .i64 0, .int .i64 0, .int .i64 0]) := (hv_at (w := w2) (T := 56) rfl).ext zm1; obtain ⟨gm10, gm11, gm12⟩ := G.out.k3; obtain ⟨fm10, fm11, fm12⟩ := G.out.z3) | skip) | (go_at_call_of 30 ((Value.agg #[Value.int IntKind.i64 v0, Value.int IntKind.i64 v1, Value.int IntKind.i64 v2])); refine (NV.out _).mono ?_; rintro e m2 ⟨rfl, zm2⟩; have Ym2 : Ext w2 m2 := Ext.trans (by repeat (first | with_reducible assumption | with_reducible exact Ext.refl _ | with_reducible refine Ext.drew ?_ | with_reducible refine Ext.drewN ?_ _ | with_reducible refine Ext.alloc ?_ _ | with_reducible refine Ext.set ?_ (by first | exact Nat.le_refl _ | (dsimp only; omega) | (simp; done)) _)) zm2; have cm20 : m2.cell? ⟨w.heap.size, 0, none⟩ = some (.int .i64 s0) := (B1.out.ext Ym2).c 0 rfl; have cm21 : m2.cell? ⟨w.heap.size, 1, none⟩ = some (.int .i64 s1) := (B1.out.ext Ym2).c 1 rfl; have cm22 : m2.cell? ⟨w.heap.size, 2, none⟩ = some (.int .i64 s2) := (B1.out.ext Ym2).c 2 rfl; have dm20 : m2.cell? ⟨w.heap.size + 1, 0, none⟩ = some (.int .i64 v0) := (B2.out.ext Ym2).c 0 rfl; have dm21 : m2.cell? ⟨w.heap.size + 1, 1, none⟩ = some (.int .i64 v1) := (B2.out.ext Ym2).c 1 rfl; have dm22 : m2.cell? ⟨w.heap.size + 1, 2, none⟩ = some (.int .i64 v2) := (B2.out.ext Ym2).c 2 rfl; obtain ⟨nem2a, nem2b, nem2c, nem2d, lem2⟩ : w.heap.size ≠ m2.heap.size ∧ m2.heap.size ≠ w.heap.size ∧ w.heap.size + 1 ≠ m2.heap.size ∧ m2.heap.size ≠ w.heap.size + 1 ∧ w2.heap.size ≤ m2.heap.size := (by have := Ym2.size; omega); first | (have G : Hid (HV m2 _ [.int .i64 0, .int .i64 0, .int .i64 0]) := G.out.ext zm2; obtain ⟨gm20, gm21, gm22⟩ := G.out.k3; obtain ⟨fm20, fm21, fm22⟩ := G.out.z3) | (have G : Hid (HV m2 _ [.int .i64 0, .int .i64 0, .int .i64 0]) := G.out.drew.ext zm2; obtain ⟨gm20, gm21, gm22⟩ := G.out.k3; obtain ⟨fm20, fm21, fm22⟩ := G.out.z3) | (have G : Hid (HV m2 m1.heap.size [.int .i64 0, .int .i64 0, .int .i64 0]) := (hv_at (w := m1) (T := 56) rfl).drew.ext zm2; obtain ⟨gm20, gm21, gm22⟩ := G.out.k3; obtain ⟨fm20, fm21, fm22⟩ := G.out.z3) | (have G : Hid (HV m2 m1.heap.size [.int .i64 0, .int .i64 0, .int .i64 0]) := (hv_at (w := m1) (T := 56) rfl).ext zm2; obtain ⟨gm20, gm21, gm22⟩ := G.out.k3; obtain ⟨fm20, fm21, fm22⟩ := G.out.z3) | skip) | (go_at_call 29; refine (HT.out _).mono ?_; rintro e m3 ⟨rfl, zm3⟩; have Ym3 : Ext w2 m3 := Ext.trans (by repeat (first | with_reducible assumption | with_reducible exact Ext.refl _ | with_reducible refine Ext.drew ?_ | with_reducible refine Ext.drewN ?_ _ | with_reducible refine Ext.alloc ?_ _ | with_reducible refine Ext.set ?_ (by first | exact Nat.le_refl _ | (dsimp only; omega) | (simp; done)) _)) zm3; have cm30 : m3.cell? ⟨w.heap.size, 0, none⟩ = some (.int .i64 s0) := (B1.out.ext Ym3).c 0 rfl; have cm31 : m3.cell? ⟨w.heap.size, 1, none⟩ = some (.int .i64 s1) := (B1.out.ext Ym3).c 1 rfl; have cm32 : m3.cell? ⟨w.heap.size, 2, none⟩ = some (.int .i64 s2) := (B1.out.ext Ym3).c 2 rfl; have dm30 : m3.cell? ⟨w.heap.size + 1, 0, none⟩ = some (.int .i64 v0) := (B2.out.ext Ym3).c 0 rfl; have dm31 : m3.cell? ⟨w.heap.size + 1, 1, none⟩ = some (.int .i64 v1) := (B2.out.ext Ym3).c 1 rfl; have dm32 : m3.cell? ⟨w.heap.size + 1, 2, none⟩ = some (.int .i64 v2) := (B2.out.ext Ym3).c 2 rfl; obtain ⟨nem3a, nem3b, nem3c, nem3d, lem3⟩ : w.heap.size ≠ m3.heap.size ∧ m3.heap.size ≠ w.heap.size ∧ w.heap.size + 1 ≠ m3.heap.size ∧ m3.heap.size ≠ w.heap.size + 1 ∧ w2.heap.size ≤ m3.heap.size := (by have := Ym3.size; omega); first | (have G : Hid (HV m3 _ [.int .i64 0, .int .i64 0, .int .i64 0]) := G.out.ext zm3; obtain ⟨gm30, gm31, gm32⟩ := G.out.k3; obtain ⟨fm30, fm31, fm32⟩ := G.out.z3) | (have G : Hid (HV m3 _ [.int .i64 0, .int .i64 0, .int .i64 0]) := G.out.drew.ext zm3; obtain ⟨gm30, gm31, gm32⟩ := G.out.k3; obtain ⟨fm30, fm31, fm32⟩ := G.out.z3) | (have G : Hid (HV m3 m2.heap.size [.int .i64 0, .int .i64 0, .int .i64 0]) := (hv_at (w := m2) (T := 56) rfl).drew.ext zm3; obtain ⟨gm30, gm31, gm32⟩ := G.out.k3; obtain ⟨fm30, fm31, fm32⟩ := G.out.z3) | (have G : Hid (HV m3 m2.heap.size [.int .i64 0, .int .i64 0, .int .i64 0]) := (hv_at (w := m2) (T := 56) rfl).ext zm3; obtain ⟨gm30, gm31, gm32⟩ := G.out.k3; obtain ⟨fm30, fm31, fm32⟩ := G.out.z3) | skip))
    all_goals
      go_wp2_with fail
      go_meet
      first | exact ⟨m3.heap.size, rfl, rfl, by omega, hv_at rfl, Ym3.alloc _⟩ | exact ⟨w2.heap.size, rfl, rfl, lt3, (((G.out.set 0 _).set 1 _).set 2 _), ((Ym3.set (Nat.le_refl _) _).set (Nat.le_refl _) _).set (Nat.le_refl _) _⟩ | exact ⟨m1.heap.size, rfl, rfl, by omega, (((G.out.set 0 _).set 1 _).set 2 _), ((Ym3.set lem1 _).set lem1 _).set lem1 _⟩ | exact ⟨m2.heap.size, rfl, rfl, by omega, (((G.out.set 0 _).set 1 _).set 2 _), ((Ym3.set lem2 _).set lem2 _).set lem2 _⟩
  case rest =>
    obtain ⟨g, rfl, rfl, hg, G, hx⟩ := hcut
    have hx := hx.out
    have B1 : Hid (HV wc w.heap.size [.int .i64 s0, .int .i64 s1, .int .i64 s2, .int .i64 n]) := B1.out.ext hx
    have B2 : Hid (HV wc (w.heap.size + 1) [.int .i64 v0, .int .i64 v1, .int .i64 v2]) := B2.out.ext hx
    have B3 : Hid (HV wc (w.heap.size + 2) [.int .i64 0, .int .i64 0, .int .i64 0, .int .i64 0]) := B3.out.ext hx
    have HX : Hid (Ext w wc) := HX.out.trans hx
    clear hx
    clear NS NV HT
    go_upto_region 4 with fail
    obtain ⟨g0, g1, g2⟩ := G.out.k3
    have c3 : wc.cell? ⟨w.heap.size, 3, none⟩ = some (.int .i64 n) := B1.out.c 3 rfl
    have o0 : wc.cell? ⟨w.heap.size + 2, 0, none⟩ = some (.int .i64 0) := B3.out.c 0 rfl
    have o1 : wc.cell? ⟨w.heap.size + 2, 1, none⟩ = some (.int .i64 0) := B3.out.c 1 rfl
    have o2 : wc.cell? ⟨w.heap.size + 2, 2, none⟩ = some (.int .i64 0) := B3.out.c 2 rfl
    have o3 : wc.cell? ⟨w.heap.size + 2, 3, none⟩ = some (.int .i64 0) := B3.out.c 3 rfl
    have z0 : wc.frozen? ⟨w.heap.size + 2, 0, none⟩ = false := B3.out.f 0 rfl
    have z1 : wc.frozen? ⟨w.heap.size + 2, 1, none⟩ = false := B3.out.f 1 rfl
    have z2 : wc.frozen? ⟨w.heap.size + 2, 2, none⟩ = false := B3.out.f 2 rfl
    have z3 : wc.frozen? ⟨w.heap.size + 2, 3, none⟩ = false := B3.out.f 3 rfl
    have hm' : IntKind.i64.wrap (n + 1) = m := by rw [IntKind.wrap_i64]; unfold wrap64 at hm; omega
    go_region_held3 (fun w' => (w'.cell? ⟨w.heap.size, 3, none⟩ = some (.int .i64 n)) ∧ w'.cell? ⟨g, 0, none⟩ = some (.int .i64 t0) ∧ w'.cell? ⟨g, 1, none⟩ = some (.int .i64 t1) ∧ w'.cell? ⟨g, 2, none⟩ = some (.int .i64 t2)) (first | (simp [*]; done) | (refine ⟨?_, ?_, ?_, ?_⟩ <;> (rw [World.cell?_setCell_far _ _ _ _ (by dsimp only; omega), World.cell?_setCell_far _ _ _ _ (by dsimp only; omega), World.cell?_setCell_far _ _ _ _ (by dsimp only; omega), World.cell?_setCell_far _ _ _ _ (by dsimp only; omega)]; with_reducible assumption)) | skip) (first | (go_at_call 32; refine (HO.out _).mono ?_; rintro e wd ⟨rfl, xd0⟩; have xd : Ext wc wd := Ext.trans (by repeat (first | with_reducible assumption | with_reducible exact Ext.refl _ | with_reducible refine Ext.drew ?_ | with_reducible refine Ext.drewN ?_ _ | with_reducible refine Ext.alloc ?_ _ | with_reducible refine Ext.set ?_ (by first | exact Nat.le_refl _ | (dsimp only; omega) | (simp; done)) _)) xd0; clear xd0; have k0 : wd.cell? ⟨g, 0, none⟩ = some (.int .i64 t0) := (G.out.ext xd).c 0 rfl; have k1 : wd.cell? ⟨g, 1, none⟩ = some (.int .i64 t1) := (G.out.ext xd).c 1 rfl; have k2 : wd.cell? ⟨g, 2, none⟩ = some (.int .i64 t2) := (G.out.ext xd).c 2 rfl; have k3 : wd.cell? ⟨w.heap.size, 3, none⟩ = some (.int .i64 n) := (B1.out.ext xd).c 3 rfl; have p0 : wd.cell? ⟨w.heap.size + 2, 0, none⟩ = some (.int .i64 0) := (B3.out.ext xd).c 0 rfl; have p1 : wd.cell? ⟨w.heap.size + 2, 1, none⟩ = some (.int .i64 0) := (B3.out.ext xd).c 1 rfl; have p2 : wd.cell? ⟨w.heap.size + 2, 2, none⟩ = some (.int .i64 0) := (B3.out.ext xd).c 2 rfl; have p3 : wd.cell? ⟨w.heap.size + 2, 3, none⟩ = some (.int .i64 0) := (B3.out.ext xd).c 3 rfl; have q0 : wd.frozen? ⟨w.heap.size + 2, 0, none⟩ = false := (B3.out.ext xd).f 0 rfl; have q1 : wd.frozen? ⟨w.heap.size + 2, 1, none⟩ = false := (B3.out.ext xd).f 1 rfl; have q2 : wd.frozen? ⟨w.heap.size + 2, 2, none⟩ = false := (B3.out.ext xd).f 2 rfl; have q3 : wd.frozen? ⟨w.heap.size + 2, 3, none⟩ = false := (B3.out.ext xd).f 3 rfl))
    go_wp2_with fail
    refine bodyPost_ret (v := .tuple #[.agg #[.int .i64 t0, .int .i64 t1, .int .i64 t2, .int .i64 m], .int .i64 0]) (by simp [results, Try.results21, go_sem, *]) rfl ⟨rfl, ?_⟩
    have HX : Hid (Ext w wd) := HX.out.trans xd
    exact (Ext.set (Ext.set (Ext.set (Ext.set HX.out lt2.out _) lt2.out _) lt2.out _) lt2.out _)
set_option maxRecDepth 20000 in
set_option maxHeartbeats 16000000 in
theorem tmean_good (s0 s1 s2 n y0 y1 y2 : Int) (w : World) (HT : Hid (∀ w, Calls Try.prog 29 #[.agg #[.int .i64 s0, .int .i64 s1, .int .i64 s2], .agg #[.int .i64 n, .int .i64 n, .int .i64 n], .func (.func 33) #[] #[]] w fun e w' => e = .returned (.tuple #[.agg #[.int .i64 y0, .int .i64 y1, .int .i64 y2], .int .i64 0]) ∧ Ext w w')) :
    Calls Try.prog 22 #[.agg #[.int .i64 s0, .int .i64 s1, .int .i64 s2, .int .i64 n]] w fun e w' => e = .returned (.tuple #[.agg #[.int .i64 y0, .int .i64 y1, .int .i64 y2], .int .i64 0]) ∧ Ext w w' := by
  have NS : Hid (∀ w, Calls Try.prog 30 #[.agg #[.int .i64 s0, .int .i64 s1, .int .i64 s2]] w fun e w' => e = .returned (.agg #[.int .i64 s0, .int .i64 s1, .int .i64 s2]) ∧ Ext w w') := numbersof_any s0 s1 s2
  have HO : Hid (∀ w, Calls Try.prog 32 #[.agg #[.int .i64 y0, .int .i64 y1, .int .i64 y2]] w fun e w' => e = .returned (.agg #[.int .i64 y0, .int .i64 y1, .int .i64 y2]) ∧ Ext w w') := vectorof_any y0 y1 y2
  have B1 : Hid (HV ((w.alloc (.cells #[.int .i64 s0, .int .i64 s1, .int .i64 s2, .int .i64 n] 26)).alloc (.cells #[.int .i64 0, .int .i64 0, .int .i64 0] 24)) w.heap.size [.int .i64 s0, .int .i64 s1, .int .i64 s2, .int .i64 n]) := (hv_at rfl).alloc _
  have B3 : Hid (HV ((w.alloc (.cells #[.int .i64 s0, .int .i64 s1, .int .i64 s2, .int .i64 n] 26)).alloc (.cells #[.int .i64 0, .int .i64 0, .int .i64 0] 24)) (w.heap.size + 1) [.int .i64 0, .int .i64 0, .int .i64 0]) := hv_at (by simp)
  have lt2 : Hid (w.heap.size ≤ w.heap.size + 1) := Nat.le_add_right _ _
  have HX : Hid (Ext w ((w.alloc (.cells #[.int .i64 s0, .int .i64 s1, .int .i64 s2, .int .i64 n] 26)).alloc (.cells #[.int .i64 0, .int .i64 0, .int .i64 0] 24))) := ((Ext.refl w).alloc _).alloc _
  go_enter Try.func22, Try.ntmps22
  go_upto_region 2 with fail
  generalize ((w.alloc (.cells #[.int .i64 s0, .int .i64 s1, .int .i64 s2, .int .i64 n] 26)).alloc (.cells #[.int .i64 0, .int .i64 0, .int .i64 0] 24)) = wa at *
  have c0 : wa.cell? ⟨w.heap.size, 0, none⟩ = some (.int .i64 s0) := B1.out.c 0 rfl
  have c1 : wa.cell? ⟨w.heap.size, 1, none⟩ = some (.int .i64 s1) := B1.out.c 1 rfl
  have c2 : wa.cell? ⟨w.heap.size, 2, none⟩ = some (.int .i64 s2) := B1.out.c 2 rfl
  go_upto_region 3 with (first | (go_at_call 30; refine (NS.out _).mono ?_; rintro e w1 ⟨rfl, x1⟩) | (go_at_call 29; refine (HT.out _).mono ?_; rintro e w2 ⟨rfl, x2⟩))
  clear c0 c1 c2 NS HT
  have B1 : Hid (HV w1 w.heap.size [.int .i64 s0, .int .i64 s1, .int .i64 s2, .int .i64 n]) := B1.out.ext x1
  have B3 : Hid (HV w1 (w.heap.size + 1) [.int .i64 0, .int .i64 0, .int .i64 0]) := B3.out.ext x1
  have HX : Hid (Ext w w1) := HX.out.trans x1
  clear x1
  have B1 : Hid (HV w2 w.heap.size [.int .i64 s0, .int .i64 s1, .int .i64 s2, .int .i64 n]) := B1.out.ext x2
  have B3 : Hid (HV w2 (w.heap.size + 1) [.int .i64 0, .int .i64 0, .int .i64 0]) := B3.out.ext x2
  have HX : Hid (Ext w w2) := HX.out.trans x2
  clear x2
  have lt7 : w.heap.size + 1 < w2.heap.size := B3.out.1
  have M : Hid (HV (w2.alloc (.cells #[.int .i64 y0, .int .i64 y1, .int .i64 y2] 56)) w2.heap.size [.int .i64 y0, .int .i64 y1, .int .i64 y2]) := hv_at rfl
  have B3 : Hid (HV (w2.alloc (.cells #[.int .i64 y0, .int .i64 y1, .int .i64 y2] 56)) (w.heap.size + 1) [.int .i64 0, .int .i64 0, .int .i64 0]) := B3.out.alloc _
  have HX : Hid (Ext w (w2.alloc (.cells #[.int .i64 y0, .int .i64 y1, .int .i64 y2] 56))) := HX.out.alloc _
  clear B1
  generalize (w2.alloc (.cells #[.int .i64 y0, .int .i64 y1, .int .i64 y2] 56)) = w8 at *
  generalize w2.heap.size = mm at *
  have m0 : w8.cell? ⟨mm, 0, none⟩ = some (.int .i64 y0) := M.out.c 0 rfl
  have m1 : w8.cell? ⟨mm, 1, none⟩ = some (.int .i64 y1) := M.out.c 1 rfl
  have m2 : w8.cell? ⟨mm, 2, none⟩ = some (.int .i64 y2) := M.out.c 2 rfl
  go_wp2_with fail
  refine (HO.out _).mono ?_
  rintro e w9 ⟨rfl, x9⟩
  have B3 : Hid (HV w9 (w.heap.size + 1) [.int .i64 0, .int .i64 0, .int .i64 0]) := B3.out.ext x9
  have HX : Hid (Ext w w9) := HX.out.trans x9
  clear m0 m1 m2 x9
  have o0 : w9.cell? ⟨w.heap.size + 1, 0, none⟩ = some (.int .i64 0) := B3.out.c 0 rfl
  have o1 : w9.cell? ⟨w.heap.size + 1, 1, none⟩ = some (.int .i64 0) := B3.out.c 1 rfl
  have o2 : w9.cell? ⟨w.heap.size + 1, 2, none⟩ = some (.int .i64 0) := B3.out.c 2 rfl
  have z0 : w9.frozen? ⟨w.heap.size + 1, 0, none⟩ = false := B3.out.f 0 rfl
  have z1 : w9.frozen? ⟨w.heap.size + 1, 1, none⟩ = false := B3.out.f 1 rfl
  have z2 : w9.frozen? ⟨w.heap.size + 1, 2, none⟩ = false := B3.out.f 2 rfl
  go_wp2_with fail
  refine bodyPost_ret (v := .tuple #[.agg #[.int .i64 y0, .int .i64 y1, .int .i64 y2], .int .i64 0]) (by simp [results, Try.results22, go_sem, o0, o1, o2]) rfl ⟨rfl, ?_⟩
  exact (Ext.set (Ext.set (Ext.set HX.out lt2.out _) lt2.out _) lt2.out _)
set_option maxRecDepth 20000 in
set_option maxHeartbeats 16000000 in
theorem tmean_bad (s0 s1 s2 n : Int) (w : World) (HT : Hid (∀ w, Calls Try.prog 29 #[.agg #[.int .i64 s0, .int .i64 s1, .int .i64 s2], .agg #[.int .i64 n, .int .i64 n, .int .i64 n], .func (.func 33) #[] #[]] w fun e w' => e = .returned (.tuple #[.agg #[.int .i64 0, .int .i64 0, .int .i64 0], .int .i64 2]) ∧ Ext w w')) :
    Calls Try.prog 22 #[.agg #[.int .i64 s0, .int .i64 s1, .int .i64 s2, .int .i64 n]] w fun e w' => e = .returned (.tuple #[.agg #[.int .i64 0, .int .i64 0, .int .i64 0], .int .i64 2]) ∧ Ext w w' := by
  have NS : Hid (∀ w, Calls Try.prog 30 #[.agg #[.int .i64 s0, .int .i64 s1, .int .i64 s2]] w fun e w' => e = .returned (.agg #[.int .i64 s0, .int .i64 s1, .int .i64 s2]) ∧ Ext w w') := numbersof_any s0 s1 s2
  have B1 : Hid (HV ((w.alloc (.cells #[.int .i64 s0, .int .i64 s1, .int .i64 s2, .int .i64 n] 26)).alloc (.cells #[.int .i64 0, .int .i64 0, .int .i64 0] 24)) w.heap.size [.int .i64 s0, .int .i64 s1, .int .i64 s2, .int .i64 n]) := (hv_at rfl).alloc _
  have B3 : Hid (HV ((w.alloc (.cells #[.int .i64 s0, .int .i64 s1, .int .i64 s2, .int .i64 n] 26)).alloc (.cells #[.int .i64 0, .int .i64 0, .int .i64 0] 24)) (w.heap.size + 1) [.int .i64 0, .int .i64 0, .int .i64 0]) := hv_at (by simp)
  have lt2 : Hid (w.heap.size ≤ w.heap.size + 1) := Nat.le_add_right _ _
  have HX : Hid (Ext w ((w.alloc (.cells #[.int .i64 s0, .int .i64 s1, .int .i64 s2, .int .i64 n] 26)).alloc (.cells #[.int .i64 0, .int .i64 0, .int .i64 0] 24))) := ((Ext.refl w).alloc _).alloc _
  go_enter Try.func22, Try.ntmps22
  go_upto_region 2 with fail
  generalize ((w.alloc (.cells #[.int .i64 s0, .int .i64 s1, .int .i64 s2, .int .i64 n] 26)).alloc (.cells #[.int .i64 0, .int .i64 0, .int .i64 0] 24)) = wa at *
  have c0 : wa.cell? ⟨w.heap.size, 0, none⟩ = some (.int .i64 s0) := B1.out.c 0 rfl
  have c1 : wa.cell? ⟨w.heap.size, 1, none⟩ = some (.int .i64 s1) := B1.out.c 1 rfl
  have c2 : wa.cell? ⟨w.heap.size, 2, none⟩ = some (.int .i64 s2) := B1.out.c 2 rfl
  go_upto_region 3 with (first | (go_at_call 30; refine (NS.out _).mono ?_; rintro e w1 ⟨rfl, x1⟩) | (go_at_call 29; refine (HT.out _).mono ?_; rintro e w2 ⟨rfl, x2⟩))
  clear c0 c1 c2 NS HT
  have B1 : Hid (HV w1 w.heap.size [.int .i64 s0, .int .i64 s1, .int .i64 s2, .int .i64 n]) := B1.out.ext x1
  have B3 : Hid (HV w1 (w.heap.size + 1) [.int .i64 0, .int .i64 0, .int .i64 0]) := B3.out.ext x1
  have HX : Hid (Ext w w1) := HX.out.trans x1
  clear x1
  have B1 : Hid (HV w2 w.heap.size [.int .i64 s0, .int .i64 s1, .int .i64 s2, .int .i64 n]) := B1.out.ext x2
  have B3 : Hid (HV w2 (w.heap.size + 1) [.int .i64 0, .int .i64 0, .int .i64 0]) := B3.out.ext x2
  have HX : Hid (Ext w w2) := HX.out.trans x2
  clear x2
  have lt7 : w.heap.size + 1 < w2.heap.size := B3.out.1
  have M : Hid (HV (w2.alloc (.cells #[.int .i64 0, .int .i64 0, .int .i64 0] 56)) w2.heap.size [.int .i64 0, .int .i64 0, .int .i64 0]) := hv_at rfl
  have B3 : Hid (HV (w2.alloc (.cells #[.int .i64 0, .int .i64 0, .int .i64 0] 56)) (w.heap.size + 1) [.int .i64 0, .int .i64 0, .int .i64 0]) := B3.out.alloc _
  have HX : Hid (Ext w (w2.alloc (.cells #[.int .i64 0, .int .i64 0, .int .i64 0] 56))) := HX.out.alloc _
  clear B1
  generalize (w2.alloc (.cells #[.int .i64 0, .int .i64 0, .int .i64 0] 56)) = w8 at *
  generalize w2.heap.size = mm at *
  have o0 : w8.cell? ⟨w.heap.size + 1, 0, none⟩ = some (.int .i64 0) := B3.out.c 0 rfl
  have o1 : w8.cell? ⟨w.heap.size + 1, 1, none⟩ = some (.int .i64 0) := B3.out.c 1 rfl
  have o2 : w8.cell? ⟨w.heap.size + 1, 2, none⟩ = some (.int .i64 0) := B3.out.c 2 rfl
  have z0 : w8.frozen? ⟨w.heap.size + 1, 0, none⟩ = false := B3.out.f 0 rfl
  have z1 : w8.frozen? ⟨w.heap.size + 1, 1, none⟩ = false := B3.out.f 1 rfl
  have z2 : w8.frozen? ⟨w.heap.size + 1, 2, none⟩ = false := B3.out.f 2 rfl
  go_wp2_with fail
  refine bodyPost_ret (v := .tuple #[.agg #[.int .i64 0, .int .i64 0, .int .i64 0], .int .i64 2]) (by simp [results, Try.results22, go_sem, o0, o1, o2]) rfl ⟨rfl, ?_⟩
  exact (Ext.set (Ext.set (Ext.set HX.out lt2.out _) lt2.out _) lt2.out _)

/-- what Take tells -/
def takeT (s0 s1 s2 n k v0 v1 v2 : Int) : Value :=
  if okT s0 s1 s2 n && okK k && ok3 v0 v1 v2 then
    if n + 1 < k then .tuple #[.agg #[.int .i64 (s0 + v0), .int .i64 (s1 + v1), .int .i64 (s2 + v2), .int .i64 (n + 1)], .agg #[.int .i64 0, .int .i64 0, .int .i64 0], .bool false, .int .i64 0]
    else if ok3 (nearI (s0 + v0) (n + 1)) (nearI (s1 + v1) (n + 1)) (nearI (s2 + v2) (n + 1)) then .tuple #[.agg #[.int .i64 0, .int .i64 0, .int .i64 0, .int .i64 0], .agg #[.int .i64 (nearI (s0 + v0) (n + 1)), .int .i64 (nearI (s1 + v1) (n + 1)), .int .i64 (nearI (s2 + v2) (n + 1))], .bool true, .int .i64 0]
    else .tuple #[.agg #[.int .i64 0, .int .i64 0, .int .i64 0, .int .i64 0], .agg #[.int .i64 0, .int .i64 0, .int .i64 0], .bool false, .int .i64 2]
  else .tuple #[.agg #[.int .i64 0, .int .i64 0, .int .i64 0, .int .i64 0], .agg #[.int .i64 0, .int .i64 0, .int .i64 0], .bool false, .int .i64 1]
set_option maxRecDepth 20000 in
set_option maxHeartbeats 16000000 in
theorem ttake_any (s0 s1 s2 n k v0 v1 v2 : Int) (w : World) : Calls Try.prog 9 #[.agg #[.int .i64 s0, .int .i64 s1, .int .i64 s2, .int .i64 n], .int .i64 k, .agg #[.int .i64 v0, .int .i64 v1, .int .i64 v2]] w fun e w' => e = .returned (takeT s0 s1 s2 n k v0 v1 v2) ∧ Ext w w' := by
  have HI : Hid (∀ w, Calls Try.prog 18 #[.agg #[.int .i64 s0, .int .i64 s1, .int .i64 s2, .int .i64 n]] w fun e w' => e = .returned (.bool (okT s0 s1 s2 n)) ∧ Ext w w') := isthin_any s0 s1 s2 n
  have HK : Hid (∀ w, Calls Try.prog 19 #[.int .i64 k] w fun e w' => e = .returned (.bool (okK k)) ∧ w' = w) := iscount_any k
  have HC : Hid (∀ w, Calls Try.prog 20 #[.agg #[.int .i64 v0, .int .i64 v1, .int .i64 v2]] w fun e w' => e = .returned (.int .i64 (chk3 v0 v1 v2)) ∧ Ext w w') := vCheck_any v0 v1 v2
  have B1 : Hid (HV ((((w.alloc (.cells #[.int .i64 s0, .int .i64 s1, .int .i64 s2, .int .i64 n] 26)).alloc (.cells #[.int .i64 v0, .int .i64 v1, .int .i64 v2] 24)).alloc (.cells #[.int .i64 0, .int .i64 0, .int .i64 0, .int .i64 0] 26)).alloc (.cells #[.int .i64 0, .int .i64 0, .int .i64 0] 24)) w.heap.size [.int .i64 s0, .int .i64 s1, .int .i64 s2, .int .i64 n]) := (((hv_at rfl).alloc _).alloc _).alloc _
  have B2 : Hid (HV ((((w.alloc (.cells #[.int .i64 s0, .int .i64 s1, .int .i64 s2, .int .i64 n] 26)).alloc (.cells #[.int .i64 v0, .int .i64 v1, .int .i64 v2] 24)).alloc (.cells #[.int .i64 0, .int .i64 0, .int .i64 0, .int .i64 0] 26)).alloc (.cells #[.int .i64 0, .int .i64 0, .int .i64 0] 24)) (w.heap.size + 1) [.int .i64 v0, .int .i64 v1, .int .i64 v2]) := ((hv_at (by simp)).alloc _).alloc _
  have B3 : Hid (HV ((((w.alloc (.cells #[.int .i64 s0, .int .i64 s1, .int .i64 s2, .int .i64 n] 26)).alloc (.cells #[.int .i64 v0, .int .i64 v1, .int .i64 v2] 24)).alloc (.cells #[.int .i64 0, .int .i64 0, .int .i64 0, .int .i64 0] 26)).alloc (.cells #[.int .i64 0, .int .i64 0, .int .i64 0] 24)) (w.heap.size + 2) [.int .i64 0, .int .i64 0, .int .i64 0, .int .i64 0]) := (hv_at (by simp)).alloc _
  have B4 : Hid (HV ((((w.alloc (.cells #[.int .i64 s0, .int .i64 s1, .int .i64 s2, .int .i64 n] 26)).alloc (.cells #[.int .i64 v0, .int .i64 v1, .int .i64 v2] 24)).alloc (.cells #[.int .i64 0, .int .i64 0, .int .i64 0, .int .i64 0] 26)).alloc (.cells #[.int .i64 0, .int .i64 0, .int .i64 0] 24)) (w.heap.size + 3) [.int .i64 0, .int .i64 0, .int .i64 0]) := hv_at (by simp)
  have lt2 : Hid (w.heap.size ≤ w.heap.size + 2) := Nat.le_add_right _ _
  have lt3 : Hid (w.heap.size ≤ w.heap.size + 3) := Nat.le_add_right _ _
  have HX : Hid (Ext w ((((w.alloc (.cells #[.int .i64 s0, .int .i64 s1, .int .i64 s2, .int .i64 n] 26)).alloc (.cells #[.int .i64 v0, .int .i64 v1, .int .i64 v2] 24)).alloc (.cells #[.int .i64 0, .int .i64 0, .int .i64 0, .int .i64 0] 26)).alloc (.cells #[.int .i64 0, .int .i64 0, .int .i64 0] 24))) := ((((Ext.refl w).alloc _).alloc _).alloc _).alloc _
  cases h1 : okT s0 s1 s2 n
  · have er : takeT s0 s1 s2 n k v0 v1 v2 = .tuple #[.agg #[.int .i64 0, .int .i64 0, .int .i64 0, .int .i64 0], .agg #[.int .i64 0, .int .i64 0, .int .i64 0], .bool false, .int .i64 1] := by unfold takeT; rw [h1]; rfl
    rw [er]
    rw [h1] at HI
    clear er h1 HK HC
    go_enter Try.func9, Try.ntmps9
    go_upto_region 1 with fail
    generalize ((((w.alloc (.cells #[.int .i64 s0, .int .i64 s1, .int .i64 s2, .int .i64 n] 26)).alloc (.cells #[.int .i64 v0, .int .i64 v1, .int .i64 v2] 24)).alloc (.cells #[.int .i64 0, .int .i64 0, .int .i64 0, .int .i64 0] 26)).alloc (.cells #[.int .i64 0, .int .i64 0, .int .i64 0] 24)) = wa at *
    have c0 : wa.cell? ⟨w.heap.size, 0, none⟩ = some (.int .i64 s0) := B1.out.c 0 rfl
    have c1 : wa.cell? ⟨w.heap.size, 1, none⟩ = some (.int .i64 s1) := B1.out.c 1 rfl
    have c2 : wa.cell? ⟨w.heap.size, 2, none⟩ = some (.int .i64 s2) := B1.out.c 2 rfl
    have c3 : wa.cell? ⟨w.heap.size, 3, none⟩ = some (.int .i64 n) := B1.out.c 3 rfl
    go_upto_region 2 with (go_at_call 18; refine (HI.out _).mono ?_; rintro e w1 ⟨rfl, x1⟩)
    clear c0 c1 c2 c3
    have B1 : Hid (HV w1 w.heap.size [.int .i64 s0, .int .i64 s1, .int .i64 s2, .int .i64 n]) := B1.out.ext x1
    have B2 : Hid (HV w1 (w.heap.size + 1) [.int .i64 v0, .int .i64 v1, .int .i64 v2]) := B2.out.ext x1
    have B3 : Hid (HV w1 (w.heap.size + 2) [.int .i64 0, .int .i64 0, .int .i64 0, .int .i64 0]) := B3.out.ext x1
    have B4 : Hid (HV w1 (w.heap.size + 3) [.int .i64 0, .int .i64 0, .int .i64 0]) := B4.out.ext x1
    have HX : Hid (Ext w w1) := HX.out.trans x1
    clear x1
    have o0 : w1.cell? ⟨w.heap.size + 2, 0, none⟩ = some (.int .i64 0) := B3.out.c 0 rfl
    have o1 : w1.cell? ⟨w.heap.size + 2, 1, none⟩ = some (.int .i64 0) := B3.out.c 1 rfl
    have o2 : w1.cell? ⟨w.heap.size + 2, 2, none⟩ = some (.int .i64 0) := B3.out.c 2 rfl
    have o3 : w1.cell? ⟨w.heap.size + 2, 3, none⟩ = some (.int .i64 0) := B3.out.c 3 rfl
    have z0 : w1.frozen? ⟨w.heap.size + 2, 0, none⟩ = false := B3.out.f 0 rfl
    have z1 : w1.frozen? ⟨w.heap.size + 2, 1, none⟩ = false := B3.out.f 1 rfl
    have z2 : w1.frozen? ⟨w.heap.size + 2, 2, none⟩ = false := B3.out.f 2 rfl
    have z3 : w1.frozen? ⟨w.heap.size + 2, 3, none⟩ = false := B3.out.f 3 rfl
    have l0 : w1.cell? ⟨w.heap.size + 3, 0, none⟩ = some (.int .i64 0) := B4.out.c 0 rfl
    have l1 : w1.cell? ⟨w.heap.size + 3, 1, none⟩ = some (.int .i64 0) := B4.out.c 1 rfl
    have l2 : w1.cell? ⟨w.heap.size + 3, 2, none⟩ = some (.int .i64 0) := B4.out.c 2 rfl
    have y0 : w1.frozen? ⟨w.heap.size + 3, 0, none⟩ = false := B4.out.f 0 rfl
    have y1 : w1.frozen? ⟨w.heap.size + 3, 1, none⟩ = false := B4.out.f 1 rfl
    have y2 : w1.frozen? ⟨w.heap.size + 3, 2, none⟩ = false := B4.out.f 2 rfl
    go_wp2_with fail
    refine bodyPost_ret (v := .tuple #[.agg #[.int .i64 0, .int .i64 0, .int .i64 0, .int .i64 0], .agg #[.int .i64 0, .int .i64 0, .int .i64 0], .bool false, .int .i64 1]) (by simp [results, Try.results9, go_sem, *]) rfl ⟨rfl, ?_⟩
    exact (Ext.set (Ext.set (Ext.set (Ext.set (Ext.set (Ext.set (Ext.set HX.out lt2.out _) lt2.out _) lt2.out _) lt2.out _) lt3.out _) lt3.out _) lt3.out _)
  · cases h2 : okK k
    · have er : takeT s0 s1 s2 n k v0 v1 v2 = .tuple #[.agg #[.int .i64 0, .int .i64 0, .int .i64 0, .int .i64 0], .agg #[.int .i64 0, .int .i64 0, .int .i64 0], .bool false, .int .i64 1] := by unfold takeT; rw [h1, h2]; rfl
      rw [er]
      rw [h1] at HI
      rw [h2] at HK
      clear er h1 h2 HC
      go_enter Try.func9, Try.ntmps9
      go_upto_region 1 with fail
      generalize ((((w.alloc (.cells #[.int .i64 s0, .int .i64 s1, .int .i64 s2, .int .i64 n] 26)).alloc (.cells #[.int .i64 v0, .int .i64 v1, .int .i64 v2] 24)).alloc (.cells #[.int .i64 0, .int .i64 0, .int .i64 0, .int .i64 0] 26)).alloc (.cells #[.int .i64 0, .int .i64 0, .int .i64 0] 24)) = wa at *
      have c0 : wa.cell? ⟨w.heap.size, 0, none⟩ = some (.int .i64 s0) := B1.out.c 0 rfl
      have c1 : wa.cell? ⟨w.heap.size, 1, none⟩ = some (.int .i64 s1) := B1.out.c 1 rfl
      have c2 : wa.cell? ⟨w.heap.size, 2, none⟩ = some (.int .i64 s2) := B1.out.c 2 rfl
      have c3 : wa.cell? ⟨w.heap.size, 3, none⟩ = some (.int .i64 n) := B1.out.c 3 rfl
      go_upto_region 2 with (first | (go_at_call 18; refine (HI.out _).mono ?_; rintro e w1 ⟨rfl, x1⟩) | (go_at_call 19; refine (HK.out _).mono ?_; rintro e wx ⟨rfl, hwx⟩; have hwy := hwx.symm; clear hwx; subst hwy))
      clear c0 c1 c2 c3
      have B1 : Hid (HV w1 w.heap.size [.int .i64 s0, .int .i64 s1, .int .i64 s2, .int .i64 n]) := B1.out.ext x1
      have B2 : Hid (HV w1 (w.heap.size + 1) [.int .i64 v0, .int .i64 v1, .int .i64 v2]) := B2.out.ext x1
      have B3 : Hid (HV w1 (w.heap.size + 2) [.int .i64 0, .int .i64 0, .int .i64 0, .int .i64 0]) := B3.out.ext x1
      have B4 : Hid (HV w1 (w.heap.size + 3) [.int .i64 0, .int .i64 0, .int .i64 0]) := B4.out.ext x1
      have HX : Hid (Ext w w1) := HX.out.trans x1
      clear x1
      have o0 : w1.cell? ⟨w.heap.size + 2, 0, none⟩ = some (.int .i64 0) := B3.out.c 0 rfl
      have o1 : w1.cell? ⟨w.heap.size + 2, 1, none⟩ = some (.int .i64 0) := B3.out.c 1 rfl
      have o2 : w1.cell? ⟨w.heap.size + 2, 2, none⟩ = some (.int .i64 0) := B3.out.c 2 rfl
      have o3 : w1.cell? ⟨w.heap.size + 2, 3, none⟩ = some (.int .i64 0) := B3.out.c 3 rfl
      have z0 : w1.frozen? ⟨w.heap.size + 2, 0, none⟩ = false := B3.out.f 0 rfl
      have z1 : w1.frozen? ⟨w.heap.size + 2, 1, none⟩ = false := B3.out.f 1 rfl
      have z2 : w1.frozen? ⟨w.heap.size + 2, 2, none⟩ = false := B3.out.f 2 rfl
      have z3 : w1.frozen? ⟨w.heap.size + 2, 3, none⟩ = false := B3.out.f 3 rfl
      have l0 : w1.cell? ⟨w.heap.size + 3, 0, none⟩ = some (.int .i64 0) := B4.out.c 0 rfl
      have l1 : w1.cell? ⟨w.heap.size + 3, 1, none⟩ = some (.int .i64 0) := B4.out.c 1 rfl
      have l2 : w1.cell? ⟨w.heap.size + 3, 2, none⟩ = some (.int .i64 0) := B4.out.c 2 rfl
      have y0 : w1.frozen? ⟨w.heap.size + 3, 0, none⟩ = false := B4.out.f 0 rfl
      have y1 : w1.frozen? ⟨w.heap.size + 3, 1, none⟩ = false := B4.out.f 1 rfl
      have y2 : w1.frozen? ⟨w.heap.size + 3, 2, none⟩ = false := B4.out.f 2 rfl
      go_wp2_with fail
      refine bodyPost_ret (v := .tuple #[.agg #[.int .i64 0, .int .i64 0, .int .i64 0, .int .i64 0], .agg #[.int .i64 0, .int .i64 0, .int .i64 0], .bool false, .int .i64 1]) (by simp [results, Try.results9, go_sem, *]) rfl ⟨rfl, ?_⟩
      exact (Ext.set (Ext.set (Ext.set (Ext.set (Ext.set (Ext.set (Ext.set HX.out lt2.out _) lt2.out _) lt2.out _) lt2.out _) lt3.out _) lt3.out _) lt3.out _)
    · cases h3 : ok3 v0 v1 v2
      · have er : takeT s0 s1 s2 n k v0 v1 v2 = .tuple #[.agg #[.int .i64 0, .int .i64 0, .int .i64 0, .int .i64 0], .agg #[.int .i64 0, .int .i64 0, .int .i64 0], .bool false, .int .i64 1] := by unfold takeT; rw [h1, h2, h3]; rfl
        rw [er]
        rw [h1] at HI
        rw [h2] at HK
        have ed : chk3 v0 v1 v2 = 1 := by unfold chk3; rw [h3]; rfl
        rw [ed] at HC
        clear er ed h1 h2 h3
        go_enter Try.func9, Try.ntmps9
        go_upto_region 1 with fail
        generalize ((((w.alloc (.cells #[.int .i64 s0, .int .i64 s1, .int .i64 s2, .int .i64 n] 26)).alloc (.cells #[.int .i64 v0, .int .i64 v1, .int .i64 v2] 24)).alloc (.cells #[.int .i64 0, .int .i64 0, .int .i64 0, .int .i64 0] 26)).alloc (.cells #[.int .i64 0, .int .i64 0, .int .i64 0] 24)) = wa at *
        have c0 : wa.cell? ⟨w.heap.size, 0, none⟩ = some (.int .i64 s0) := B1.out.c 0 rfl
        have c1 : wa.cell? ⟨w.heap.size, 1, none⟩ = some (.int .i64 s1) := B1.out.c 1 rfl
        have c2 : wa.cell? ⟨w.heap.size, 2, none⟩ = some (.int .i64 s2) := B1.out.c 2 rfl
        have c3 : wa.cell? ⟨w.heap.size, 3, none⟩ = some (.int .i64 n) := B1.out.c 3 rfl
        go_wp2_with fail
        refine (HI.out _).mono ?_
        rintro e w1 ⟨rfl, x1⟩
        clear c0 c1 c2 c3
        have B1 : Hid (HV w1 w.heap.size [.int .i64 s0, .int .i64 s1, .int .i64 s2, .int .i64 n]) := B1.out.ext x1
        have B2 : Hid (HV w1 (w.heap.size + 1) [.int .i64 v0, .int .i64 v1, .int .i64 v2]) := B2.out.ext x1
        have B3 : Hid (HV w1 (w.heap.size + 2) [.int .i64 0, .int .i64 0, .int .i64 0, .int .i64 0]) := B3.out.ext x1
        have B4 : Hid (HV w1 (w.heap.size + 3) [.int .i64 0, .int .i64 0, .int .i64 0]) := B4.out.ext x1
        have HX : Hid (Ext w w1) := HX.out.trans x1
        clear x1
        have d0 : w1.cell? ⟨w.heap.size + 1, 0, none⟩ = some (.int .i64 v0) := B2.out.c 0 rfl
        have d1 : w1.cell? ⟨w.heap.size + 1, 1, none⟩ = some (.int .i64 v1) := B2.out.c 1 rfl
        have d2 : w1.cell? ⟨w.heap.size + 1, 2, none⟩ = some (.int .i64 v2) := B2.out.c 2 rfl
        go_upto_region 2 with (first | (go_at_call 19; refine (HK.out _).mono ?_; rintro e wx ⟨rfl, hwx⟩; have hwy := hwx.symm; clear hwx; subst hwy) | (go_at_call 20; refine (HC.out _).mono ?_; rintro e w2 ⟨rfl, x2⟩))
        clear d0 d1 d2 HI HK HC
        have B1 : Hid (HV w2 w.heap.size [.int .i64 s0, .int .i64 s1, .int .i64 s2, .int .i64 n]) := B1.out.ext x2
        have B2 : Hid (HV w2 (w.heap.size + 1) [.int .i64 v0, .int .i64 v1, .int .i64 v2]) := B2.out.ext x2
        have B3 : Hid (HV w2 (w.heap.size + 2) [.int .i64 0, .int .i64 0, .int .i64 0, .int .i64 0]) := B3.out.ext x2
        have B4 : Hid (HV w2 (w.heap.size + 3) [.int .i64 0, .int .i64 0, .int .i64 0]) := B4.out.ext x2
        have HX : Hid (Ext w w2) := HX.out.trans x2
        clear x2
        have o0 : w2.cell? ⟨w.heap.size + 2, 0, none⟩ = some (.int .i64 0) := B3.out.c 0 rfl
        have o1 : w2.cell? ⟨w.heap.size + 2, 1, none⟩ = some (.int .i64 0) := B3.out.c 1 rfl
        have o2 : w2.cell? ⟨w.heap.size + 2, 2, none⟩ = some (.int .i64 0) := B3.out.c 2 rfl
        have o3 : w2.cell? ⟨w.heap.size + 2, 3, none⟩ = some (.int .i64 0) := B3.out.c 3 rfl
        have z0 : w2.frozen? ⟨w.heap.size + 2, 0, none⟩ = false := B3.out.f 0 rfl
        have z1 : w2.frozen? ⟨w.heap.size + 2, 1, none⟩ = false := B3.out.f 1 rfl
        have z2 : w2.frozen? ⟨w.heap.size + 2, 2, none⟩ = false := B3.out.f 2 rfl
        have z3 : w2.frozen? ⟨w.heap.size + 2, 3, none⟩ = false := B3.out.f 3 rfl
        have l0 : w2.cell? ⟨w.heap.size + 3, 0, none⟩ = some (.int .i64 0) := B4.out.c 0 rfl
        have l1 : w2.cell? ⟨w.heap.size + 3, 1, none⟩ = some (.int .i64 0) := B4.out.c 1 rfl
        have l2 : w2.cell? ⟨w.heap.size + 3, 2, none⟩ = some (.int .i64 0) := B4.out.c 2 rfl
        have y0 : w2.frozen? ⟨w.heap.size + 3, 0, none⟩ = false := B4.out.f 0 rfl
        have y1 : w2.frozen? ⟨w.heap.size + 3, 1, none⟩ = false := B4.out.f 1 rfl
        have y2 : w2.frozen? ⟨w.heap.size + 3, 2, none⟩ = false := B4.out.f 2 rfl
        go_wp2_with fail
        refine bodyPost_ret (v := .tuple #[.agg #[.int .i64 0, .int .i64 0, .int .i64 0, .int .i64 0], .agg #[.int .i64 0, .int .i64 0, .int .i64 0], .bool false, .int .i64 1]) (by simp [results, Try.results9, go_sem, *]) rfl ⟨rfl, ?_⟩
        exact (Ext.set (Ext.set (Ext.set (Ext.set (Ext.set (Ext.set (Ext.set HX.out lt2.out _) lt2.out _) lt2.out _) lt2.out _) lt3.out _) lt3.out _) lt3.out _)
      · have er : takeT s0 s1 s2 n k v0 v1 v2 = (if n + 1 < k then .tuple #[.agg #[.int .i64 (s0 + v0), .int .i64 (s1 + v1), .int .i64 (s2 + v2), .int .i64 (n + 1)], .agg #[.int .i64 0, .int .i64 0, .int .i64 0], .bool false, .int .i64 0] else if ok3 (nearI (s0 + v0) (n + 1)) (nearI (s1 + v1) (n + 1)) (nearI (s2 + v2) (n + 1)) then .tuple #[.agg #[.int .i64 0, .int .i64 0, .int .i64 0, .int .i64 0], .agg #[.int .i64 (nearI (s0 + v0) (n + 1)), .int .i64 (nearI (s1 + v1) (n + 1)), .int .i64 (nearI (s2 + v2) (n + 1))], .bool true, .int .i64 0] else .tuple #[.agg #[.int .i64 0, .int .i64 0, .int .i64 0, .int .i64 0], .agg #[.int .i64 0, .int .i64 0, .int .i64 0], .bool false, .int .i64 2]) := by unfold takeT; rw [h1, h2, h3]; rfl
        rw [er]
        rw [h1] at HI
        rw [h2] at HK
        have ed : chk3 v0 v1 v2 = 0 := by unfold chk3; rw [h3]; rfl
        rw [ed] at HC
        clear er ed
        obtain ⟨n1, n2, a0, a1, a2⟩ := okT_bounds h1
        obtain ⟨q0, q1, q2⟩ := ok3_parts h3
        have g0 := okW_bounds q0
        have g1 := okW_bounds q1
        have g2 := okW_bounds q2
        have gk := okK_iff.1 h2
        clear q0 q1 q2 h1 h2 h3
        have HW : Hid (∀ w, Calls Try.prog 21 #[.agg #[.int .i64 s0, .int .i64 s1, .int .i64 s2, .int .i64 n], .agg #[.int .i64 v0, .int .i64 v1, .int .i64 v2]] w fun e w' => e = .returned (.tuple #[.agg #[.int .i64 (s0 + v0), .int .i64 (s1 + v1), .int .i64 (s2 + v2), .int .i64 (n + 1)], .int .i64 0]) ∧ Ext w w') := fun w => twith_any s0 s1 s2 n v0 v1 v2 _ _ _ _ w (wrap_le _ (by omega) (by omega)) (wrap_le _ (by omega) (by omega)) (wrap_le _ (by omega) (by omega)) (wrap_le _ (by omega) (by omega))
        have HT : Hid (∀ w, Calls Try.prog 29 #[.agg #[.int .i64 (s0 + v0), .int .i64 (s1 + v1), .int .i64 (s2 + v2)], .agg #[.int .i64 (n + 1), .int .i64 (n + 1), .int .i64 (n + 1)], .func (.func 33) #[] #[]] w fun e w' => e = .returned (vres (nearI (s0 + v0) (n + 1)) (nearI (s1 + v1) (n + 1)) (nearI (s2 + v2) (n + 1))) ∧ Ext w w') := fun w => thr_mean _ _ _ _ w ⟨by omega, by omega⟩ ⟨by omega, by omega⟩ ⟨by omega, by omega⟩ ⟨by omega, by omega⟩
        clear a0 a1 a2 g0 g1 g2 n1 n2 gk
        generalize nearI (s0 + v0) (n + 1) = m0 at *
        generalize nearI (s1 + v1) (n + 1) = m1 at *
        generalize nearI (s2 + v2) (n + 1) = m2 at *
        generalize s0 + v0 = t0 at *
        generalize s1 + v1 = t1 at *
        generalize s2 + v2 = t2 at *
        generalize n + 1 = m at *
        by_cases hk : m < k
        · rw [if_pos hk]
          clear HT
          go_enter Try.func9, Try.ntmps9
          go_upto_region 1 with fail
          generalize ((((w.alloc (.cells #[.int .i64 s0, .int .i64 s1, .int .i64 s2, .int .i64 n] 26)).alloc (.cells #[.int .i64 v0, .int .i64 v1, .int .i64 v2] 24)).alloc (.cells #[.int .i64 0, .int .i64 0, .int .i64 0, .int .i64 0] 26)).alloc (.cells #[.int .i64 0, .int .i64 0, .int .i64 0] 24)) = wa at *
          have c0 : wa.cell? ⟨w.heap.size, 0, none⟩ = some (.int .i64 s0) := B1.out.c 0 rfl
          have c1 : wa.cell? ⟨w.heap.size, 1, none⟩ = some (.int .i64 s1) := B1.out.c 1 rfl
          have c2 : wa.cell? ⟨w.heap.size, 2, none⟩ = some (.int .i64 s2) := B1.out.c 2 rfl
          have c3 : wa.cell? ⟨w.heap.size, 3, none⟩ = some (.int .i64 n) := B1.out.c 3 rfl
          go_wp2_with fail
          refine (HI.out _).mono ?_
          rintro e w1 ⟨rfl, x1⟩
          clear c0 c1 c2 c3
          have B1 : Hid (HV w1 w.heap.size [.int .i64 s0, .int .i64 s1, .int .i64 s2, .int .i64 n]) := B1.out.ext x1
          have B2 : Hid (HV w1 (w.heap.size + 1) [.int .i64 v0, .int .i64 v1, .int .i64 v2]) := B2.out.ext x1
          have B3 : Hid (HV w1 (w.heap.size + 2) [.int .i64 0, .int .i64 0, .int .i64 0, .int .i64 0]) := B3.out.ext x1
          have B4 : Hid (HV w1 (w.heap.size + 3) [.int .i64 0, .int .i64 0, .int .i64 0]) := B4.out.ext x1
          have HX : Hid (Ext w w1) := HX.out.trans x1
          clear x1
          have d0 : w1.cell? ⟨w.heap.size + 1, 0, none⟩ = some (.int .i64 v0) := B2.out.c 0 rfl
          have d1 : w1.cell? ⟨w.heap.size + 1, 1, none⟩ = some (.int .i64 v1) := B2.out.c 1 rfl
          have d2 : w1.cell? ⟨w.heap.size + 1, 2, none⟩ = some (.int .i64 v2) := B2.out.c 2 rfl
          go_upto_region 3 with (first | (go_at_call 19; refine (HK.out _).mono ?_; rintro e wx ⟨rfl, hwx⟩; have hwy := hwx.symm; clear hwx; subst hwy) | (go_at_call 20; refine (HC.out _).mono ?_; rintro e w2 ⟨rfl, x2⟩))
          clear d0 d1 d2 HI HK HC
          have B1 : Hid (HV w2 w.heap.size [.int .i64 s0, .int .i64 s1, .int .i64 s2, .int .i64 n]) := B1.out.ext x2
          have B2 : Hid (HV w2 (w.heap.size + 1) [.int .i64 v0, .int .i64 v1, .int .i64 v2]) := B2.out.ext x2
          have B3 : Hid (HV w2 (w.heap.size + 2) [.int .i64 0, .int .i64 0, .int .i64 0, .int .i64 0]) := B3.out.ext x2
          have B4 : Hid (HV w2 (w.heap.size + 3) [.int .i64 0, .int .i64 0, .int .i64 0]) := B4.out.ext x2
          have HX : Hid (Ext w w2) := HX.out.trans x2
          clear x2
          have c0 : w2.cell? ⟨w.heap.size, 0, none⟩ = some (.int .i64 s0) := B1.out.c 0 rfl
          have c1 : w2.cell? ⟨w.heap.size, 1, none⟩ = some (.int .i64 s1) := B1.out.c 1 rfl
          have c2 : w2.cell? ⟨w.heap.size, 2, none⟩ = some (.int .i64 s2) := B1.out.c 2 rfl
          have c3 : w2.cell? ⟨w.heap.size, 3, none⟩ = some (.int .i64 n) := B1.out.c 3 rfl
          have d0 : w2.cell? ⟨w.heap.size + 1, 0, none⟩ = some (.int .i64 v0) := B2.out.c 0 rfl
          have d1 : w2.cell? ⟨w.heap.size + 1, 1, none⟩ = some (.int .i64 v1) := B2.out.c 1 rfl
          have d2 : w2.cell? ⟨w.heap.size + 1, 2, none⟩ = some (.int .i64 v2) := B2.out.c 2 rfl
          go_wp2_with fail
          refine (HW.out _).mono ?_
          rintro e w3 ⟨rfl, x3⟩
          clear c0 c1 c2 c3 d0 d1 d2 HW
          have B1 : Hid (HV w3 w.heap.size [.int .i64 s0, .int .i64 s1, .int .i64 s2, .int .i64 n]) := B1.out.ext x3
          have B2 : Hid (HV w3 (w.heap.size + 1) [.int .i64 v0, .int .i64 v1, .int .i64 v2]) := B2.out.ext x3
          have B3 : Hid (HV w3 (w.heap.size + 2) [.int .i64 0, .int .i64 0, .int .i64 0, .int .i64 0]) := B3.out.ext x3
          have B4 : Hid (HV w3 (w.heap.size + 3) [.int .i64 0, .int .i64 0, .int .i64 0]) := B4.out.ext x3
          have HX : Hid (Ext w w3) := HX.out.trans x3
          clear x3
          have o0 : w3.cell? ⟨w.heap.size + 2, 0, none⟩ = some (.int .i64 0) := B3.out.c 0 rfl
          have o1 : w3.cell? ⟨w.heap.size + 2, 1, none⟩ = some (.int .i64 0) := B3.out.c 1 rfl
          have o2 : w3.cell? ⟨w.heap.size + 2, 2, none⟩ = some (.int .i64 0) := B3.out.c 2 rfl
          have o3 : w3.cell? ⟨w.heap.size + 2, 3, none⟩ = some (.int .i64 0) := B3.out.c 3 rfl
          have z0 : w3.frozen? ⟨w.heap.size + 2, 0, none⟩ = false := B3.out.f 0 rfl
          have z1 : w3.frozen? ⟨w.heap.size + 2, 1, none⟩ = false := B3.out.f 1 rfl
          have z2 : w3.frozen? ⟨w.heap.size + 2, 2, none⟩ = false := B3.out.f 2 rfl
          have z3 : w3.frozen? ⟨w.heap.size + 2, 3, none⟩ = false := B3.out.f 3 rfl
          go_upto_region 7 with fail
          have B4 : Hid (HV ((((w3.setCell ⟨w.heap.size + 2, 0, none⟩ (.int .i64 t0)).setCell ⟨w.heap.size + 2, 1, none⟩ (.int .i64 t1)).setCell ⟨w.heap.size + 2, 2, none⟩ (.int .i64 t2)).setCell ⟨w.heap.size + 2, 3, none⟩ (.int .i64 m)) (w.heap.size + 3) [.int .i64 0, .int .i64 0, .int .i64 0]) := (((B4.out.far (by omega)).far (by omega)).far (by omega)).far (by omega)
          have B3 : Hid (HV ((((w3.setCell ⟨w.heap.size + 2, 0, none⟩ (.int .i64 t0)).setCell ⟨w.heap.size + 2, 1, none⟩ (.int .i64 t1)).setCell ⟨w.heap.size + 2, 2, none⟩ (.int .i64 t2)).setCell ⟨w.heap.size + 2, 3, none⟩ (.int .i64 m)) (w.heap.size + 2) [.int .i64 t0, .int .i64 t1, .int .i64 t2, .int .i64 m]) := (((B3.out.set 0 _).set 1 _).set 2 _).set 3 _
          have HX : Hid (Ext w ((((w3.setCell ⟨w.heap.size + 2, 0, none⟩ (.int .i64 t0)).setCell ⟨w.heap.size + 2, 1, none⟩ (.int .i64 t1)).setCell ⟨w.heap.size + 2, 2, none⟩ (.int .i64 t2)).setCell ⟨w.heap.size + 2, 3, none⟩ (.int .i64 m))) := Ext.set (Ext.set (Ext.set (Ext.set HX.out lt2.out _) lt2.out _) lt2.out _) lt2.out _
          clear B1 B2 o0 o1 o2 o3 z0 z1 z2 z3
          generalize ((((w3.setCell ⟨w.heap.size + 2, 0, none⟩ (.int .i64 t0)).setCell ⟨w.heap.size + 2, 1, none⟩ (.int .i64 t1)).setCell ⟨w.heap.size + 2, 2, none⟩ (.int .i64 t2)).setCell ⟨w.heap.size + 2, 3, none⟩ (.int .i64 m)) = w4 at *
          have o0 : w4.cell? ⟨w.heap.size + 2, 0, none⟩ = some (.int .i64 t0) := B3.out.c 0 rfl
          have o1 : w4.cell? ⟨w.heap.size + 2, 1, none⟩ = some (.int .i64 t1) := B3.out.c 1 rfl
          have o2 : w4.cell? ⟨w.heap.size + 2, 2, none⟩ = some (.int .i64 t2) := B3.out.c 2 rfl
          have o3 : w4.cell? ⟨w.heap.size + 2, 3, none⟩ = some (.int .i64 m) := B3.out.c 3 rfl
          have z0 : w4.frozen? ⟨w.heap.size + 2, 0, none⟩ = false := B3.out.f 0 rfl
          have z1 : w4.frozen? ⟨w.heap.size + 2, 1, none⟩ = false := B3.out.f 1 rfl
          have z2 : w4.frozen? ⟨w.heap.size + 2, 2, none⟩ = false := B3.out.f 2 rfl
          have z3 : w4.frozen? ⟨w.heap.size + 2, 3, none⟩ = false := B3.out.f 3 rfl
          have l0 : w4.cell? ⟨w.heap.size + 3, 0, none⟩ = some (.int .i64 0) := B4.out.c 0 rfl
          have l1 : w4.cell? ⟨w.heap.size + 3, 1, none⟩ = some (.int .i64 0) := B4.out.c 1 rfl
          have l2 : w4.cell? ⟨w.heap.size + 3, 2, none⟩ = some (.int .i64 0) := B4.out.c 2 rfl
          have y0 : w4.frozen? ⟨w.heap.size + 3, 0, none⟩ = false := B4.out.f 0 rfl
          have y1 : w4.frozen? ⟨w.heap.size + 3, 1, none⟩ = false := B4.out.f 1 rfl
          have y2 : w4.frozen? ⟨w.heap.size + 3, 2, none⟩ = false := B4.out.f 2 rfl
          go_wp2_with fail
          refine bodyPost_ret (v := .tuple #[.agg #[.int .i64 t0, .int .i64 t1, .int .i64 t2, .int .i64 m], .agg #[.int .i64 0, .int .i64 0, .int .i64 0], .bool false, .int .i64 0]) (by simp [results, Try.results9, go_sem, *]) rfl ⟨rfl, ?_⟩
          exact (Ext.set (Ext.set (Ext.set (Ext.set (Ext.set (Ext.set (Ext.set HX.out lt2.out _) lt2.out _) lt2.out _) lt2.out _) lt3.out _) lt3.out _) lt3.out _)
        · rw [if_neg hk]
          cases ho : ok3 m0 m1 m2
          · rw [if_neg (by decide)]
            have ev : vres m0 m1 m2 = .tuple #[.agg #[.int .i64 0, .int .i64 0, .int .i64 0], .int .i64 2] := by unfold vres; rw [ho]; rfl
            rw [ev] at HT
            have HM : Hid (∀ w, Calls Try.prog 22 #[.agg #[.int .i64 t0, .int .i64 t1, .int .i64 t2, .int .i64 m]] w fun e w' => e = .returned (.tuple #[.agg #[.int .i64 0, .int .i64 0, .int .i64 0], .int .i64 2]) ∧ Ext w w') := fun w => tmean_bad _ _ _ _ w HT
            clear HT ev ho
            go_enter Try.func9, Try.ntmps9
            go_upto_region 1 with fail
            generalize ((((w.alloc (.cells #[.int .i64 s0, .int .i64 s1, .int .i64 s2, .int .i64 n] 26)).alloc (.cells #[.int .i64 v0, .int .i64 v1, .int .i64 v2] 24)).alloc (.cells #[.int .i64 0, .int .i64 0, .int .i64 0, .int .i64 0] 26)).alloc (.cells #[.int .i64 0, .int .i64 0, .int .i64 0] 24)) = wa at *
            have c0 : wa.cell? ⟨w.heap.size, 0, none⟩ = some (.int .i64 s0) := B1.out.c 0 rfl
            have c1 : wa.cell? ⟨w.heap.size, 1, none⟩ = some (.int .i64 s1) := B1.out.c 1 rfl
            have c2 : wa.cell? ⟨w.heap.size, 2, none⟩ = some (.int .i64 s2) := B1.out.c 2 rfl
            have c3 : wa.cell? ⟨w.heap.size, 3, none⟩ = some (.int .i64 n) := B1.out.c 3 rfl
            go_wp2_with fail
            refine (HI.out _).mono ?_
            rintro e w1 ⟨rfl, x1⟩
            clear c0 c1 c2 c3
            have B1 : Hid (HV w1 w.heap.size [.int .i64 s0, .int .i64 s1, .int .i64 s2, .int .i64 n]) := B1.out.ext x1
            have B2 : Hid (HV w1 (w.heap.size + 1) [.int .i64 v0, .int .i64 v1, .int .i64 v2]) := B2.out.ext x1
            have B3 : Hid (HV w1 (w.heap.size + 2) [.int .i64 0, .int .i64 0, .int .i64 0, .int .i64 0]) := B3.out.ext x1
            have B4 : Hid (HV w1 (w.heap.size + 3) [.int .i64 0, .int .i64 0, .int .i64 0]) := B4.out.ext x1
            have HX : Hid (Ext w w1) := HX.out.trans x1
            clear x1
            have d0 : w1.cell? ⟨w.heap.size + 1, 0, none⟩ = some (.int .i64 v0) := B2.out.c 0 rfl
            have d1 : w1.cell? ⟨w.heap.size + 1, 1, none⟩ = some (.int .i64 v1) := B2.out.c 1 rfl
            have d2 : w1.cell? ⟨w.heap.size + 1, 2, none⟩ = some (.int .i64 v2) := B2.out.c 2 rfl
            go_upto_region 3 with (first | (go_at_call 19; refine (HK.out _).mono ?_; rintro e wx ⟨rfl, hwx⟩; have hwy := hwx.symm; clear hwx; subst hwy) | (go_at_call 20; refine (HC.out _).mono ?_; rintro e w2 ⟨rfl, x2⟩))
            clear d0 d1 d2 HI HK HC
            have B1 : Hid (HV w2 w.heap.size [.int .i64 s0, .int .i64 s1, .int .i64 s2, .int .i64 n]) := B1.out.ext x2
            have B2 : Hid (HV w2 (w.heap.size + 1) [.int .i64 v0, .int .i64 v1, .int .i64 v2]) := B2.out.ext x2
            have B3 : Hid (HV w2 (w.heap.size + 2) [.int .i64 0, .int .i64 0, .int .i64 0, .int .i64 0]) := B3.out.ext x2
            have B4 : Hid (HV w2 (w.heap.size + 3) [.int .i64 0, .int .i64 0, .int .i64 0]) := B4.out.ext x2
            have HX : Hid (Ext w w2) := HX.out.trans x2
            clear x2
            have c0 : w2.cell? ⟨w.heap.size, 0, none⟩ = some (.int .i64 s0) := B1.out.c 0 rfl
            have c1 : w2.cell? ⟨w.heap.size, 1, none⟩ = some (.int .i64 s1) := B1.out.c 1 rfl
            have c2 : w2.cell? ⟨w.heap.size, 2, none⟩ = some (.int .i64 s2) := B1.out.c 2 rfl
            have c3 : w2.cell? ⟨w.heap.size, 3, none⟩ = some (.int .i64 n) := B1.out.c 3 rfl
            have d0 : w2.cell? ⟨w.heap.size + 1, 0, none⟩ = some (.int .i64 v0) := B2.out.c 0 rfl
            have d1 : w2.cell? ⟨w.heap.size + 1, 1, none⟩ = some (.int .i64 v1) := B2.out.c 1 rfl
            have d2 : w2.cell? ⟨w.heap.size + 1, 2, none⟩ = some (.int .i64 v2) := B2.out.c 2 rfl
            go_wp2_with fail
            refine (HW.out _).mono ?_
            rintro e w3 ⟨rfl, x3⟩
            clear c0 c1 c2 c3 d0 d1 d2 HW
            have B1 : Hid (HV w3 w.heap.size [.int .i64 s0, .int .i64 s1, .int .i64 s2, .int .i64 n]) := B1.out.ext x3
            have B2 : Hid (HV w3 (w.heap.size + 1) [.int .i64 v0, .int .i64 v1, .int .i64 v2]) := B2.out.ext x3
            have B3 : Hid (HV w3 (w.heap.size + 2) [.int .i64 0, .int .i64 0, .int .i64 0, .int .i64 0]) := B3.out.ext x3
            have B4 : Hid (HV w3 (w.heap.size + 3) [.int .i64 0, .int .i64 0, .int .i64 0]) := B4.out.ext x3
            have HX : Hid (Ext w w3) := HX.out.trans x3
            clear x3
            have o0 : w3.cell? ⟨w.heap.size + 2, 0, none⟩ = some (.int .i64 0) := B3.out.c 0 rfl
            have o1 : w3.cell? ⟨w.heap.size + 2, 1, none⟩ = some (.int .i64 0) := B3.out.c 1 rfl
            have o2 : w3.cell? ⟨w.heap.size + 2, 2, none⟩ = some (.int .i64 0) := B3.out.c 2 rfl
            have o3 : w3.cell? ⟨w.heap.size + 2, 3, none⟩ = some (.int .i64 0) := B3.out.c 3 rfl
            have z0 : w3.frozen? ⟨w.heap.size + 2, 0, none⟩ = false := B3.out.f 0 rfl
            have z1 : w3.frozen? ⟨w.heap.size + 2, 1, none⟩ = false := B3.out.f 1 rfl
            have z2 : w3.frozen? ⟨w.heap.size + 2, 2, none⟩ = false := B3.out.f 2 rfl
            have z3 : w3.frozen? ⟨w.heap.size + 2, 3, none⟩ = false := B3.out.f 3 rfl
            go_upto_region 8 with fail
            have B4 : Hid (HV ((((w3.setCell ⟨w.heap.size + 2, 0, none⟩ (.int .i64 t0)).setCell ⟨w.heap.size + 2, 1, none⟩ (.int .i64 t1)).setCell ⟨w.heap.size + 2, 2, none⟩ (.int .i64 t2)).setCell ⟨w.heap.size + 2, 3, none⟩ (.int .i64 m)) (w.heap.size + 3) [.int .i64 0, .int .i64 0, .int .i64 0]) := (((B4.out.far (by omega)).far (by omega)).far (by omega)).far (by omega)
            have B3 : Hid (HV ((((w3.setCell ⟨w.heap.size + 2, 0, none⟩ (.int .i64 t0)).setCell ⟨w.heap.size + 2, 1, none⟩ (.int .i64 t1)).setCell ⟨w.heap.size + 2, 2, none⟩ (.int .i64 t2)).setCell ⟨w.heap.size + 2, 3, none⟩ (.int .i64 m)) (w.heap.size + 2) [.int .i64 t0, .int .i64 t1, .int .i64 t2, .int .i64 m]) := (((B3.out.set 0 _).set 1 _).set 2 _).set 3 _
            have HX : Hid (Ext w ((((w3.setCell ⟨w.heap.size + 2, 0, none⟩ (.int .i64 t0)).setCell ⟨w.heap.size + 2, 1, none⟩ (.int .i64 t1)).setCell ⟨w.heap.size + 2, 2, none⟩ (.int .i64 t2)).setCell ⟨w.heap.size + 2, 3, none⟩ (.int .i64 m))) := Ext.set (Ext.set (Ext.set (Ext.set HX.out lt2.out _) lt2.out _) lt2.out _) lt2.out _
            clear B1 B2 o0 o1 o2 o3 z0 z1 z2 z3
            generalize ((((w3.setCell ⟨w.heap.size + 2, 0, none⟩ (.int .i64 t0)).setCell ⟨w.heap.size + 2, 1, none⟩ (.int .i64 t1)).setCell ⟨w.heap.size + 2, 2, none⟩ (.int .i64 t2)).setCell ⟨w.heap.size + 2, 3, none⟩ (.int .i64 m)) = w4 at *
            have o0 : w4.cell? ⟨w.heap.size + 2, 0, none⟩ = some (.int .i64 t0) := B3.out.c 0 rfl
            have o1 : w4.cell? ⟨w.heap.size + 2, 1, none⟩ = some (.int .i64 t1) := B3.out.c 1 rfl
            have o2 : w4.cell? ⟨w.heap.size + 2, 2, none⟩ = some (.int .i64 t2) := B3.out.c 2 rfl
            have o3 : w4.cell? ⟨w.heap.size + 2, 3, none⟩ = some (.int .i64 m) := B3.out.c 3 rfl
            go_wp2_with fail
            refine (HM.out _).mono ?_
            rintro e w5 ⟨rfl, x5⟩
            clear o0 o1 o2 o3 HM
            have B3 : Hid (HV w5 (w.heap.size + 2) [.int .i64 t0, .int .i64 t1, .int .i64 t2, .int .i64 m]) := B3.out.ext x5
            have B4 : Hid (HV w5 (w.heap.size + 3) [.int .i64 0, .int .i64 0, .int .i64 0]) := B4.out.ext x5
            have HX : Hid (Ext w w5) := HX.out.trans x5
            clear x5
            have o0 : w5.cell? ⟨w.heap.size + 2, 0, none⟩ = some (.int .i64 t0) := B3.out.c 0 rfl
            have o1 : w5.cell? ⟨w.heap.size + 2, 1, none⟩ = some (.int .i64 t1) := B3.out.c 1 rfl
            have o2 : w5.cell? ⟨w.heap.size + 2, 2, none⟩ = some (.int .i64 t2) := B3.out.c 2 rfl
            have o3 : w5.cell? ⟨w.heap.size + 2, 3, none⟩ = some (.int .i64 m) := B3.out.c 3 rfl
            have z0 : w5.frozen? ⟨w.heap.size + 2, 0, none⟩ = false := B3.out.f 0 rfl
            have z1 : w5.frozen? ⟨w.heap.size + 2, 1, none⟩ = false := B3.out.f 1 rfl
            have z2 : w5.frozen? ⟨w.heap.size + 2, 2, none⟩ = false := B3.out.f 2 rfl
            have z3 : w5.frozen? ⟨w.heap.size + 2, 3, none⟩ = false := B3.out.f 3 rfl
            have l0 : w5.cell? ⟨w.heap.size + 3, 0, none⟩ = some (.int .i64 0) := B4.out.c 0 rfl
            have l1 : w5.cell? ⟨w.heap.size + 3, 1, none⟩ = some (.int .i64 0) := B4.out.c 1 rfl
            have l2 : w5.cell? ⟨w.heap.size + 3, 2, none⟩ = some (.int .i64 0) := B4.out.c 2 rfl
            have y0 : w5.frozen? ⟨w.heap.size + 3, 0, none⟩ = false := B4.out.f 0 rfl
            have y1 : w5.frozen? ⟨w.heap.size + 3, 1, none⟩ = false := B4.out.f 1 rfl
            have y2 : w5.frozen? ⟨w.heap.size + 3, 2, none⟩ = false := B4.out.f 2 rfl
            go_upto_region 10 with fail
            have B3 : Hid (HV (((w5.setCell ⟨w.heap.size + 3, 0, none⟩ (.int .i64 0)).setCell ⟨w.heap.size + 3, 1, none⟩ (.int .i64 0)).setCell ⟨w.heap.size + 3, 2, none⟩ (.int .i64 0)) (w.heap.size + 2) [.int .i64 t0, .int .i64 t1, .int .i64 t2, .int .i64 m]) := ((B3.out.far (by omega)).far (by omega)).far (by omega)
            have B4 : Hid (HV (((w5.setCell ⟨w.heap.size + 3, 0, none⟩ (.int .i64 0)).setCell ⟨w.heap.size + 3, 1, none⟩ (.int .i64 0)).setCell ⟨w.heap.size + 3, 2, none⟩ (.int .i64 0)) (w.heap.size + 3) [.int .i64 0, .int .i64 0, .int .i64 0]) := ((B4.out.set 0 _).set 1 _).set 2 _
            have HX : Hid (Ext w (((w5.setCell ⟨w.heap.size + 3, 0, none⟩ (.int .i64 0)).setCell ⟨w.heap.size + 3, 1, none⟩ (.int .i64 0)).setCell ⟨w.heap.size + 3, 2, none⟩ (.int .i64 0))) := Ext.set (Ext.set (Ext.set HX.out lt3.out _) lt3.out _) lt3.out _
            clear o0 o1 o2 o3 z0 z1 z2 z3 l0 l1 l2 y0 y1 y2
            generalize (((w5.setCell ⟨w.heap.size + 3, 0, none⟩ (.int .i64 0)).setCell ⟨w.heap.size + 3, 1, none⟩ (.int .i64 0)).setCell ⟨w.heap.size + 3, 2, none⟩ (.int .i64 0)) = w6 at *
            have o0 : w6.cell? ⟨w.heap.size + 2, 0, none⟩ = some (.int .i64 t0) := B3.out.c 0 rfl
            have o1 : w6.cell? ⟨w.heap.size + 2, 1, none⟩ = some (.int .i64 t1) := B3.out.c 1 rfl
            have o2 : w6.cell? ⟨w.heap.size + 2, 2, none⟩ = some (.int .i64 t2) := B3.out.c 2 rfl
            have o3 : w6.cell? ⟨w.heap.size + 2, 3, none⟩ = some (.int .i64 m) := B3.out.c 3 rfl
            have z0 : w6.frozen? ⟨w.heap.size + 2, 0, none⟩ = false := B3.out.f 0 rfl
            have z1 : w6.frozen? ⟨w.heap.size + 2, 1, none⟩ = false := B3.out.f 1 rfl
            have z2 : w6.frozen? ⟨w.heap.size + 2, 2, none⟩ = false := B3.out.f 2 rfl
            have z3 : w6.frozen? ⟨w.heap.size + 2, 3, none⟩ = false := B3.out.f 3 rfl
            have l0 : w6.cell? ⟨w.heap.size + 3, 0, none⟩ = some (.int .i64 0) := B4.out.c 0 rfl
            have l1 : w6.cell? ⟨w.heap.size + 3, 1, none⟩ = some (.int .i64 0) := B4.out.c 1 rfl
            have l2 : w6.cell? ⟨w.heap.size + 3, 2, none⟩ = some (.int .i64 0) := B4.out.c 2 rfl
            have y0 : w6.frozen? ⟨w.heap.size + 3, 0, none⟩ = false := B4.out.f 0 rfl
            have y1 : w6.frozen? ⟨w.heap.size + 3, 1, none⟩ = false := B4.out.f 1 rfl
            have y2 : w6.frozen? ⟨w.heap.size + 3, 2, none⟩ = false := B4.out.f 2 rfl
            go_wp2_with fail
            refine bodyPost_ret (v := .tuple #[.agg #[.int .i64 0, .int .i64 0, .int .i64 0, .int .i64 0], .agg #[.int .i64 0, .int .i64 0, .int .i64 0], .bool false, .int .i64 2]) (by simp [results, Try.results9, go_sem, *]) rfl ⟨rfl, ?_⟩
            exact (Ext.set (Ext.set (Ext.set (Ext.set (Ext.set (Ext.set (Ext.set HX.out lt2.out _) lt2.out _) lt2.out _) lt2.out _) lt3.out _) lt3.out _) lt3.out _)
          · rw [if_pos (by rfl)]
            have ev : vres m0 m1 m2 = .tuple #[.agg #[.int .i64 m0, .int .i64 m1, .int .i64 m2], .int .i64 0] := by unfold vres; rw [ho]; rfl
            rw [ev] at HT
            have HM : Hid (∀ w, Calls Try.prog 22 #[.agg #[.int .i64 t0, .int .i64 t1, .int .i64 t2, .int .i64 m]] w fun e w' => e = .returned (.tuple #[.agg #[.int .i64 m0, .int .i64 m1, .int .i64 m2], .int .i64 0]) ∧ Ext w w') := fun w => tmean_good _ _ _ _ _ _ _ w HT
            clear HT ev ho
            go_enter Try.func9, Try.ntmps9
            go_upto_region 1 with fail
            generalize ((((w.alloc (.cells #[.int .i64 s0, .int .i64 s1, .int .i64 s2, .int .i64 n] 26)).alloc (.cells #[.int .i64 v0, .int .i64 v1, .int .i64 v2] 24)).alloc (.cells #[.int .i64 0, .int .i64 0, .int .i64 0, .int .i64 0] 26)).alloc (.cells #[.int .i64 0, .int .i64 0, .int .i64 0] 24)) = wa at *
            have c0 : wa.cell? ⟨w.heap.size, 0, none⟩ = some (.int .i64 s0) := B1.out.c 0 rfl
            have c1 : wa.cell? ⟨w.heap.size, 1, none⟩ = some (.int .i64 s1) := B1.out.c 1 rfl
            have c2 : wa.cell? ⟨w.heap.size, 2, none⟩ = some (.int .i64 s2) := B1.out.c 2 rfl
            have c3 : wa.cell? ⟨w.heap.size, 3, none⟩ = some (.int .i64 n) := B1.out.c 3 rfl
            go_wp2_with fail
            refine (HI.out _).mono ?_
            rintro e w1 ⟨rfl, x1⟩
            clear c0 c1 c2 c3
            have B1 : Hid (HV w1 w.heap.size [.int .i64 s0, .int .i64 s1, .int .i64 s2, .int .i64 n]) := B1.out.ext x1
            have B2 : Hid (HV w1 (w.heap.size + 1) [.int .i64 v0, .int .i64 v1, .int .i64 v2]) := B2.out.ext x1
            have B3 : Hid (HV w1 (w.heap.size + 2) [.int .i64 0, .int .i64 0, .int .i64 0, .int .i64 0]) := B3.out.ext x1
            have B4 : Hid (HV w1 (w.heap.size + 3) [.int .i64 0, .int .i64 0, .int .i64 0]) := B4.out.ext x1
            have HX : Hid (Ext w w1) := HX.out.trans x1
            clear x1
            have d0 : w1.cell? ⟨w.heap.size + 1, 0, none⟩ = some (.int .i64 v0) := B2.out.c 0 rfl
            have d1 : w1.cell? ⟨w.heap.size + 1, 1, none⟩ = some (.int .i64 v1) := B2.out.c 1 rfl
            have d2 : w1.cell? ⟨w.heap.size + 1, 2, none⟩ = some (.int .i64 v2) := B2.out.c 2 rfl
            go_upto_region 3 with (first | (go_at_call 19; refine (HK.out _).mono ?_; rintro e wx ⟨rfl, hwx⟩; have hwy := hwx.symm; clear hwx; subst hwy) | (go_at_call 20; refine (HC.out _).mono ?_; rintro e w2 ⟨rfl, x2⟩))
            clear d0 d1 d2 HI HK HC
            have B1 : Hid (HV w2 w.heap.size [.int .i64 s0, .int .i64 s1, .int .i64 s2, .int .i64 n]) := B1.out.ext x2
            have B2 : Hid (HV w2 (w.heap.size + 1) [.int .i64 v0, .int .i64 v1, .int .i64 v2]) := B2.out.ext x2
            have B3 : Hid (HV w2 (w.heap.size + 2) [.int .i64 0, .int .i64 0, .int .i64 0, .int .i64 0]) := B3.out.ext x2
            have B4 : Hid (HV w2 (w.heap.size + 3) [.int .i64 0, .int .i64 0, .int .i64 0]) := B4.out.ext x2
            have HX : Hid (Ext w w2) := HX.out.trans x2
            clear x2
            have c0 : w2.cell? ⟨w.heap.size, 0, none⟩ = some (.int .i64 s0) := B1.out.c 0 rfl
            have c1 : w2.cell? ⟨w.heap.size, 1, none⟩ = some (.int .i64 s1) := B1.out.c 1 rfl
            have c2 : w2.cell? ⟨w.heap.size, 2, none⟩ = some (.int .i64 s2) := B1.out.c 2 rfl
            have c3 : w2.cell? ⟨w.heap.size, 3, none⟩ = some (.int .i64 n) := B1.out.c 3 rfl
            have d0 : w2.cell? ⟨w.heap.size + 1, 0, none⟩ = some (.int .i64 v0) := B2.out.c 0 rfl
            have d1 : w2.cell? ⟨w.heap.size + 1, 1, none⟩ = some (.int .i64 v1) := B2.out.c 1 rfl
            have d2 : w2.cell? ⟨w.heap.size + 1, 2, none⟩ = some (.int .i64 v2) := B2.out.c 2 rfl
            go_wp2_with fail
            refine (HW.out _).mono ?_
            rintro e w3 ⟨rfl, x3⟩
            clear c0 c1 c2 c3 d0 d1 d2 HW
            have B1 : Hid (HV w3 w.heap.size [.int .i64 s0, .int .i64 s1, .int .i64 s2, .int .i64 n]) := B1.out.ext x3
            have B2 : Hid (HV w3 (w.heap.size + 1) [.int .i64 v0, .int .i64 v1, .int .i64 v2]) := B2.out.ext x3
            have B3 : Hid (HV w3 (w.heap.size + 2) [.int .i64 0, .int .i64 0, .int .i64 0, .int .i64 0]) := B3.out.ext x3
            have B4 : Hid (HV w3 (w.heap.size + 3) [.int .i64 0, .int .i64 0, .int .i64 0]) := B4.out.ext x3
            have HX : Hid (Ext w w3) := HX.out.trans x3
            clear x3
            have o0 : w3.cell? ⟨w.heap.size + 2, 0, none⟩ = some (.int .i64 0) := B3.out.c 0 rfl
            have o1 : w3.cell? ⟨w.heap.size + 2, 1, none⟩ = some (.int .i64 0) := B3.out.c 1 rfl
            have o2 : w3.cell? ⟨w.heap.size + 2, 2, none⟩ = some (.int .i64 0) := B3.out.c 2 rfl
            have o3 : w3.cell? ⟨w.heap.size + 2, 3, none⟩ = some (.int .i64 0) := B3.out.c 3 rfl
            have z0 : w3.frozen? ⟨w.heap.size + 2, 0, none⟩ = false := B3.out.f 0 rfl
            have z1 : w3.frozen? ⟨w.heap.size + 2, 1, none⟩ = false := B3.out.f 1 rfl
            have z2 : w3.frozen? ⟨w.heap.size + 2, 2, none⟩ = false := B3.out.f 2 rfl
            have z3 : w3.frozen? ⟨w.heap.size + 2, 3, none⟩ = false := B3.out.f 3 rfl
            go_upto_region 8 with fail
            have B4 : Hid (HV ((((w3.setCell ⟨w.heap.size + 2, 0, none⟩ (.int .i64 t0)).setCell ⟨w.heap.size + 2, 1, none⟩ (.int .i64 t1)).setCell ⟨w.heap.size + 2, 2, none⟩ (.int .i64 t2)).setCell ⟨w.heap.size + 2, 3, none⟩ (.int .i64 m)) (w.heap.size + 3) [.int .i64 0, .int .i64 0, .int .i64 0]) := (((B4.out.far (by omega)).far (by omega)).far (by omega)).far (by omega)
            have B3 : Hid (HV ((((w3.setCell ⟨w.heap.size + 2, 0, none⟩ (.int .i64 t0)).setCell ⟨w.heap.size + 2, 1, none⟩ (.int .i64 t1)).setCell ⟨w.heap.size + 2, 2, none⟩ (.int .i64 t2)).setCell ⟨w.heap.size + 2, 3, none⟩ (.int .i64 m)) (w.heap.size + 2) [.int .i64 t0, .int .i64 t1, .int .i64 t2, .int .i64 m]) := (((B3.out.set 0 _).set 1 _).set 2 _).set 3 _
            have HX : Hid (Ext w ((((w3.setCell ⟨w.heap.size + 2, 0, none⟩ (.int .i64 t0)).setCell ⟨w.heap.size + 2, 1, none⟩ (.int .i64 t1)).setCell ⟨w.heap.size + 2, 2, none⟩ (.int .i64 t2)).setCell ⟨w.heap.size + 2, 3, none⟩ (.int .i64 m))) := Ext.set (Ext.set (Ext.set (Ext.set HX.out lt2.out _) lt2.out _) lt2.out _) lt2.out _
            clear B1 B2 o0 o1 o2 o3 z0 z1 z2 z3
            generalize ((((w3.setCell ⟨w.heap.size + 2, 0, none⟩ (.int .i64 t0)).setCell ⟨w.heap.size + 2, 1, none⟩ (.int .i64 t1)).setCell ⟨w.heap.size + 2, 2, none⟩ (.int .i64 t2)).setCell ⟨w.heap.size + 2, 3, none⟩ (.int .i64 m)) = w4 at *
            have o0 : w4.cell? ⟨w.heap.size + 2, 0, none⟩ = some (.int .i64 t0) := B3.out.c 0 rfl
            have o1 : w4.cell? ⟨w.heap.size + 2, 1, none⟩ = some (.int .i64 t1) := B3.out.c 1 rfl
            have o2 : w4.cell? ⟨w.heap.size + 2, 2, none⟩ = some (.int .i64 t2) := B3.out.c 2 rfl
            have o3 : w4.cell? ⟨w.heap.size + 2, 3, none⟩ = some (.int .i64 m) := B3.out.c 3 rfl
            go_wp2_with fail
            refine (HM.out _).mono ?_
            rintro e w5 ⟨rfl, x5⟩
            clear o0 o1 o2 o3 HM
            have B3 : Hid (HV w5 (w.heap.size + 2) [.int .i64 t0, .int .i64 t1, .int .i64 t2, .int .i64 m]) := B3.out.ext x5
            have B4 : Hid (HV w5 (w.heap.size + 3) [.int .i64 0, .int .i64 0, .int .i64 0]) := B4.out.ext x5
            have HX : Hid (Ext w w5) := HX.out.trans x5
            clear x5
            have o0 : w5.cell? ⟨w.heap.size + 2, 0, none⟩ = some (.int .i64 t0) := B3.out.c 0 rfl
            have o1 : w5.cell? ⟨w.heap.size + 2, 1, none⟩ = some (.int .i64 t1) := B3.out.c 1 rfl
            have o2 : w5.cell? ⟨w.heap.size + 2, 2, none⟩ = some (.int .i64 t2) := B3.out.c 2 rfl
            have o3 : w5.cell? ⟨w.heap.size + 2, 3, none⟩ = some (.int .i64 m) := B3.out.c 3 rfl
            have z0 : w5.frozen? ⟨w.heap.size + 2, 0, none⟩ = false := B3.out.f 0 rfl
            have z1 : w5.frozen? ⟨w.heap.size + 2, 1, none⟩ = false := B3.out.f 1 rfl
            have z2 : w5.frozen? ⟨w.heap.size + 2, 2, none⟩ = false := B3.out.f 2 rfl
            have z3 : w5.frozen? ⟨w.heap.size + 2, 3, none⟩ = false := B3.out.f 3 rfl
            have l0 : w5.cell? ⟨w.heap.size + 3, 0, none⟩ = some (.int .i64 0) := B4.out.c 0 rfl
            have l1 : w5.cell? ⟨w.heap.size + 3, 1, none⟩ = some (.int .i64 0) := B4.out.c 1 rfl
            have l2 : w5.cell? ⟨w.heap.size + 3, 2, none⟩ = some (.int .i64 0) := B4.out.c 2 rfl
            have y0 : w5.frozen? ⟨w.heap.size + 3, 0, none⟩ = false := B4.out.f 0 rfl
            have y1 : w5.frozen? ⟨w.heap.size + 3, 1, none⟩ = false := B4.out.f 1 rfl
            have y2 : w5.frozen? ⟨w.heap.size + 3, 2, none⟩ = false := B4.out.f 2 rfl
            go_upto_region 11 with fail
            have B3 : Hid (HV (((w5.setCell ⟨w.heap.size + 3, 0, none⟩ (.int .i64 m0)).setCell ⟨w.heap.size + 3, 1, none⟩ (.int .i64 m1)).setCell ⟨w.heap.size + 3, 2, none⟩ (.int .i64 m2)) (w.heap.size + 2) [.int .i64 t0, .int .i64 t1, .int .i64 t2, .int .i64 m]) := ((B3.out.far (by omega)).far (by omega)).far (by omega)
            have B4 : Hid (HV (((w5.setCell ⟨w.heap.size + 3, 0, none⟩ (.int .i64 m0)).setCell ⟨w.heap.size + 3, 1, none⟩ (.int .i64 m1)).setCell ⟨w.heap.size + 3, 2, none⟩ (.int .i64 m2)) (w.heap.size + 3) [.int .i64 m0, .int .i64 m1, .int .i64 m2]) := ((B4.out.set 0 _).set 1 _).set 2 _
            have HX : Hid (Ext w (((w5.setCell ⟨w.heap.size + 3, 0, none⟩ (.int .i64 m0)).setCell ⟨w.heap.size + 3, 1, none⟩ (.int .i64 m1)).setCell ⟨w.heap.size + 3, 2, none⟩ (.int .i64 m2))) := Ext.set (Ext.set (Ext.set HX.out lt3.out _) lt3.out _) lt3.out _
            clear o0 o1 o2 o3 z0 z1 z2 z3 l0 l1 l2 y0 y1 y2
            generalize (((w5.setCell ⟨w.heap.size + 3, 0, none⟩ (.int .i64 m0)).setCell ⟨w.heap.size + 3, 1, none⟩ (.int .i64 m1)).setCell ⟨w.heap.size + 3, 2, none⟩ (.int .i64 m2)) = w6 at *
            have o0 : w6.cell? ⟨w.heap.size + 2, 0, none⟩ = some (.int .i64 t0) := B3.out.c 0 rfl
            have o1 : w6.cell? ⟨w.heap.size + 2, 1, none⟩ = some (.int .i64 t1) := B3.out.c 1 rfl
            have o2 : w6.cell? ⟨w.heap.size + 2, 2, none⟩ = some (.int .i64 t2) := B3.out.c 2 rfl
            have o3 : w6.cell? ⟨w.heap.size + 2, 3, none⟩ = some (.int .i64 m) := B3.out.c 3 rfl
            have z0 : w6.frozen? ⟨w.heap.size + 2, 0, none⟩ = false := B3.out.f 0 rfl
            have z1 : w6.frozen? ⟨w.heap.size + 2, 1, none⟩ = false := B3.out.f 1 rfl
            have z2 : w6.frozen? ⟨w.heap.size + 2, 2, none⟩ = false := B3.out.f 2 rfl
            have z3 : w6.frozen? ⟨w.heap.size + 2, 3, none⟩ = false := B3.out.f 3 rfl
            have l0 : w6.cell? ⟨w.heap.size + 3, 0, none⟩ = some (.int .i64 m0) := B4.out.c 0 rfl
            have l1 : w6.cell? ⟨w.heap.size + 3, 1, none⟩ = some (.int .i64 m1) := B4.out.c 1 rfl
            have l2 : w6.cell? ⟨w.heap.size + 3, 2, none⟩ = some (.int .i64 m2) := B4.out.c 2 rfl
            have y0 : w6.frozen? ⟨w.heap.size + 3, 0, none⟩ = false := B4.out.f 0 rfl
            have y1 : w6.frozen? ⟨w.heap.size + 3, 1, none⟩ = false := B4.out.f 1 rfl
            have y2 : w6.frozen? ⟨w.heap.size + 3, 2, none⟩ = false := B4.out.f 2 rfl
            go_region
            all_goals
              go_wp2_with fail
              refine bodyPost_ret (v := .tuple #[.agg #[.int .i64 0, .int .i64 0, .int .i64 0, .int .i64 0], .agg #[.int .i64 m0, .int .i64 m1, .int .i64 m2], .bool true, .int .i64 0]) (by simp [results, Try.results9, go_sem, *]) rfl ⟨rfl, ?_⟩
              have hx0 := HX.out
              exact by repeat (first | with_reducible assumption | with_reducible exact Ext.refl _ | with_reducible refine Ext.drew ?_ | with_reducible refine Ext.drewN ?_ _ | with_reducible refine Ext.alloc ?_ _ | with_reducible refine Ext.set ?_ (by first | exact Nat.le_refl _ | (dsimp only; omega) | (simp; done)) _)

end Go.Proofs.Ytkcfgkedgjpeoaa
