/- thin: its leaves. -/
import Derived.Test.YtkcfgkedgjpeoaaV2b
import Derived.Test.YtkcfgkedgjpeoaaV6d
import Derived.Test.YtkcfgkedgjpeoaaHv
import Derived.Test.YtkcfgkedgjpeoaaNearNum
import Derived.Test.YtkcfgkedgjpeoaaFaces  
import Derived.Deep.RegionHeld3
import Derived.Deep.Cut
import Derived.Deep.DeepCutAuto
namespace Go.Proofs.Ytkcfgkedgjpeoaa
open Go.RowKit Go.Shelf
theorem wrap_le (n : Int) (h1 : -9223372036854775808 ≤ n) (h2 : n ≤ 9223372036854775807) : wrap64 n = n := by unfold wrap64; omega
/-- a number that a sum may have -/
def okS (x : Int) : Bool := decide (-9007199254740992 < x) && decide (x < 9007199254740992)
theorem okS_iff {x : Int} : okS x = true ↔ -9007199254740992 < x ∧ x < 9007199254740992 := by unfold okS; simp
/-- how many -/
def okK (x : Int) : Bool := decide (1 ≤ x) && decide (x ≤ 256)
theorem okK_iff {x : Int} : okK x = true ↔ 1 ≤ x ∧ x ≤ 256 := by unfold okK; simp
set_option maxHeartbeats 400000 in
theorem below_any (x : Int) (w : World) : Calls Try.prog 39 #[.int .i64 x] w fun e w' => e = .returned (.bool (okS x)) ∧ w' = w := by
  by_cases h1 : -9007199254740992 < x
  · by_cases h2 : x < 9007199254740992
    · have e : Hid (okS x = true) := okS_iff.2 ⟨h1, h2⟩
      go_enter Try.func39, Try.ntmps39
      go_wp2
      go_ret
      rw [e.out]; exact ⟨rfl, rfl⟩
    · have e : Hid (okS x = false) := Bool.eq_false_iff.2 (fun h => h2 (okS_iff.1 h).2)
      go_enter Try.func39, Try.ntmps39
      go_wp2
      go_ret
      rw [e.out]; exact ⟨rfl, rfl⟩
  · have e : Hid (okS x = false) := Bool.eq_false_iff.2 (fun h => h1 (okS_iff.1 h).1)
    go_enter Try.func39, Try.ntmps39
    go_wp2
    go_ret
    rw [e.out]; exact ⟨rfl, rfl⟩
set_option maxHeartbeats 400000 in
theorem iscount_any (x : Int) (w : World) : Calls Try.prog 19 #[.int .i64 x] w fun e w' => e = .returned (.bool (okK x)) ∧ w' = w := by
  by_cases h1 : 1 ≤ x
  · by_cases h2 : x ≤ 256
    · have e : Hid (okK x = true) := okK_iff.2 ⟨h1, h2⟩
      go_enter Try.func19, Try.ntmps19
      go_wp2
      go_ret
      rw [e.out]; exact ⟨rfl, rfl⟩
    · have e : Hid (okK x = false) := Bool.eq_false_iff.2 (fun h => h2 (okK_iff.1 h).2)
      go_enter Try.func19, Try.ntmps19
      go_wp2
      go_ret
      rw [e.out]; exact ⟨rfl, rfl⟩
  · have e : Hid (okK x = false) := Bool.eq_false_iff.2 (fun h => h1 (okK_iff.1 h).1)
    go_enter Try.func19, Try.ntmps19
    go_wp2
    go_ret
    rw [e.out]; exact ⟨rfl, rfl⟩
/-- three of them -/
def okS3 (x y z : Int) : Bool := okS x && okS y && okS z
set_option maxRecDepth 20000 in
set_option maxHeartbeats 4000000 in
theorem issum_any (x y z : Int) (w : World) : Calls Try.prog 26 #[.agg #[.int .i64 x, .int .i64 y, .int .i64 z]] w fun e w' => e = .returned (.bool (okS3 x y z)) ∧ Ext w w' := by
  have HX : Hid (∀ w, Calls Try.prog 39 #[.int .i64 x] w fun e w' => e = .returned (.bool (okS x)) ∧ w' = w) := below_any x
  have HY : Hid (∀ w, Calls Try.prog 39 #[.int .i64 y] w fun e w' => e = .returned (.bool (okS y)) ∧ w' = w) := below_any y
  have HZ : Hid (∀ w, Calls Try.prog 39 #[.int .i64 z] w fun e w' => e = .returned (.bool (okS z)) ∧ w' = w) := below_any z
  have ex : Hid (okS3 x y z = (okS x && okS y && okS z)) := rfl
  generalize okS x = p1 at *
  generalize okS y = p2 at *
  generalize okS z = p3 at *
  generalize okS3 x y z = R at *
  have hx : Ext w (w.alloc (.cells #[.int .i64 x, .int .i64 y, .int .i64 z] 24)) := (Ext.refl w).alloc _
  cases p1 <;> cases p2 <;> cases p3
  all_goals
    go_enter Try.func26, Try.ntmps26
    go_wp2_with (first | (go_at_call_of 39 (Value.int IntKind.i64 x); refine (HX.out _).mono ?_; rintro e wx ⟨rfl, hwx⟩; have hwy := hwx.symm; clear hwx; subst hwy) | (go_at_call_of 39 (Value.int IntKind.i64 y); refine (HY.out _).mono ?_; rintro e wx ⟨rfl, hwx⟩; have hwy := hwx.symm; clear hwx; subst hwy) | (go_at_call_of 39 (Value.int IntKind.i64 z); refine (HZ.out _).mono ?_; rintro e wx ⟨rfl, hwx⟩; have hwy := hwx.symm; clear hwx; subst hwy))
    go_ret
    rw [ex.out]
    exact ⟨by first | rfl | simp, hx⟩
/-- how far it is -/
def okT (s0 s1 s2 n : Int) : Bool := if n = 0 then decide (s0 = 0 ∧ s1 = 0 ∧ s2 = 0) else decide (0 < n) && decide (n < 256) && okS3 s0 s1 s2
theorem okT_bounds {s0 s1 s2 n : Int} (h : okT s0 s1 s2 n = true) : 0 ≤ n ∧ n < 256 ∧ (-9007199254740992 < s0 ∧ s0 < 9007199254740992) ∧ (-9007199254740992 < s1 ∧ s1 < 9007199254740992) ∧ (-9007199254740992 < s2 ∧ s2 < 9007199254740992) := by
  unfold okT at h
  by_cases hn : n = 0
  · rw [if_pos hn] at h
    have := of_decide_eq_true h
    omega
  · rw [if_neg hn] at h
    unfold okS3 at h
    simp only [Bool.and_eq_true, decide_eq_true_eq] at h
    obtain ⟨⟨h1, h2⟩, ⟨h3, h4⟩, h5⟩ := h
    exact ⟨by omega, h2, okS_iff.1 h3, okS_iff.1 h4, okS_iff.1 h5⟩
set_option maxRecDepth 20000 in
set_option maxHeartbeats 4000000 in
theorem isthin_any (s0 s1 s2 n : Int) (w : World) : Calls Try.prog 18 #[.agg #[.int .i64 s0, .int .i64 s1, .int .i64 s2, .int .i64 n]] w fun e w' => e = .returned (.bool (okT s0 s1 s2 n)) ∧ Ext w w' := by
  have HS : Hid (∀ w, Calls Try.prog 26 #[.agg #[.int .i64 s0, .int .i64 s1, .int .i64 s2]] w fun e w' => e = .returned (.bool (okS3 s0 s1 s2)) ∧ Ext w w') := issum_any s0 s1 s2
  by_cases hn : n = 0
  · subst hn
    have ex : Hid (okT s0 s1 s2 0 = decide (s0 = 0 ∧ s1 = 0 ∧ s2 = 0)) := rfl
    generalize okT s0 s1 s2 0 = R at *
    go_enter Try.func18, Try.ntmps18
    go_wp2_with fail
    all_goals
      go_ret
      exact ⟨by rw [ex.out]; simp [*], by repeat (first | with_reducible assumption | with_reducible exact Ext.refl _ | with_reducible refine Ext.drew ?_ | with_reducible refine Ext.drewN ?_ _ | with_reducible refine Ext.alloc ?_ _ | with_reducible refine Ext.set ?_ (by first | exact Nat.le_refl _ | (dsimp only; omega) | (simp; done)) _)⟩
  · have ex : Hid (okT s0 s1 s2 n = (decide (0 < n) && decide (n < 256) && okS3 s0 s1 s2)) := if_neg hn
    generalize okT s0 s1 s2 n = R at *
    generalize okS3 s0 s1 s2 = p at *
    by_cases hp : 0 < n
    · by_cases hq : n < 256
      · have er : R = p := by rw [ex.out]; simp [hp, hq]
        subst er
        clear ex
        go_enter Try.func18, Try.ntmps18
        go_wp2_with (go_at_call 26; refine (HS.out _).mono ?_; rintro e w1 ⟨rfl, x1⟩)
        go_ret
        exact ⟨rfl, Ext.trans (by repeat (first | with_reducible assumption | with_reducible exact Ext.refl _ | with_reducible refine Ext.drew ?_ | with_reducible refine Ext.drewN ?_ _ | with_reducible refine Ext.alloc ?_ _ | with_reducible refine Ext.set ?_ (by first | exact Nat.le_refl _ | (dsimp only; omega) | (simp; done)) _)) x1⟩
      · have er : R = false := by rw [ex.out]; simp [hq]
        subst er
        clear ex
        go_enter Try.func18, Try.ntmps18
        go_wp2_with fail
        go_ret
        exact ⟨rfl, by repeat (first | with_reducible assumption | with_reducible exact Ext.refl _ | with_reducible refine Ext.drew ?_ | with_reducible refine Ext.drewN ?_ _ | with_reducible refine Ext.alloc ?_ _ | with_reducible refine Ext.set ?_ (by first | exact Nat.le_refl _ | (dsimp only; omega) | (simp; done)) _)⟩
    · have er : R = false := by rw [ex.out]; simp [hp]
      subst er
      clear ex
      go_enter Try.func18, Try.ntmps18
      go_wp2_with fail
      go_ret
      exact ⟨rfl, by repeat (first | with_reducible assumption | with_reducible exact Ext.refl _ | with_reducible refine Ext.drew ?_ | with_reducible refine Ext.drewN ?_ _ | with_reducible refine Ext.alloc ?_ _ | with_reducible refine Ext.set ?_ (by first | exact Nat.le_refl _ | (dsimp only; omega) | (simp; done)) _)⟩
set_option maxRecDepth 20000 in
set_option maxHeartbeats 1000000 in
theorem numbersof_any (x y z : Int) (w : World) : Calls Try.prog 30 #[.agg #[.int .i64 x, .int .i64 y, .int .i64 z]] w fun e w' => e = .returned (.agg #[.int .i64 x, .int .i64 y, .int .i64 z]) ∧ Ext w w' := by
  go_enter Try.func30, Try.ntmps30
  go_wp2_with fail
  exact bodyPost_ret (v := .agg #[.int .i64 x, .int .i64 y, .int .i64 z]) (by simp [results, Try.results30, go_sem]) rfl ⟨rfl, by repeat (first | with_reducible assumption | with_reducible exact Ext.refl _ | with_reducible refine Ext.drew ?_ | with_reducible refine Ext.drewN ?_ _ | with_reducible refine Ext.alloc ?_ _ | with_reducible refine Ext.set ?_ (by first | exact Nat.le_refl _ | (dsimp only; omega) | (simp; done)) _)⟩
set_option maxRecDepth 20000 in
set_option maxHeartbeats 1000000 in
theorem vectorof_any (x y z : Int) (w : World) : Calls Try.prog 32 #[.agg #[.int .i64 x, .int .i64 y, .int .i64 z]] w fun e w' => e = .returned (.agg #[.int .i64 x, .int .i64 y, .int .i64 z]) ∧ Ext w w' := by
  go_enter Try.func32, Try.ntmps32
  go_wp2_with fail
  exact bodyPost_ret (v := .agg #[.int .i64 x, .int .i64 y, .int .i64 z]) (by simp [results, Try.results32, go_sem]) rfl ⟨rfl, by repeat (first | with_reducible assumption | with_reducible exact Ext.refl _ | with_reducible refine Ext.drew ?_ | with_reducible refine Ext.drewN ?_ _ | with_reducible refine Ext.alloc ?_ _ | with_reducible refine Ext.set ?_ (by first | exact Nat.le_refl _ | (dsimp only; omega) | (simp; done)) _)⟩
set_option maxHeartbeats 1000000 in
theorem plus1_any (a b c : Int) (w : World) (h : wrap64 (a + b) = c) : Calls Try.prog 31 #[.int .i64 a, .int .i64 b] w fun e w' => e = .returned (.tuple #[.int .i64 c, .int .i64 0]) ∧ Ext w w' := by
  subst h
  go_enter Try.func31, Try.ntmps31
  go_wp2_with fail
  go_ret2
  exact ⟨rfl, Ext.refl w⟩
theorem ratio_n (n p : Int) (w : World) (hp : 1 ≤ p ∧ p ≤ 32768) (h1 : -9223372036854775808 ≤ n) (h2 : n ≤ 9223372036854775807) :
    Calls Try.prog 33 #[.int .i64 n, .int .i64 p] w fun e w' => e = .returned (.tuple #[.int .i64 (fitR (nearI n p)).1, .int .i64 (fitR (nearI n p)).2]) ∧ Ext w w' := by
  have h := ratio_any n p w h1 h2 (by omega) (by omega)
  have e := share_word n 1 p (nearI n p) (by omega) (by
    have e : over (n * 1) p = n := by unfold over; rw [if_neg (by omega), Int.mul_one]
    rw [e, Int.natAbs_of_nonneg (by omega)]
    exact nearI_spec n p (by omega))
  rw [e] at h
  exact h
end Go.Proofs.Ytkcfgkedgjpeoaa
