/- step: its leaves. -/
import Derived.Test.YtfeoiolcdiddiaaPl0
namespace Go.Proofs.Ytfeoiolcdiddiaa
open Go.RowKit
/-- a time -/
def okTm (x : Int) : Bool := decide (0 ≤ x) && decide (x ≤ 1099511627776)
theorem okTm_iff {x : Int} : okTm x = true ↔ 0 ≤ x ∧ x ≤ 1099511627776 := by unfold okTm; simp
set_option maxHeartbeats 400000 in
theorem istime_any (x : Int) (w : World) : Calls Try.prog 17 #[.int .i64 x] w fun e w' => e = .returned (.bool (okTm x)) ∧ w' = w := by
  by_cases h1 : 0 ≤ x
  · by_cases h2 : x ≤ 1099511627776
    · have e : Hid (okTm x = true) := okTm_iff.2 ⟨h1, h2⟩
      go_enter Try.func17, Try.ntmps17
      go_wp2
      go_ret
      rw [e.out]; exact ⟨rfl, rfl⟩
    · have e : Hid (okTm x = false) := Bool.eq_false_iff.2 (fun h => h2 (okTm_iff.1 h).2)
      go_enter Try.func17, Try.ntmps17
      go_wp2
      go_ret
      rw [e.out]; exact ⟨rfl, rfl⟩
  · have e : Hid (okTm x = false) := Bool.eq_false_iff.2 (fun h => h1 (okTm_iff.1 h).1)
    go_enter Try.func17, Try.ntmps17
    go_wp2
    go_ret
    rw [e.out]; exact ⟨rfl, rfl⟩
/-- a magnitude -/
def okMg (m : Int) : Bool := okW m && decide (0 ≤ m)
set_option maxHeartbeats 400000 in
theorem ismag_any (m : Int) (w : World) : Calls Try.prog 16 #[.int .i64 m] w fun e w' => e = .returned (.bool (okMg m)) ∧ w' = w := by
  have HC : Hid (∀ w, Calls Try.prog 21 #[.int .i64 m] w fun e w' => e = .returned (.int .i64 (chk m)) ∧ w' = w) := check_any m
  cases h1 : okW m
  · have er : Hid (okMg m = false) := by show _ = _; unfold okMg; rw [h1]; rfl
    have ec : chk m = 1 := by unfold chk; rw [h1]; rfl
    rw [ec] at HC
    clear h1 ec
    go_enter Try.func16, Try.ntmps16
    go_wp2_with (go_at_call 21; refine (HC.out _).mono ?_; rintro e wx ⟨rfl, hwx⟩; have hwy := hwx.symm; clear hwx; subst hwy)
    go_ret
    rw [er.out]; exact ⟨rfl, rfl⟩
  · have ec : chk m = 0 := by unfold chk; rw [h1]; rfl
    rw [ec] at HC
    by_cases h2 : 0 ≤ m
    · have er : Hid (okMg m = true) := by show _ = _; unfold okMg; rw [h1]; simpa using h2
      clear h1 ec
      go_enter Try.func16, Try.ntmps16
      go_wp2_with (go_at_call 21; refine (HC.out _).mono ?_; rintro e wx ⟨rfl, hwx⟩; have hwy := hwx.symm; clear hwx; subst hwy)
      go_ret
      rw [er.out]; exact ⟨rfl, rfl⟩
    · have er : Hid (okMg m = false) := by show _ = _; unfold okMg; rw [h1]; simpa using h2
      clear h1 ec
      go_enter Try.func16, Try.ntmps16
      go_wp2_with (go_at_call 21; refine (HC.out _).mono ?_; rintro e wx ⟨rfl, hwx⟩; have hwy := hwx.symm; clear hwx; subst hwy)
      go_ret
      rw [er.out]; exact ⟨by simp; omega, rfl⟩
/-- where a number stands to both sides -/
def whr (n lo hi : Int) : Int := if n < lo then 0 else if hi < n then 2 else 1
set_option maxRecDepth 20000 in
set_option maxHeartbeats 4000000 in
theorem where_any (n lo hi : Int) (w : World) : Calls Try.prog 18 #[.int .i64 n, .agg #[.int .i64 lo, .int .i64 hi]] w fun e w' => e = .returned (.int .i64 (whr n lo hi)) ∧ Ext w w' := by
  by_cases h1 : n < lo
  · have er : whr n lo hi = 0 := by unfold whr; rw [if_pos h1]
    rw [er]
    go_enter Try.func18, Try.ntmps18
    go_wp2_with fail
    go_ret
    exact ⟨rfl, by repeat (first | with_reducible assumption | with_reducible exact Ext.refl _ | with_reducible refine Ext.drew ?_ | with_reducible refine Ext.drewN ?_ _ | with_reducible refine Ext.alloc ?_ _ | with_reducible refine Ext.set ?_ (by first | exact Nat.le_refl _ | (dsimp only; omega) | (simp; done)) _)⟩
  · by_cases h2 : hi < n
    · have er : whr n lo hi = 2 := by unfold whr; rw [if_neg h1, if_pos h2]
      rw [er]
      go_enter Try.func18, Try.ntmps18
      go_wp2_with fail
      go_ret
      exact ⟨rfl, by repeat (first | with_reducible assumption | with_reducible exact Ext.refl _ | with_reducible refine Ext.drew ?_ | with_reducible refine Ext.drewN ?_ _ | with_reducible refine Ext.alloc ?_ _ | with_reducible refine Ext.set ?_ (by first | exact Nat.le_refl _ | (dsimp only; omega) | (simp; done)) _)⟩
    · have er : whr n lo hi = 1 := by unfold whr; rw [if_neg h1, if_neg h2]
      rw [er]
      go_enter Try.func18, Try.ntmps18
      go_wp2_with fail
      go_ret
      exact ⟨rfl, by repeat (first | with_reducible assumption | with_reducible exact Ext.refl _ | with_reducible refine Ext.drew ?_ | with_reducible refine Ext.drewN ?_ _ | with_reducible refine Ext.alloc ?_ _ | with_reducible refine Ext.set ?_ (by first | exact Nat.le_refl _ | (dsimp only; omega) | (simp; done)) _)⟩
/-- a state -/
def okSt (l c : Int) : Bool := okTm l && okTm c
set_option maxRecDepth 20000 in
set_option maxHeartbeats 4000000 in
theorem isstate_any (u : Bool) (l c : Int) (w : World) : Calls Try.prog 15 #[.agg #[.bool u, .int .i64 l, .int .i64 c]] w fun e w' => e = .returned (.bool (okSt l c)) ∧ Ext w w' := by
  have HT : Hid (∀ w, Calls Try.prog 17 #[.int .i64 l] w fun e w' => e = .returned (.bool (okTm l)) ∧ w' = w) := istime_any l
  cases h1 : okTm l
  · have er : okSt l c = false := by unfold okSt; rw [h1]; rfl
    rw [er]
    rw [h1] at HT
    clear h1 er
    go_enter Try.func15, Try.ntmps15
    go_wp2_with (go_at_call 17; refine (HT.out _).mono ?_; rintro e wx ⟨rfl, hwx⟩; have hwy := hwx.symm; clear hwx; subst hwy)
    go_ret
    exact ⟨rfl, by repeat (first | with_reducible assumption | with_reducible exact Ext.refl _ | with_reducible refine Ext.drew ?_ | with_reducible refine Ext.drewN ?_ _ | with_reducible refine Ext.alloc ?_ _ | with_reducible refine Ext.set ?_ (by first | exact Nat.le_refl _ | (dsimp only; omega) | (simp; done)) _)⟩
  · rw [h1] at HT
    by_cases h2 : 0 ≤ c
    · by_cases h3 : c ≤ 1099511627776
      · have er : okSt l c = true := by unfold okSt; rw [h1, okTm_iff.2 ⟨h2, h3⟩]; rfl
        rw [er]
        clear h1 er
        go_enter Try.func15, Try.ntmps15
        go_wp2_with (go_at_call 17; refine (HT.out _).mono ?_; rintro e wx ⟨rfl, hwx⟩; have hwy := hwx.symm; clear hwx; subst hwy)
        go_ret
        exact ⟨rfl, by repeat (first | with_reducible assumption | with_reducible exact Ext.refl _ | with_reducible refine Ext.drew ?_ | with_reducible refine Ext.drewN ?_ _ | with_reducible refine Ext.alloc ?_ _ | with_reducible refine Ext.set ?_ (by first | exact Nat.le_refl _ | (dsimp only; omega) | (simp; done)) _)⟩
      · have er : okSt l c = false := by unfold okSt okTm; simp [h3]
        rw [er]
        clear h1 er
        go_enter Try.func15, Try.ntmps15
        go_wp2_with (go_at_call 17; refine (HT.out _).mono ?_; rintro e wx ⟨rfl, hwx⟩; have hwy := hwx.symm; clear hwx; subst hwy)
        go_ret
        exact ⟨by simp; omega, by repeat (first | with_reducible assumption | with_reducible exact Ext.refl _ | with_reducible refine Ext.drew ?_ | with_reducible refine Ext.drewN ?_ _ | with_reducible refine Ext.alloc ?_ _ | with_reducible refine Ext.set ?_ (by first | exact Nat.le_refl _ | (dsimp only; omega) | (simp; done)) _)⟩
    · have er : okSt l c = false := by unfold okSt okTm; simp [h2]
      rw [er]
      clear h1 er
      go_enter Try.func15, Try.ntmps15
      go_wp2_with (go_at_call 17; refine (HT.out _).mono ?_; rintro e wx ⟨rfl, hwx⟩; have hwy := hwx.symm; clear hwx; subst hwy)
      go_ret
      exact ⟨rfl, by repeat (first | with_reducible assumption | with_reducible exact Ext.refl _ | with_reducible refine Ext.drew ?_ | with_reducible refine Ext.drewN ?_ _ | with_reducible refine Ext.alloc ?_ _ | with_reducible refine Ext.set ?_ (by first | exact Nat.le_refl _ | (dsimp only; omega) | (simp; done)) _)⟩
/-- is it a step of its own? -/
def own (l c n : Int) : Bool := decide (c = 0) || decide (250 ≤ wrap64 (n - l))
set_option maxRecDepth 20000 in
set_option maxHeartbeats 4000000 in
theorem isown_any (u : Bool) (l c n : Int) (w : World) : Calls Try.prog 19 #[.agg #[.bool u, .int .i64 l, .int .i64 c], .int .i64 n] w fun e w' => e = .returned (.bool (own l c n)) ∧ Ext w w' := by
  by_cases h1 : c = 0
  · have er : own l c n = true := by unfold own; rw [h1]; rfl
    rw [er]
    subst h1
    clear er
    go_enter Try.func19, Try.ntmps19
    go_wp2_with fail
    go_ret
    exact ⟨rfl, by repeat (first | with_reducible assumption | with_reducible exact Ext.refl _ | with_reducible refine Ext.drew ?_ | with_reducible refine Ext.drewN ?_ _ | with_reducible refine Ext.alloc ?_ _ | with_reducible refine Ext.set ?_ (by first | exact Nat.le_refl _ | (dsimp only; omega) | (simp; done)) _)⟩
  · have er : own l c n = decide (250 ≤ wrap64 (n - l)) := by unfold own; simp [h1]
    rw [er]
    clear er
    have h2 : (c == 0) = false := by simpa using h1
    clear h1
    go_enter Try.func19, Try.ntmps19
    go_wp2_with fail
    all_goals
      go_ret
      exact ⟨by simp [*], by repeat (first | with_reducible assumption | with_reducible exact Ext.refl _ | with_reducible refine Ext.drew ?_ | with_reducible refine Ext.drewN ?_ _ | with_reducible refine Ext.alloc ?_ _ | with_reducible refine Ext.set ?_ (by first | exact Nat.le_refl _ | (dsimp only; omega) | (simp; done)) _)⟩
set_option maxRecDepth 20000 in
set_option maxHeartbeats 4000000 in
theorem counted_full (u : Bool) (l n : Int) (w : World) : Calls Try.prog 20 #[.agg #[.bool u, .int .i64 l, .int .i64 1099511627776], .int .i64 n] w fun e w' => e = .returned (.tuple #[.agg #[.bool false, .int .i64 0, .int .i64 0], .bool false, .int .i64 4]) ∧ Ext w w' := by
  go_enter Try.func20, Try.ntmps20
  go_wp2_with fail
  refine bodyPost_ret (v := .tuple #[.agg #[.bool false, .int .i64 0, .int .i64 0], .bool false, .int .i64 4]) (by simp [results, Try.results20, go_sem]) rfl ⟨rfl, ?_⟩
  exact by repeat (first | with_reducible assumption | with_reducible exact Ext.refl _ | with_reducible refine Ext.drew ?_ | with_reducible refine Ext.drewN ?_ _ | with_reducible refine Ext.alloc ?_ _ | with_reducible refine Ext.set ?_ (by first | exact Nat.le_refl _ | (dsimp only; omega) | (simp; done)) _)
set_option maxRecDepth 20000 in
set_option maxHeartbeats 4000000 in
theorem counted_more (u : Bool) (l c n c1 : Int) (w : World) (hc : ¬ c = 1099511627776) (h1 : wrap64 (c + 1) = c1) : Calls Try.prog 20 #[.agg #[.bool u, .int .i64 l, .int .i64 c], .int .i64 n] w fun e w' => e = .returned (.tuple #[.agg #[.bool u, .int .i64 n, .int .i64 c1], .bool true, .int .i64 0]) ∧ Ext w w' := by
  have h2 : (c == 1099511627776) = false := by simpa using hc
  have h3 : IntKind.i64.wrap (c + 1) = c1 := by rw [IntKind.wrap_i64]; unfold wrap64 at h1; omega
  clear hc
  go_enter Try.func20, Try.ntmps20
  go_wp2_with fail
  refine bodyPost_ret (v := .tuple #[.agg #[.bool u, .int .i64 n, .int .i64 c1], .bool true, .int .i64 0]) (by simp [results, Try.results20, go_sem, *]) rfl ⟨rfl, ?_⟩
  exact by repeat (first | with_reducible assumption | with_reducible exact Ext.refl _ | with_reducible refine Ext.drew ?_ | with_reducible refine Ext.drewN ?_ _ | with_reducible refine Ext.alloc ?_ _ | with_reducible refine Ext.set ?_ (by first | exact Nat.le_refl _ | (dsimp only; omega) | (simp; done)) _)
end Go.Proofs.Ytfeoiolcdiddiaa
