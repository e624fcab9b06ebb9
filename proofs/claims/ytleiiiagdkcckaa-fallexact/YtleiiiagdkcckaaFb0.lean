/- fall: its leaves. -/
import Derived.Test.YtleiiiagdkcckaaPl0
namespace Go.Proofs.Ytleiiiagdkcckaa
open Go.RowKit
/-- a time -/
def okTm (x : Int) : Bool := decide (0 ≤ x) && decide (x ≤ 1099511627776)
theorem okTm_iff {x : Int} : okTm x = true ↔ 0 ≤ x ∧ x ≤ 1099511627776 := by unfold okTm; simp
set_option maxHeartbeats 400000 in
theorem istime_any (x : Int) (w : World) : Calls Try.prog 17 #[.int .i64 x] w fun e w' => e = .returned (.bool (okTm x)) ∧ w' = w := by
  by_cases h1 : 0 ≤ x
  · by_cases h2 : x ≤ 1099511627776
    · have e : Hid (okTm x = true) := okTm_iff.2 ⟨h1, h2⟩
      go_enter Try.func17, Try.ntmps17
      go_wp2
      go_ret
      rw [e.out]; exact ⟨rfl, rfl⟩
    · have e : Hid (okTm x = false) := Bool.eq_false_iff.2 (fun h => h2 (okTm_iff.1 h).2)
      go_enter Try.func17, Try.ntmps17
      go_wp2
      go_ret
      rw [e.out]; exact ⟨rfl, rfl⟩
  · have e : Hid (okTm x = false) := Bool.eq_false_iff.2 (fun h => h1 (okTm_iff.1 h).1)
    go_enter Try.func17, Try.ntmps17
    go_wp2
    go_ret
    rw [e.out]; exact ⟨rfl, rfl⟩
/-- a magnitude -/
def okMg (m : Int) : Bool := okW m && decide (0 ≤ m)
set_option maxHeartbeats 400000 in
theorem ismag_any (m : Int) (w : World) : Calls Try.prog 16 #[.int .i64 m] w fun e w' => e = .returned (.bool (okMg m)) ∧ w' = w := by
  have HC : Hid (∀ w, Calls Try.prog 20 #[.int .i64 m] w fun e w' => e = .returned (.int .i64 (chk m)) ∧ w' = w) := check_any m
  cases h1 : okW m
  · have er : Hid (okMg m = false) := by show _ = _; unfold okMg; rw [h1]; rfl
    have ec : chk m = 1 := by unfold chk; rw [h1]; rfl
    rw [ec] at HC
    clear h1 ec
    go_enter Try.func16, Try.ntmps16
    go_wp2_with (go_at_call 20; refine (HC.out _).mono ?_; rintro e wx ⟨rfl, hwx⟩; have hwy := hwx.symm; clear hwx; subst hwy)
    go_ret
    rw [er.out]; exact ⟨rfl, rfl⟩
  · have ec : chk m = 0 := by unfold chk; rw [h1]; rfl
    rw [ec] at HC
    by_cases h2 : 0 ≤ m
    · have er : Hid (okMg m = true) := by show _ = _; unfold okMg; rw [h1]; simpa using h2
      clear h1 ec
      go_enter Try.func16, Try.ntmps16
      go_wp2_with (go_at_call 20; refine (HC.out _).mono ?_; rintro e wx ⟨rfl, hwx⟩; have hwy := hwx.symm; clear hwx; subst hwy)
      go_ret
      rw [er.out]; exact ⟨rfl, rfl⟩
    · have er : Hid (okMg m = false) := by show _ = _; unfold okMg; rw [h1]; simpa using h2
      clear h1 ec
      go_enter Try.func16, Try.ntmps16
      go_wp2_with (go_at_call 20; refine (HC.out _).mono ?_; rintro e wx ⟨rfl, hwx⟩; have hwy := hwx.symm; clear hwx; subst hwy)
      go_ret
      rw [er.out]; exact ⟨by simp; omega, rfl⟩
/-- where a number stands to both sides -/
def whr (n lo hi : Int) : Int := if n < lo then 0 else if hi < n then 2 else 1
set_option maxRecDepth 20000 in
set_option maxHeartbeats 4000000 in
theorem where_any (n lo hi : Int) (w : World) : Calls Try.prog 18 #[.int .i64 n, .agg #[.int .i64 lo, .int .i64 hi]] w fun e w' => e = .returned (.int .i64 (whr n lo hi)) ∧ Ext w w' := by
  by_cases h1 : n < lo
  · have er : whr n lo hi = 0 := by unfold whr; rw [if_pos h1]
    rw [er]
    go_enter Try.func18, Try.ntmps18
    go_wp2_with fail
    go_ret
    exact ⟨rfl, by repeat (first | with_reducible assumption | with_reducible exact Ext.refl _ | with_reducible refine Ext.drew ?_ | with_reducible refine Ext.drewN ?_ _ | with_reducible refine Ext.alloc ?_ _ | with_reducible refine Ext.set ?_ (by first | exact Nat.le_refl _ | (dsimp only; omega) | (simp; done)) _)⟩
  · by_cases h2 : hi < n
    · have er : whr n lo hi = 2 := by unfold whr; rw [if_neg h1, if_pos h2]
      rw [er]
      go_enter Try.func18, Try.ntmps18
      go_wp2_with fail
      go_ret
      exact ⟨rfl, by repeat (first | with_reducible assumption | with_reducible exact Ext.refl _ | with_reducible refine Ext.drew ?_ | with_reducible refine Ext.drewN ?_ _ | with_reducible refine Ext.alloc ?_ _ | with_reducible refine Ext.set ?_ (by first | exact Nat.le_refl _ | (dsimp only; omega) | (simp; done)) _)⟩
    · have er : whr n lo hi = 1 := by unfold whr; rw [if_neg h1, if_neg h2]
      rw [er]
      go_enter Try.func18, Try.ntmps18
      go_wp2_with fail
      go_ret
      exact ⟨rfl, by repeat (first | with_reducible assumption | with_reducible exact Ext.refl _ | with_reducible refine Ext.drew ?_ | with_reducible refine Ext.drewN ?_ _ | with_reducible refine Ext.alloc ?_ _ | with_reducible refine Ext.set ?_ (by first | exact Nat.le_refl _ | (dsimp only; omega) | (simp; done)) _)⟩
/-- a state -/
def okF (lo tl : Bool) (s : Int) : Bool := if lo then okTm s else (!tl && decide (s = 0))
theorem okF_bounds {lo tl : Bool} {s : Int} (h : okF lo tl s = true) : (0 ≤ s ∧ s ≤ 1099511627776) ∧ (lo = false → tl = false ∧ s = 0) := by
  unfold okF at h
  cases lo
  · simp at h
    exact ⟨by omega, fun _ => h⟩
  · simp at h
    exact ⟨okTm_iff.1 h, fun x => by cases x⟩
set_option maxRecDepth 20000 in
set_option maxHeartbeats 4000000 in
theorem isfall_any (lo tl : Bool) (s : Int) (w : World) : Calls Try.prog 15 #[.agg #[.bool lo, .bool tl, .int .i64 s]] w fun e w' => e = .returned (.bool (okF lo tl s)) ∧ Ext w w' := by
  have HT : Hid (∀ w, Calls Try.prog 17 #[.int .i64 s] w fun e w' => e = .returned (.bool (okTm s)) ∧ w' = w) := istime_any s
  cases lo
  · clear HT
    cases tl
    · by_cases h : s = 0
      · have er : okF false false s = true := by unfold okF; simp [h]
        rw [er]
        subst h
        clear er
        go_enter Try.func15, Try.ntmps15
        go_wp2_with fail
        go_ret
        exact ⟨rfl, by repeat (first | with_reducible assumption | with_reducible exact Ext.refl _ | with_reducible refine Ext.drew ?_ | with_reducible refine Ext.drewN ?_ _ | with_reducible refine Ext.alloc ?_ _ | with_reducible refine Ext.set ?_ (by first | exact Nat.le_refl _ | (dsimp only; omega) | (simp; done)) _)⟩
      · have er : okF false false s = false := by unfold okF; simp [h]
        rw [er]
        clear er
        go_enter Try.func15, Try.ntmps15
        go_wp2_with fail
        all_goals
          go_ret
          exact ⟨by simp [*], by repeat (first | with_reducible assumption | with_reducible exact Ext.refl _ | with_reducible refine Ext.drew ?_ | with_reducible refine Ext.drewN ?_ _ | with_reducible refine Ext.alloc ?_ _ | with_reducible refine Ext.set ?_ (by first | exact Nat.le_refl _ | (dsimp only; omega) | (simp; done)) _)⟩
    · have er : okF false true s = false := rfl
      rw [er]
      clear er
      go_enter Try.func15, Try.ntmps15
      go_wp2_with fail
      all_goals
        go_ret
        exact ⟨by simp [*], by repeat (first | with_reducible assumption | with_reducible exact Ext.refl _ | with_reducible refine Ext.drew ?_ | with_reducible refine Ext.drewN ?_ _ | with_reducible refine Ext.alloc ?_ _ | with_reducible refine Ext.set ?_ (by first | exact Nat.le_refl _ | (dsimp only; omega) | (simp; done)) _)⟩
  · have er : okF true tl s = okTm s := rfl
    rw [er]
    clear er
    generalize okTm s = q at *
    go_enter Try.func15, Try.ntmps15
    go_wp2_with (go_at_call 17; refine (HT.out _).mono ?_; rintro e wx ⟨rfl, hwx⟩; have hwy := hwx.symm; clear hwx; subst hwy)
    go_ret
    exact ⟨rfl, by repeat (first | with_reducible assumption | with_reducible exact Ext.refl _ | with_reducible refine Ext.drew ?_ | with_reducible refine Ext.drewN ?_ _ | with_reducible refine Ext.alloc ?_ _ | with_reducible refine Ext.set ?_ (by first | exact Nat.le_refl _ | (dsimp only; omega) | (simp; done)) _)⟩
/-- what fallen tells -/
def fallV (lo tl : Bool) (s n : Int) : Value :=
  if lo = false then .tuple #[.agg #[.bool true, .bool false, .int .i64 n], .bool false]
  else if tl = false ∧ 100 ≤ n - s then .tuple #[.agg #[.bool true, .bool true, .int .i64 s], .bool true]
  else .tuple #[.agg #[.bool lo, .bool tl, .int .i64 s], .bool false]
set_option maxRecDepth 20000 in
set_option maxHeartbeats 4000000 in
theorem fallen_any (lo tl : Bool) (s n : Int) (w : World) (h1 : 0 ≤ n - s) (h2 : n - s ≤ 1099511627776) : Calls Try.prog 19 #[.agg #[.bool lo, .bool tl, .int .i64 s], .int .i64 n] w fun e w' => e = .returned (fallV lo tl s n) ∧ Ext w w' := by
  have ed : wrap64 (n - s) = n - s := wrap_le _ (by omega) (by omega)
  clear h1 h2
  unfold fallV
  cases lo
  · rw [if_pos rfl]
    clear ed
    go_enter Try.func19, Try.ntmps19
    go_wp2_with fail
    refine bodyPost_ret (v := .tuple #[.agg #[.bool true, .bool false, .int .i64 n], .bool false]) (by simp [results, Try.results19, go_sem]) rfl ⟨rfl, ?_⟩
    exact by repeat (first | with_reducible assumption | with_reducible exact Ext.refl _ | with_reducible refine Ext.drew ?_ | with_reducible refine Ext.drewN ?_ _ | with_reducible refine Ext.alloc ?_ _ | with_reducible refine Ext.set ?_ (by first | exact Nat.le_refl _ | (dsimp only; omega) | (simp; done)) _)
  · rw [if_neg (by simp)]
    cases tl
    · by_cases h3 : 100 ≤ n - s
      · rw [if_pos ⟨rfl, h3⟩]
        go_enter Try.func19, Try.ntmps19
        go_wp2_with fail
        refine bodyPost_ret (v := .tuple #[.agg #[.bool true, .bool true, .int .i64 s], .bool true]) (by simp [results, Try.results19, go_sem, *]) rfl ⟨rfl, ?_⟩
        exact by repeat (first | with_reducible assumption | with_reducible exact Ext.refl _ | with_reducible refine Ext.drew ?_ | with_reducible refine Ext.drewN ?_ _ | with_reducible refine Ext.alloc ?_ _ | with_reducible refine Ext.set ?_ (by first | exact Nat.le_refl _ | (dsimp only; omega) | (simp; done)) _)
      · rw [if_neg (fun h => h3 h.2)]
        have h4 : n - s < 100 := by omega
        go_enter Try.func19, Try.ntmps19
        go_wp2_with fail
        refine bodyPost_ret (v := .tuple #[.agg #[.bool true, .bool false, .int .i64 s], .bool false]) (by simp [results, Try.results19, go_sem, *]) rfl ⟨rfl, ?_⟩
        exact by repeat (first | with_reducible assumption | with_reducible exact Ext.refl _ | with_reducible refine Ext.drew ?_ | with_reducible refine Ext.drewN ?_ _ | with_reducible refine Ext.alloc ?_ _ | with_reducible refine Ext.set ?_ (by first | exact Nat.le_refl _ | (dsimp only; omega) | (simp; done)) _)
    · rw [if_neg (fun h => by cases h.1)]
      clear ed
      go_enter Try.func19, Try.ntmps19
      go_wp2_with fail
      refine bodyPost_ret (v := .tuple #[.agg #[.bool true, .bool true, .int .i64 s], .bool false]) (by simp [results, Try.results19, go_sem, *]) rfl ⟨rfl, ?_⟩
      exact by repeat (first | with_reducible assumption | with_reducible exact Ext.refl _ | with_reducible refine Ext.drew ?_ | with_reducible refine Ext.drewN ?_ _ | with_reducible refine Ext.alloc ?_ _ | with_reducible refine Ext.set ?_ (by first | exact Nat.le_refl _ | (dsimp only; omega) | (simp; done)) _)
end Go.Proofs.Ytleiiiagdkcckaa
