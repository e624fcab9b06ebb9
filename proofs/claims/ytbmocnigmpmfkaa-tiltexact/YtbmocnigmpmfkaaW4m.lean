/- wide: Word. -/
import Derived.Test.YtbmocnigmpmfkaaMg10
import Derived.Deep.RegionHeld
namespace Go.Proofs.Ytbmocnigmpmfkaa
open Go.RowKit Go.Shelf

set_option maxHeartbeats 2000000 in
theorem wordw_c (x0 x1 x2 v y0 y1 y2 : Int) (w : World) (hv : wrap64 x0 = v) (he : (y0 == x0 && (y1 == x1 && y2 == x2)) = false)
    (HO : Hid (∀ w', Calls Try.prog 44 #[.int .i64 v] w' fun e w'' => e = .returned (.agg #[.int .u64 y0, .int .u64 y1, .int .u64 y2]) ∧ Ext w' w'')) :
    Calls Try.prog 33 #[.agg #[.int .u64 x0, .int .u64 x1, .int .u64 x2]] w fun e w' => e = .returned (.tuple #[.int .i64 0, .int .i64 2]) ∧ Ext w w' := by
  have hq := eqw y0 y1 y2 x0 x1 x2
  rw [he] at hq
  clear he
  go_enter Try.func33, Try.ntmps33
  go_wp2_with fail
  refine wp_region_held_drew (S := fun w' => w'.cell? ⟨w.heap.size, 0, none⟩ = some (.int .u64 x0) ∧ w'.cell? ⟨w.heap.size, 1, none⟩ = some (.int .u64 x1) ∧ w'.cell? ⟨w.heap.size, 2, none⟩ = some (.int .u64 x2)) (by kernel_rfl) ?_ (fun hHeld => ?_)
  · ((try dsimp only); go_keep)
  refine wpAnyH_take (i := 0) (v := .int .i64 v) rfl (by kernel_rfl) (by kernel_rfl) (by kernel_rfl) (fun _ _ _ h => h) (Or.inl ⟨by rfl, ?_⟩) (by assumption) ?_
  · (intro w hSw; (try dsimp only at hSw); go_simp)
  go_simp
  refine wpAnyH_take (i := 2) (v := .agg #[.int .u64 x0, .int .u64 x1, .int .u64 x2]) rfl (by kernel_rfl) (by kernel_rfl) (by kernel_rfl) (fun _ _ _ h => h) (Or.inl ⟨by rfl, ?_⟩) (by assumption) ?_
  · (intro w hSw; (try dsimp only at hSw); go_simp)
  go_simp
  refine wpAnyH_ready (rs := [1]) (by kernel_rfl) (by simp) ?_
  refine AllReadyH.cons rfl (fun K hK => ?_) AllReadyH.nil
  go_simp
  go_wp2_with (go_at_call 44; refine (HO.out _).mono ?_; rintro e w1 ⟨rfl, x1⟩; have X1 : Ext w w1 := Ext.trans (by repeat (first | with_reducible exact Ext.refl _ | with_reducible refine Ext.drew ?_ | with_reducible refine Ext.alloc ?_ _)) x1; obtain ⟨c0, c1, c2, f0, f1, f2, hz⟩ : H3 w1 w.heap.size _ _ _ := (H3.drew (h3_at (by simp))).ext x1; clear x1)
  refine hK.out _ _ ?_ (fun hHeld => ?_)
  · ((try dsimp only); go_keep)
  clear hK K
  refine wpAnyH_take (i := 3) (v := .bool true) rfl (by kernel_rfl) (by kernel_rfl) (by kernel_rfl) (fun _ _ _ h => h) (Or.inl ⟨by rfl, ?_⟩) (by assumption) ?_
  · (intro w hSw; (try dsimp only at hSw); go_simp)
  go_simp
  refine wpAnyH_take (i := 4) (v := .bool true) rfl (by kernel_rfl) (by kernel_rfl) (by kernel_rfl) (fun _ _ _ h => h) (Or.inl ⟨by rfl, ?_⟩) (by assumption) ?_
  · (intro w hSw; (try dsimp only at hSw); go_simp)
  go_simp
  refine wpAnyH_take (i := 5) (v := undef) rfl (by kernel_rfl) (by kernel_rfl) (by kernel_rfl) (fun _ _ _ h => h) (Or.inr ⟨by rfl, rfl⟩) (by assumption) ?_
  go_simp
  refine wpAnyH_take (i := 6) (v := undef) rfl (by kernel_rfl) (by kernel_rfl) (by kernel_rfl) (fun _ _ _ h => h) (Or.inr ⟨by rfl, rfl⟩) (by assumption) ?_
  go_simp
  refine wpAnyH_take (i := 7) (v := undef) rfl (by kernel_rfl) (by kernel_rfl) (by kernel_rfl) (fun _ _ _ h => h) (Or.inr ⟨by rfl, rfl⟩) (by assumption) ?_
  go_simp
  refine wpAnyH_take (i := 8) (v := .bool true) rfl (by kernel_rfl) (by kernel_rfl) (by kernel_rfl) (fun _ _ _ h => h) (Or.inl ⟨by rfl, ?_⟩) (by assumption) ?_
  · (intro w hSw; (try dsimp only at hSw); go_simp)
  go_simp
  refine wpAnyH_done (by kernel_rfl) ?_ _
  go_wp2_with fail
  go_ret2
  exact ⟨rfl, X1⟩
set_option maxHeartbeats 2000000 in
theorem wordw_a (x0 x1 x2 v : Int) (w : World) (hv : wrap64 x0 = v)
    (HO : Hid (∀ w', Calls Try.prog 44 #[.int .i64 v] w' fun e w'' => e = .returned (.agg #[.int .u64 x0, .int .u64 x1, .int .u64 x2]) ∧ Ext w' w''))
    (HC : Hid (∀ w', Calls Try.prog 30 #[.int .i64 v] w' fun e w'' => e = .returned (.int .i64 0) ∧ w'' = w')) :
    Calls Try.prog 33 #[.agg #[.int .u64 x0, .int .u64 x1, .int .u64 x2]] w fun e w' => e = .returned (.tuple #[.int .i64 v, .int .i64 0]) ∧ Ext w w' := by
  have hq := eqw x0 x1 x2 x0 x1 x2
  rw [show (x0 == x0 && (x1 == x1 && x2 == x2)) = true by simp] at hq
  go_enter Try.func33, Try.ntmps33
  go_wp2_with fail
  go_region_with (first | (go_at_call 44; refine (HO.out _).mono ?_; rintro e w1 ⟨rfl, x1⟩; have X1 : Ext w w1 := Ext.trans (by repeat (first | with_reducible exact Ext.refl _ | with_reducible refine Ext.drew ?_ | with_reducible refine Ext.alloc ?_ _)) x1; obtain ⟨c0, c1, c2, f0, f1, f2, hz⟩ : H3 w1 w.heap.size _ _ _ := (H3.drew (h3_at (by simp))).ext x1; clear x1) | (go_at_call 30; refine (HC.out _).mono ?_; rintro e wx ⟨rfl, hwx⟩; have hwy := hwx.symm; clear hwx; subst hwy))
  all_goals
    go_wp2_with fail
    go_ret2
    exact ⟨rfl, X1⟩
set_option maxHeartbeats 2000000 in
theorem wordw_b (x0 x1 x2 v : Int) (w : World) (hv : wrap64 x0 = v)
    (HO : Hid (∀ w', Calls Try.prog 44 #[.int .i64 v] w' fun e w'' => e = .returned (.agg #[.int .u64 x0, .int .u64 x1, .int .u64 x2]) ∧ Ext w' w''))
    (HC : Hid (∀ w', Calls Try.prog 30 #[.int .i64 v] w' fun e w'' => e = .returned (.int .i64 1) ∧ w'' = w')) :
    Calls Try.prog 33 #[.agg #[.int .u64 x0, .int .u64 x1, .int .u64 x2]] w fun e w' => e = .returned (.tuple #[.int .i64 0, .int .i64 2]) ∧ Ext w w' := by
  have hq := eqw x0 x1 x2 x0 x1 x2
  rw [show (x0 == x0 && (x1 == x1 && x2 == x2)) = true by simp] at hq
  go_enter Try.func33, Try.ntmps33
  go_wp2_with fail
  go_region_with (first | (go_at_call 44; refine (HO.out _).mono ?_; rintro e w1 ⟨rfl, x1⟩; have X1 : Ext w w1 := Ext.trans (by repeat (first | with_reducible exact Ext.refl _ | with_reducible refine Ext.drew ?_ | with_reducible refine Ext.alloc ?_ _)) x1; obtain ⟨c0, c1, c2, f0, f1, f2, hz⟩ : H3 w1 w.heap.size _ _ _ := (H3.drew (h3_at (by simp))).ext x1; clear x1) | (go_at_call 30; refine (HC.out _).mono ?_; rintro e wx ⟨rfl, hwx⟩; have hwy := hwx.symm; clear hwx; subst hwy))
  all_goals
    go_wp2_with fail
    go_ret2
    exact ⟨rfl, X1⟩

theorem ofw_limbs (v : Int) (w : World) (h1 : -9223372036854775808 ≤ v) (h2 : v ≤ 9223372036854775807) :
    Calls Try.prog 44 #[.int .i64 v] w fun e w' => e = .returned (.agg #[.int .u64 (l0 v : Int), .int .u64 (l1 v : Int), .int .u64 (l2 v : Int)]) ∧ Ext w w' := by
  refine (ofw_any v w h1 h2).mono ?_
  rintro e w1 ⟨⟨r, rfl, x, y, t, rfl, rfl, rfl, rfl⟩, k⟩
  exact ⟨rfl, k⟩
theorem wordw_any (z : Int) (u : Value) (w : World) (hu : IsW u z) (hz : InW z) :
    Calls Try.prog 33 #[u] w fun e w' => e = .returned (.tuple #[.int .i64 (fitR z).1, .int .i64 (fitR z).2]) ∧ Ext w w' := by
  obtain ⟨x0, x1, x2, rfl, rfl, rfl, rfl⟩ := hu
  have hb := low_bounds z
  have hv : wrap64 (l0 z : Int) = low z := by
    have := l0_lt z
    unfold wrap64 low; split <;> omega
  by_cases hs : -9223372036854775808 ≤ z ∧ z ≤ 9223372036854775807
  · have e := low_self hs.1 hs.2
    rw [e] at hv
    have HC := check_any z
    by_cases hk : okW z = true
    · have ef : fitR z = (z, 0) := by unfold fitR; rw [if_pos hk]
      have ec : chk z = 0 := by unfold chk; rw [if_pos hk]
      rw [ec] at HC
      rw [ef]
      exact wordw_a _ _ _ z w hv (fun w' => ofw_limbs z w' hs.1 hs.2) HC
    · have ef : fitR z = (0, 2) := by unfold fitR; rw [if_neg hk]
      have ec : chk z = 1 := by unfold chk; rw [if_neg hk]
      rw [ec] at HC
      rw [ef]
      exact wordw_b _ _ _ z w hv (fun w' => ofw_limbs z w' hs.1 hs.2) HC
  · have hk : okW z = false := by unfold okW; simp; omega
    have ef : fitR z = (0, 2) := by unfold fitR; rw [hk]; rfl
    rw [ef]
    refine wordw_c _ _ _ (low z) _ _ _ w hv ?_ (fun w' => ofw_limbs (low z) w' hb.1 hb.2)
    rw [Bool.eq_false_iff]
    intro hh
    simp only [Bool.and_eq_true, beq_iff_eq] at hh
    have := low_limbs hz (by omega) (by omega) (by omega)
    omega
end Go.Proofs.Ytbmocnigmpmfkaa
