/- between, away, Neg. -/
import Derived.Test.YtbbnbpghhdmhaaaLo2
namespace Go.Proofs.Ytbbnbpghhdmhaaa
open Go.RowKit Go.Shelf
set_option maxHeartbeats 1000000 in
theorem between_true (v a b : Int) (w : World) (h1 : a ≤ v ∨ b ≤ v) (h2 : v ≤ a ∨ v ≤ b) : Calls Try.prog 11 #[.int .i64 v, .int .i64 a, .int .i64 b] w fun e w' => e = .returned (.bool true) ∧ w' = w := by
  obtain ⟨m, em, hm⟩ : ∃ m, min a b = m ∧ m ≤ v := ⟨_, rfl, by omega⟩
  obtain ⟨n, en, hn⟩ : ∃ n, max a b = n ∧ v ≤ n := ⟨_, rfl, by omega⟩
  clear h1 h2
  go_enter Try.func11, Try.ntmps11
  go_wp2_with fail
  go_ret
  exact ⟨rfl, rfl⟩
/-- how far two are from each other -/
def aw (a b : Int) : Int := max (a - b) (b - a)
set_option maxHeartbeats 1000000 in
theorem away_any (a b : Int) (w : World) (ha : okW a = true) (hb : okW b = true) : Calls Try.prog 13 #[.int .i64 a, .int .i64 b] w fun e w' => e = .returned (.int .i64 (aw a b)) ∧ w' = w := by
  have k0 := okW_bounds ha
  have k1 := okW_bounds hb
  have ex : Hid (aw a b = max (a - b) (b - a)) := rfl
  generalize aw a b = R at *
  obtain ⟨d, e1, f1⟩ : ∃ d, wrap64 (a - b) = d ∧ d = a - b := ⟨_, wrap_le _ (by omega) (by omega), rfl⟩
  obtain ⟨c, e2, f2⟩ : ∃ c, wrap64 (b - a) = c ∧ c = b - a := ⟨_, wrap_le _ (by omega) (by omega), rfl⟩
  rw [← f1, ← f2] at ex
  clear ha hb k0 k1 f1 f2
  go_enter Try.func13, Try.ntmps13
  go_wp2_with fail
  go_ret
  rw [ex.out]
  exact ⟨rfl, rfl⟩
set_option maxRecDepth 20000 in
set_option maxHeartbeats 1000000 in
theorem neg_any (x y z : Int) (w : World) (h : ok3 x y z = true) : Calls Try.prog 12 #[.agg #[.int .i64 x, .int .i64 y, .int .i64 z]] w fun e w' => e = .returned (.agg #[.int .i64 (-x), .int .i64 (-y), .int .i64 (-z)]) ∧ Ext w w' := by
  obtain ⟨k0, k1, k2⟩ := ok3_parts h
  have g0 := okW_bounds k0
  have g1 := okW_bounds k1
  have g2 := okW_bounds k2
  have e0 : wrap64 (-x) = -x := wrap_le _ (by omega) (by omega)
  have e1 : wrap64 (-y) = -y := wrap_le _ (by omega) (by omega)
  have e2 : wrap64 (-z) = -z := wrap_le _ (by omega) (by omega)
  clear h k0 k1 k2 g0 g1 g2
  go_enter Try.func12, Try.ntmps12
  go_wp2_with fail
  exact bodyPost_ret (v := .agg #[.int .i64 (-x), .int .i64 (-y), .int .i64 (-z)]) (by simp [results, Try.results12, go_sem]) rfl ⟨rfl, by repeat (first | with_reducible assumption | with_reducible exact Ext.refl _ | with_reducible refine Ext.drew ?_ | with_reducible refine Ext.drewN ?_ _ | with_reducible refine Ext.alloc ?_ _ | with_reducible refine Ext.set ?_ (by first | exact Nat.le_refl _ | (dsimp only; omega) | (simp; done)) _)⟩
end Go.Proofs.Ytbbnbpghhdmhaaa
