/- quat: check, Check. -/
import Derived.Test.YtchmcmcbdipphaaQ1
import Derived.Deep.RegionHeld
import Derived.Test.YtchmcmcbdipphaaQ1b
namespace Go.Proofs.Ytchmcmcbdipphaa
open Go.RowKit Go.Shelf

theorem chk4_or (a b c d : Int) : chk4 a b c d = if chk a ≠ 0 then chk a else if chk b ≠ 0 then chk b else if chk c ≠ 0 then chk c else chk d := by
  unfold chk4 ok4 chk
  cases okW a <;> cases okW b <;> cases okW c <;> cases okW d <;> rfl

set_option maxRecDepth 20000 in
set_option maxHeartbeats 4000000 in
theorem qcheck_any (a b c d : Int) (w : World) :
    Calls Try.prog 44 #[.agg #[.int .i64 a, .int .i64 b, .int .i64 c, .int .i64 d]] w fun e w' => e = .returned (.int .i64 (chk4 a b c d)) ∧ Ext w w' := by
  have HC : Hid (∀ v w', Calls Try.prog 60 #[.int .i64 v] w' fun e w'' => e = .returned (.int .i64 (chk v)) ∧ w'' = w') := check_any
  have HO : Hid (∀ g w', H4 w' g (.int .i64 (chk a)) (.int .i64 (chk b)) (.int .i64 (chk c)) (.int .i64 (chk d)) → Calls Try.prog 24 #[.slice (some ⟨g, 0, none⟩) 4 4] w' fun e w'' => e = .returned (.int .i64 (chk4 a b c d)) ∧ Ext w' w'') := fun g w' h => cmpOr4 _ _ _ _ _ g w' h (chk4_or a b c d)
  generalize chk4 a b c d = R at *
  go_enter Try.func44, Try.ntmps44
  go_wp2_with fail
  have BB : Hid (H4 (w.alloc (.cells #[.int .i64 a, .int .i64 b, .int .i64 c, .int .i64 d] 53)) w.heap.size (.int .i64 a) (.int .i64 b) (.int .i64 c) (.int .i64 d)) := h4_at rfl
  go_region_held (fun w' => w'.cell? ⟨w.heap.size, 0, none⟩ = some (.int .i64 a) ∧ w'.cell? ⟨w.heap.size, 1, none⟩ = some (.int .i64 b) ∧ w'.cell? ⟨w.heap.size, 2, none⟩ = some (.int .i64 c) ∧ w'.cell? ⟨w.heap.size, 3, none⟩ = some (.int .i64 d)) (first | (go_keep; done) | skip) (first | (go_at_call 60; refine (HC.out _ _).mono ?_; rintro e wx ⟨rfl, hwx⟩; have hwy := hwx.symm; clear hwx; subst hwy) | (go_at_call 24; refine (HO.out _ _ (H4.drew (h4_at (by simp)))).mono ?_; rintro e w1 ⟨rfl, x1⟩; have Y1 : Ext (w.alloc (.cells #[.int .i64 a, .int .i64 b, .int .i64 c, .int .i64 d] 53)) w1 := Ext.trans (by repeat (first | with_reducible assumption | with_reducible exact Ext.refl _ | with_reducible refine Ext.drew ?_ | with_reducible refine Ext.drewN ?_ _ | with_reducible refine Ext.alloc ?_ _ | with_reducible refine Ext.set ?_ (by first | exact Nat.le_refl _ | (dsimp only; omega) | (simp; done)) _)) x1; obtain ⟨s0, s1, s2, s3, s4, s5, s6, s7, s8⟩ := BB.out.ext Y1))
  all_goals
    have X1 : Ext w w1 := Ext.trans (by repeat (first | with_reducible assumption | with_reducible exact Ext.refl _ | with_reducible refine Ext.drew ?_ | with_reducible refine Ext.drewN ?_ _ | with_reducible refine Ext.alloc ?_ _ | with_reducible refine Ext.set ?_ (by first | exact Nat.le_refl _ | (dsimp only; omega) | (simp; done)) _)) x1
    go_wp2_with fail
    go_ret
    exact ⟨rfl, X1⟩

set_option maxRecDepth 20000 in
set_option maxHeartbeats 4000000 in
theorem qCheck_any (a b c d : Int) (w : World) :
    Calls Try.prog 25 #[.agg #[.int .i64 a, .int .i64 b, .int .i64 c, .int .i64 d]] w fun e w' => e = .returned (.int .i64 (chk4 a b c d)) ∧ Ext w w' := by
  have HC : Hid _ := qcheck_any a b c d
  have HF : Hid _ := qof_any a b c d
  go_enter Try.func25, Try.ntmps25
  go_wp2_with fail
  refine (HF.out _).mono ?_
  rintro e w1 ⟨rfl, x1⟩
  go_wp2_with fail
  refine (HC.out _).mono ?_
  rintro e w2 ⟨rfl, x2⟩
  have X2 : Ext w w2 := (Ext.trans (by repeat (first | with_reducible assumption | with_reducible exact Ext.refl _ | with_reducible refine Ext.drew ?_ | with_reducible refine Ext.drewN ?_ _ | with_reducible refine Ext.alloc ?_ _ | with_reducible refine Ext.set ?_ (by first | exact Nat.le_refl _ | (dsimp only; omega) | (simp; done)) _)) x1).trans x2
  go_wp2_with fail
  go_ret
  exact ⟨rfl, X2⟩
end Go.Proofs.Ytchmcmcbdipphaa
