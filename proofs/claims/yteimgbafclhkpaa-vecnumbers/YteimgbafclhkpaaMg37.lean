/- The reference of layer 3: three, Add, Neg, Sub, Scale. The reference of layer 3: less, Cross, dot, Dot, Apply. -/
import Derived.Test.YteimgbafclhkpaaV6m
import Derived.Test.YteimgbafclhkpaaMg36
namespace Go.Proofs.Yteimgbafclhkpaa
open Go.RowKit Go.Shelf

theorem word_fit (z : Int) : wordR z = fitR z := rfl
theorem fit_two (z : Int) : (fitR z).2 = 0 ∧ okW z = true ∧ (fitR z).1 = z ∨ (fitR z).2 = 2 ∧ okW z = false ∧ (fitR z).1 = 0 := by
  cases h : okW z
  · rw [fit_no' h]; exact .inr ⟨rfl, rfl, rfl⟩
  · rw [fit_yes' h]; exact .inl ⟨rfl, rfl, rfl⟩
set_option maxHeartbeats 2000000 in
theorem three_any (z0 z1 z2 : Int) (w : World) :
    Calls Try.prog 25 #[.int .i64 (fitR z0).1, .int .i64 (fitR z0).2, .int .i64 (fitR z1).1, .int .i64 (fitR z1).2, .int .i64 (fitR z2).1, .int .i64 (fitR z2).2] w fun e w' => e = .returned (vres z0 z1 z2) ∧ Ext w w' := by
  rcases fit_two z0 with ⟨e0, k0, f0⟩ | ⟨e0, k0, f0⟩
  · rcases fit_two z1 with ⟨e1, k1, f1⟩ | ⟨e1, k1, f1⟩
    · rcases fit_two z2 with ⟨e2, k2, f2⟩ | ⟨e2, k2, f2⟩
      · have hv : Hid (vres z0 z1 z2 = .tuple #[.agg #[.int .i64 z0, .int .i64 z1, .int .i64 z2], .int .i64 0]) := by show _ = _; unfold vres ok3; rw [k0, k1, k2]; rfl
        rw [e0, e1, e2, f0, f1, f2, hv.out]
        clear e0 e1 e2 f0 f1 f2 k0 k1 k2 hv
        go_enter Try.func25, Try.ntmps25
        go_wp2_with fail
        exact bodyPost_ret (v := .tuple #[.agg #[.int .i64 z0, .int .i64 z1, .int .i64 z2], .int .i64 0]) (by simp [results, Try.results25, go_sem]) rfl ⟨rfl, by repeat (first | with_reducible assumption | with_reducible exact Ext.refl _ | with_reducible refine Ext.drew ?_ | with_reducible refine Ext.drewN ?_ _ | with_reducible refine Ext.alloc ?_ _ | with_reducible refine Ext.set ?_ (by first | exact Nat.le_refl _ | (dsimp only; omega) | (simp; done)) _)⟩
      · have hv : Hid (vres z0 z1 z2 = .tuple #[.agg #[.int .i64 0, .int .i64 0, .int .i64 0], .int .i64 2]) := by show _ = _; unfold vres ok3; rw [k0, k1, k2]; rfl
        rw [e0, e1, e2, f0, f1, f2, hv.out]
        clear e0 e1 e2 f0 f1 f2 k0 k1 k2 hv
        go_enter Try.func25, Try.ntmps25
        go_wp2_with fail
        exact bodyPost_ret (v := .tuple #[.agg #[.int .i64 0, .int .i64 0, .int .i64 0], .int .i64 2]) (by simp [results, Try.results25, go_sem]) rfl ⟨rfl, by repeat (first | with_reducible assumption | with_reducible exact Ext.refl _ | with_reducible refine Ext.drew ?_ | with_reducible refine Ext.drewN ?_ _ | with_reducible refine Ext.alloc ?_ _ | with_reducible refine Ext.set ?_ (by first | exact Nat.le_refl _ | (dsimp only; omega) | (simp; done)) _)⟩
    · have hv : Hid (vres z0 z1 z2 = .tuple #[.agg #[.int .i64 0, .int .i64 0, .int .i64 0], .int .i64 2]) := by show _ = _; unfold vres ok3; rw [k0, k1]; rfl
      rw [e0, e1, f0, f1, hv.out]
      clear e0 e1 f0 f1 k0 k1 hv
      generalize (fitR z2).1 = c1
      generalize (fitR z2).2 = c2
      go_enter Try.func25, Try.ntmps25
      go_wp2_with fail
      exact bodyPost_ret (v := .tuple #[.agg #[.int .i64 0, .int .i64 0, .int .i64 0], .int .i64 2]) (by simp [results, Try.results25, go_sem]) rfl ⟨rfl, by repeat (first | with_reducible assumption | with_reducible exact Ext.refl _ | with_reducible refine Ext.drew ?_ | with_reducible refine Ext.drewN ?_ _ | with_reducible refine Ext.alloc ?_ _ | with_reducible refine Ext.set ?_ (by first | exact Nat.le_refl _ | (dsimp only; omega) | (simp; done)) _)⟩
  · have hv : Hid (vres z0 z1 z2 = .tuple #[.agg #[.int .i64 0, .int .i64 0, .int .i64 0], .int .i64 2]) := by show _ = _; unfold vres ok3; rw [k0]; rfl
    rw [e0, f0, hv.out]
    clear e0 f0 k0 hv
    generalize (fitR z2).1 = c1
    generalize (fitR z2).2 = c2
    generalize (fitR z1).1 = c3
    generalize (fitR z1).2 = c4
    go_enter Try.func25, Try.ntmps25
    go_wp2_with fail
    exact bodyPost_ret (v := .tuple #[.agg #[.int .i64 0, .int .i64 0, .int .i64 0], .int .i64 2]) (by simp [results, Try.results25, go_sem]) rfl ⟨rfl, by repeat (first | with_reducible assumption | with_reducible exact Ext.refl _ | with_reducible refine Ext.drew ?_ | with_reducible refine Ext.drewN ?_ _ | with_reducible refine Ext.alloc ?_ _ | with_reducible refine Ext.set ?_ (by first | exact Nat.le_refl _ | (dsimp only; omega) | (simp; done)) _)⟩
theorem ok3_negs {a b c : Int} (h : ok3 a b c = true) : ok3 (-a) (-b) (-c) = true := by
  obtain ⟨h0, h1, h2⟩ := ok3_parts h
  have n : ∀ b, okW b = true → okW (-b) = true := fun b h => by have := okW_bounds h; unfold okW; simp; omega
  unfold ok3; rw [n _ h0, n _ h1, n _ h2]; rfl
end Go.Proofs.Yteimgbafclhkpaa

namespace Go.Proofs.Yteimgbafclhkpaa
open Go.RowKit Go.Shelf

theorem fit_i64 {a : Int} (h : okW a = true) : Fit 64 a := fit_word a (word64 h).1 (word64 h).2
theorem nearQ_word (x : Int) (r : Value) (w : World) (h : IsI w r x) (f : Fit 200 x) :
    Calls Try.prog 26 #[r] w fun e w' => e = .returned (.tuple #[.int .i64 (fitR (nearQ x)).1, .int .i64 (fitR (nearQ x)).2]) ∧ Ext w w' := nearq_any x (nearQ x) 200 r w h (by omega) (by omega) f (nearQ_spec x)

end Go.Proofs.Yteimgbafclhkpaa
