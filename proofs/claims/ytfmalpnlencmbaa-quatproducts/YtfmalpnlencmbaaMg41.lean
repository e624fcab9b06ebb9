/- The reference of layer 1: OverRoot. The reference of layer 1: OverRoot of a whole number by the root of one. The reference of layer 3: three, Add, Neg, Sub, Scale. The reference of layer 3: less, Cross, dot, Dot, Apply. -/
import Derived.Test.YtfmalpnlencmbaaMg40
import Derived.Test.YtfmalpnlencmbaaMg0
import Derived.Deep.RegionHeld3
import Derived.Deep.DeepCutAuto
import Derived.Test.YtfmalpnlencmbaaMg20
import Derived.Test.YtfmalpnlencmbaaMg16
import Derived.Test.YtfmalpnlencmbaaMg39
namespace Go.Proofs.Ytfmalpnlencmbaa
open Go.RowKit
theorem IsI.put2 {w : World} {g : Nat} {v x0 x1 : Value} {z : Int} (h : IsI w v z) (hV : HV w g [.bool false, .slice none 0 0]) : IsI ((w.setCell ⟨g, 0, none⟩ x0).setCell ⟨g, 1, none⟩ x1) v z :=
  (h.set (hV.c 0 rfl) (by simp)).set ((hV.set 0 x0).c 1 rfl) (by simp)
end Go.Proofs.Ytfmalpnlencmbaa

namespace Go.Proofs.Ytfmalpnlencmbaa
open Go.RowKit
theorem rootQ_mul {N d s g : Nat} (hg : 0 < g) (h : RootQ N d s) : RootQ (g * N) (g * d) s := by
  obtain ⟨h1, h2, h3, h4⟩ := h
  have e1 : 4 * (g * N) = g * (4 * N) := by grind
  have e2 : (2 * s + 1) * (2 * s + 1) * (g * d) = g * ((2 * s + 1) * (2 * s + 1) * d) := by grind
  have e3 : (2 * s - 1) * (2 * s - 1) * (g * d) = g * ((2 * s - 1) * (2 * s - 1) * d) := by
    generalize 2 * s - 1 = q
    grind
  unfold RootQ
  rw [e1, e2, e3]
  refine ⟨Nat.mul_le_mul_left g h1, ?_, fun h => h3 (Nat.eq_of_mul_eq_mul_left hg h), fun hs h => h4 hs (Nat.eq_of_mul_eq_mul_left hg h)⟩
  rcases h2 with h2 | h2
  · exact .inl h2
  · exact .inr (Nat.mul_le_mul_left g h2)
theorem rootq_has (p n : Nat) (h0 : 0 < n) : ∃ k, RootQ p n k := by
  obtain ⟨k, k1, k2⟩ := exists_sqrt (p / n)
  have hm : k * k * n ≤ p := by rw [← Nat.le_div_iff_mul_le h0]; exact k1
  have hM : p < (k + 1) * (k + 1) * n := by rw [← Nat.div_lt_iff_lt_mul h0]; exact k2
  by_cases h : (2 * k + 1) * (2 * k + 1) * n < 4 * p ∨ (2 * k + 1) * (2 * k + 1) * n = 4 * p ∧ k % 2 = 1
  · exact ⟨k + 1, rootQ_up hM h⟩
  · exact ⟨k, rootQ_down h0 hm (by omega)⟩
end Go.Proofs.Ytfmalpnlencmbaa

namespace Go.Proofs.Ytfmalpnlencmbaa
open Go.RowKit Go.Shelf

theorem word_fit (z : Int) : wordR z = fitR z := rfl
theorem fit_two (z : Int) : (fitR z).2 = 0 ∧ okW z = true ∧ (fitR z).1 = z ∨ (fitR z).2 = 2 ∧ okW z = false ∧ (fitR z).1 = 0 := by
  cases h : okW z
  · rw [fit_no' h]; exact .inr ⟨rfl, rfl, rfl⟩
  · rw [fit_yes' h]; exact .inl ⟨rfl, rfl, rfl⟩
set_option maxHeartbeats 2000000 in
theorem three_any (z0 z1 z2 : Int) (w : World) :
    Calls Try.prog 47 #[.int .i64 (fitR z0).1, .int .i64 (fitR z0).2, .int .i64 (fitR z1).1, .int .i64 (fitR z1).2, .int .i64 (fitR z2).1, .int .i64 (fitR z2).2] w fun e w' => e = .returned (vres z0 z1 z2) ∧ Ext w w' := by
  rcases fit_two z0 with ⟨e0, k0, f0⟩ | ⟨e0, k0, f0⟩
  · rcases fit_two z1 with ⟨e1, k1, f1⟩ | ⟨e1, k1, f1⟩
    · rcases fit_two z2 with ⟨e2, k2, f2⟩ | ⟨e2, k2, f2⟩
      · have hv : Hid (vres z0 z1 z2 = .tuple #[.agg #[.int .i64 z0, .int .i64 z1, .int .i64 z2], .int .i64 0]) := by show _ = _; unfold vres ok3; rw [k0, k1, k2]; rfl
        rw [e0, e1, e2, f0, f1, f2, hv.out]
        clear e0 e1 e2 f0 f1 f2 k0 k1 k2 hv
        go_enter Try.func47, Try.ntmps47
        go_wp2_with fail
        exact bodyPost_ret (v := .tuple #[.agg #[.int .i64 z0, .int .i64 z1, .int .i64 z2], .int .i64 0]) (by simp [results, Try.results47, go_sem]) rfl ⟨rfl, by repeat (first | with_reducible assumption | with_reducible exact Ext.refl _ | with_reducible refine Ext.drew ?_ | with_reducible refine Ext.drewN ?_ _ | with_reducible refine Ext.alloc ?_ _ | with_reducible refine Ext.set ?_ (by first | exact Nat.le_refl _ | (dsimp only; omega) | (simp; done)) _)⟩
      · have hv : Hid (vres z0 z1 z2 = .tuple #[.agg #[.int .i64 0, .int .i64 0, .int .i64 0], .int .i64 2]) := by show _ = _; unfold vres ok3; rw [k0, k1, k2]; rfl
        rw [e0, e1, e2, f0, f1, f2, hv.out]
        clear e0 e1 e2 f0 f1 f2 k0 k1 k2 hv
        go_enter Try.func47, Try.ntmps47
        go_wp2_with fail
        exact bodyPost_ret (v := .tuple #[.agg #[.int .i64 0, .int .i64 0, .int .i64 0], .int .i64 2]) (by simp [results, Try.results47, go_sem]) rfl ⟨rfl, by repeat (first | with_reducible assumption | with_reducible exact Ext.refl _ | with_reducible refine Ext.drew ?_ | with_reducible refine Ext.drewN ?_ _ | with_reducible refine Ext.alloc ?_ _ | with_reducible refine Ext.set ?_ (by first | exact Nat.le_refl _ | (dsimp only; omega) | (simp; done)) _)⟩
    · have hv : Hid (vres z0 z1 z2 = .tuple #[.agg #[.int .i64 0, .int .i64 0, .int .i64 0], .int .i64 2]) := by show _ = _; unfold vres ok3; rw [k0, k1]; rfl
      rw [e0, e1, f0, f1, hv.out]
      clear e0 e1 f0 f1 k0 k1 hv
      generalize (fitR z2).1 = c1
      generalize (fitR z2).2 = c2
      go_enter Try.func47, Try.ntmps47
      go_wp2_with fail
      exact bodyPost_ret (v := .tuple #[.agg #[.int .i64 0, .int .i64 0, .int .i64 0], .int .i64 2]) (by simp [results, Try.results47, go_sem]) rfl ⟨rfl, by repeat (first | with_reducible assumption | with_reducible exact Ext.refl _ | with_reducible refine Ext.drew ?_ | with_reducible refine Ext.drewN ?_ _ | with_reducible refine Ext.alloc ?_ _ | with_reducible refine Ext.set ?_ (by first | exact Nat.le_refl _ | (dsimp only; omega) | (simp; done)) _)⟩
  · have hv : Hid (vres z0 z1 z2 = .tuple #[.agg #[.int .i64 0, .int .i64 0, .int .i64 0], .int .i64 2]) := by show _ = _; unfold vres ok3; rw [k0]; rfl
    rw [e0, f0, hv.out]
    clear e0 f0 k0 hv
    generalize (fitR z2).1 = c1
    generalize (fitR z2).2 = c2
    generalize (fitR z1).1 = c3
    generalize (fitR z1).2 = c4
    go_enter Try.func47, Try.ntmps47
    go_wp2_with fail
    exact bodyPost_ret (v := .tuple #[.agg #[.int .i64 0, .int .i64 0, .int .i64 0], .int .i64 2]) (by simp [results, Try.results47, go_sem]) rfl ⟨rfl, by repeat (first | with_reducible assumption | with_reducible exact Ext.refl _ | with_reducible refine Ext.drew ?_ | with_reducible refine Ext.drewN ?_ _ | with_reducible refine Ext.alloc ?_ _ | with_reducible refine Ext.set ?_ (by first | exact Nat.le_refl _ | (dsimp only; omega) | (simp; done)) _)⟩
theorem ok3_negs {a b c : Int} (h : ok3 a b c = true) : ok3 (-a) (-b) (-c) = true := by
  obtain ⟨h0, h1, h2⟩ := ok3_parts h
  have n : ∀ b, okW b = true → okW (-b) = true := fun b h => by have := okW_bounds h; unfold okW; simp; omega
  unfold ok3; rw [n _ h0, n _ h1, n _ h2]; rfl
end Go.Proofs.Ytfmalpnlencmbaa

namespace Go.Proofs.Ytfmalpnlencmbaa
open Go.RowKit Go.Shelf

theorem fit_i64 {a : Int} (h : okW a = true) : Fit 64 a := fit_word a (word64 h).1 (word64 h).2
end Go.Proofs.Ytfmalpnlencmbaa
