/- The reference of layer 3: three, Add, Neg, Sub, Scale. -/
import Derived.Test.YtbmocnigmpmfkaaV6
import Derived.Test.YtbmocnigmpmfkaaRef1
namespace Go.Proofs.Ytbmocnigmpmfkaa
open Go.RowKit Go.Shelf

theorem word_fit (z : Int) : wordR z = fitR z := rfl
theorem fit_two (z : Int) : (fitR z).2 = 0 ∧ okW z = true ∧ (fitR z).1 = z ∨ (fitR z).2 = 2 ∧ okW z = false ∧ (fitR z).1 = 0 := by
  cases h : okW z
  · rw [fit_no' h]; exact .inr ⟨rfl, rfl, rfl⟩
  · rw [fit_yes' h]; exact .inl ⟨rfl, rfl, rfl⟩
theorem ok3_negs {a b c : Int} (h : ok3 a b c = true) : ok3 (-a) (-b) (-c) = true := by
  obtain ⟨h0, h1, h2⟩ := ok3_parts h
  have n : ∀ b, okW b = true → okW (-b) = true := fun b h => by have := okW_bounds h; unfold okW; simp; omega
  unfold ok3; rw [n _ h0, n _ h1, n _ h2]; rfl
end Go.Proofs.Ytbmocnigmpmfkaa
