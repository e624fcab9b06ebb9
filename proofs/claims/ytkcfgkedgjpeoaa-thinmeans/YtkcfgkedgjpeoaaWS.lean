/- wide: Sum. -/
import Derived.Test.YtkcfgkedgjpeoaaW3
namespace Go.Proofs.Ytkcfgkedgjpeoaa
open Go.RowKit Go.Shelf

/-- the sum of the first ones -/
def sumTo (Z : Nat → Int) : Nat → Int
  | 0 => 0
  | k + 1 => sumTo Z k + Z k
theorem H3.set3 {w : World} {b : Nat} {u v x : Value} (h : H3 w b u v x) (u' v' x' : Value) : H3 (((w.setCell ⟨b, 0, none⟩ u').setCell ⟨b, 1, none⟩ v').setCell ⟨b, 2, none⟩ x') b u' v' x' := by
  obtain ⟨h0, h1, h2, f0, f1, f2, hb⟩ := h
  refine ⟨?_, ?_, ?_, ?_, ?_, ?_, ?_⟩ <;> simp [go_sem, h0, h1, h2, f0, f1, f2, hb]
theorem H3.far {w : World} {b g o : Nat} {u v x y : Value} (h : H3 w b u v x) (hb : b ≠ g) : H3 (w.setCell ⟨g, o, none⟩ y) b u v x := by
  obtain ⟨h0, h1, h2, f0, f1, f2, hz⟩ := h
  have k : ∀ i, (w.setCell ⟨g, o, none⟩ y).cell? ⟨b, i, none⟩ = w.cell? ⟨b, i, none⟩ := fun i => World.cell?_setCell_other _ _ _ _ (by intro e; have := congrArg Addr.block e; dsimp only at this; omega)
  refine ⟨by rw [k]; exact h0, by rw [k]; exact h1, by rw [k]; exact h2, ?_, ?_, ?_, ?_⟩ <;> simp [go_sem, f0, f1, f2, hz]
theorem H3.far3 {w : World} {b g : Nat} {u v x p q r : Value} (h : H3 w b u v x) (hb : b ≠ g) : H3 (((w.setCell ⟨g, 0, none⟩ p).setCell ⟨g, 1, none⟩ q).setCell ⟨g, 2, none⟩ r) b u v x := ((h.far hb).far hb).far hb


end Go.Proofs.Ytkcfgkedgjpeoaa
