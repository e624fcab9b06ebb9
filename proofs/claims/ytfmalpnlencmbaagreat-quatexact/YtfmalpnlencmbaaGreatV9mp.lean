/- vec: rowwise, Cross, Apply. -/
import Derived.Test.YtfmalpnlencmbaaGreatMg16p
namespace Go.Proofs.YtfmalpnlencmbaaGreat
open Go.RowKit Go.Shelf

/-- nine cells of a variable -/
def H9 (w : World) (b : Nat) (v0 v1 v2 v3 v4 v5 v6 v7 v8 : Value) : Prop :=
  w.cell? ⟨b, 0, none⟩ = some v0 ∧ w.cell? ⟨b, 1, none⟩ = some v1 ∧ w.cell? ⟨b, 2, none⟩ = some v2 ∧ w.cell? ⟨b, 3, none⟩ = some v3 ∧ w.cell? ⟨b, 4, none⟩ = some v4 ∧ w.cell? ⟨b, 5, none⟩ = some v5 ∧ w.cell? ⟨b, 6, none⟩ = some v6 ∧ w.cell? ⟨b, 7, none⟩ = some v7 ∧ w.cell? ⟨b, 8, none⟩ = some v8
theorem H9.ext {w w' : World} {b : Nat} {v0 v1 v2 v3 v4 v5 v6 v7 v8 : Value} (h : H9 w b v0 v1 v2 v3 v4 v5 v6 v7 v8) (hx : Ext w w') : H9 w' b v0 v1 v2 v3 v4 v5 v6 v7 v8 := by
  obtain ⟨h0, h1, h2, h3, h4, h5, h6, h7, h8⟩ := h
  exact ⟨hx.keepc h0, hx.keepc h1, hx.keepc h2, hx.keepc h3, hx.keepc h4, hx.keepc h5, hx.keepc h6, hx.keepc h7, hx.keepc h8⟩
theorem H9.alloc {w : World} {b : Nat} {v0 v1 v2 v3 v4 v5 v6 v7 v8 : Value} (h : H9 w b v0 v1 v2 v3 v4 v5 v6 v7 v8) (o : Obj) : H9 (w.alloc o) b v0 v1 v2 v3 v4 v5 v6 v7 v8 := h.ext ((Ext.refl _).alloc o)

theorem wrap_neg {b : Int} (h : okW b = true) : wrap64 (-b) = -b := by
  have := okW_bounds h; unfold wrap64; omega
end Go.Proofs.YtfmalpnlencmbaaGreat
