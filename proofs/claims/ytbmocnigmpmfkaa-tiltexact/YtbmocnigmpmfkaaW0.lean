/- What walks over variables of arrays and structs need. -/
import Derived.Test.YtbmocnigmpmfkaaCore
import Derived.BigRegion
namespace Go.Proofs.Ytbmocnigmpmfkaa
open Go.RowKit

theorem Ext.set {a w : World} (h : Ext a w) {p : Addr} (hb : a.heap.size ≤ p.block) (v : Value) : Ext a (w.setCell p v) := Below.setCell h hb v
/-- three cells of a variable, which may be written -/
def H3 (w : World) (b : Nat) (u v x : Value) : Prop :=
  w.cell? ⟨b, 0, none⟩ = some u ∧ w.cell? ⟨b, 1, none⟩ = some v ∧ w.cell? ⟨b, 2, none⟩ = some x ∧
  w.frozen? ⟨b, 0, none⟩ = false ∧ w.frozen? ⟨b, 1, none⟩ = false ∧ w.frozen? ⟨b, 2, none⟩ = false ∧ b < w.heap.size
theorem H3.ext {w w' : World} {b : Nat} {u v x : Value} (h : H3 w b u v x) (hx : Ext w w') : H3 w' b u v x := by
  obtain ⟨h0, h1, h2, f0, f1, f2, hb⟩ := h
  obtain ⟨hc, hf, hs⟩ := hx.lay
  refine ⟨?_, ?_, ?_, ?_, ?_, ?_, by omega⟩
  · rw [hc _ _ hb]; exact h0
  · rw [hc _ _ hb]; exact h1
  · rw [hc _ _ hb]; exact h2
  · rw [hf _ _ hb]; exact f0
  · rw [hf _ _ hb]; exact f1
  · rw [hf _ _ hb]; exact f2
theorem h3_at {w : World} {b : Nat} {u v x : Value} {T : TypeId} (h : w.heap.size = b) : H3 (w.alloc (.cells #[u, v, x] T)) b u v x := by
  subst h
  refine ⟨?_, ?_, ?_, ?_, ?_, ?_, ?_⟩ <;> simp [go_sem]
theorem H3.alloc {w : World} {b : Nat} {u v x : Value} (h : H3 w b u v x) (o : Obj) : H3 (w.alloc o) b u v x := h.ext ((Ext.refl _).alloc o)
theorem H3.drew {w : World} {b : Nat} {u v x : Value} (h : H3 w b u v x) : H3 w.drew b u v x := h.ext (Ext.refl _).drew
/-- a variable of one cell -/
def H1 (w : World) (b : Nat) (u : Value) : Prop := w.cell? ⟨b, 0, none⟩ = some u ∧ w.frozen? ⟨b, 0, none⟩ = false ∧ b < w.heap.size
theorem H1.ext {w w' : World} {b : Nat} {u : Value} (h : H1 w b u) (hx : Ext w w') : H1 w' b u := by
  obtain ⟨h0, f0, hb⟩ := h
  obtain ⟨hc, hf, hs⟩ := hx.lay
  refine ⟨?_, ?_, by omega⟩
  · rw [hc _ _ hb]; exact h0
  · rw [hf _ _ hb]; exact f0
theorem h1_at {w : World} {b : Nat} {u : Value} {T : TypeId} (h : w.heap.size = b) : H1 (w.alloc (.cells #[u] T)) b u := by
  subst h
  refine ⟨?_, ?_, ?_⟩ <;> simp [go_sem]
theorem H1.alloc {w : World} {b : Nat} {u : Value} (h : H1 w b u) (o : Obj) : H1 (w.alloc o) b u := h.ext ((Ext.refl _).alloc o)
end Go.Proofs.Ytbmocnigmpmfkaa
