/- What walks over variables of arrays and structs need. A variable of any number of cells. -/
import Derived.Test.YtbmocnigmpmfkaaCorem
import Derived.BigRegion
import Derived.Deep.MidRow
namespace Go.Proofs.Ytbmocnigmpmfkaa
open Go.RowKit

theorem Ext.set {a w : World} (h : Ext a w) {p : Addr} (hb : a.heap.size ≤ p.block) (v : Value) : Ext a (w.setCell p v) := Below.setCell h hb v
/-- three cells of a variable, which may be written -/
def H3 (w : World) (b : Nat) (u v x : Value) : Prop :=
  w.cell? ⟨b, 0, none⟩ = some u ∧ w.cell? ⟨b, 1, none⟩ = some v ∧ w.cell? ⟨b, 2, none⟩ = some x ∧
  w.frozen? ⟨b, 0, none⟩ = false ∧ w.frozen? ⟨b, 1, none⟩ = false ∧ w.frozen? ⟨b, 2, none⟩ = false ∧ b < w.heap.size
theorem H3.ext {w w' : World} {b : Nat} {u v x : Value} (h : H3 w b u v x) (hx : Ext w w') : H3 w' b u v x := by
  obtain ⟨h0, h1, h2, f0, f1, f2, hb⟩ := h
  obtain ⟨hc, hf, hs⟩ := hx.lay
  refine ⟨?_, ?_, ?_, ?_, ?_, ?_, by omega⟩
  · rw [hc _ _ hb]; exact h0
  · rw [hc _ _ hb]; exact h1
  · rw [hc _ _ hb]; exact h2
  · rw [hf _ _ hb]; exact f0
  · rw [hf _ _ hb]; exact f1
  · rw [hf _ _ hb]; exact f2
theorem h3_at {w : World} {b : Nat} {u v x : Value} {T : TypeId} (h : w.heap.size = b) : H3 (w.alloc (.cells #[u, v, x] T)) b u v x := by
  subst h
  refine ⟨?_, ?_, ?_, ?_, ?_, ?_, ?_⟩ <;> simp [go_sem]
theorem H3.alloc {w : World} {b : Nat} {u v x : Value} (h : H3 w b u v x) (o : Obj) : H3 (w.alloc o) b u v x := h.ext ((Ext.refl _).alloc o)
theorem H3.drew {w : World} {b : Nat} {u v x : Value} (h : H3 w b u v x) : H3 w.drew b u v x := h.ext (Ext.refl _).drew
/-- a variable of one cell -/
def H1 (w : World) (b : Nat) (u : Value) : Prop := w.cell? ⟨b, 0, none⟩ = some u ∧ w.frozen? ⟨b, 0, none⟩ = false ∧ b < w.heap.size
theorem H1.ext {w w' : World} {b : Nat} {u : Value} (h : H1 w b u) (hx : Ext w w') : H1 w' b u := by
  obtain ⟨h0, f0, hb⟩ := h
  obtain ⟨hc, hf, hs⟩ := hx.lay
  refine ⟨?_, ?_, by omega⟩
  · rw [hc _ _ hb]; exact h0
  · rw [hf _ _ hb]; exact f0
theorem h1_at {w : World} {b : Nat} {u : Value} {T : TypeId} (h : w.heap.size = b) : H1 (w.alloc (.cells #[u] T)) b u := by
  subst h
  refine ⟨?_, ?_, ?_⟩ <;> simp [go_sem]
theorem H1.alloc {w : World} {b : Nat} {u : Value} (h : H1 w b u) (o : Obj) : H1 (w.alloc o) b u := h.ext ((Ext.refl _).alloc o)
end Go.Proofs.Ytbmocnigmpmfkaa

namespace Go.Proofs.Ytbmocnigmpmfkaa
open Go.RowKit

/-- the cells of a variable, which may be written -/
def HV (w : World) (b : Nat) (vs : List Value) : Prop :=
  b < w.heap.size ∧ ∀ j v, vs[j]? = some v → w.cell? ⟨b, j, none⟩ = some v ∧ w.frozen? ⟨b, j, none⟩ = false
theorem HV.ext {w w' : World} {b : Nat} {vs : List Value} (h : HV w b vs) (hx : Ext w w') : HV w' b vs := by
  obtain ⟨hc, hf, hs⟩ := hx.lay
  refine ⟨by have := h.1; omega, fun j v hv => ?_⟩
  obtain ⟨h1, h2⟩ := h.2 j v hv
  exact ⟨(hc _ _ h.1).trans h1, (hf _ _ h.1).trans h2⟩
theorem hv_at {w : World} {b : Nat} {vs : List Value} {T : TypeId} (h : w.heap.size = b) : HV (w.alloc (.cells vs.toArray T)) b vs := by
  subst h
  refine ⟨by simp, fun j v hv => ⟨?_, ?_⟩⟩
  · rw [World.cell?_alloc_new]
    simpa using hv
  · simp [go_sem]
theorem HV.alloc {w : World} {b : Nat} {vs : List Value} (h : HV w b vs) (o : Obj) : HV (w.alloc o) b vs := h.ext ((Ext.refl _).alloc o)
theorem HV.drew {w : World} {b : Nat} {vs : List Value} (h : HV w b vs) : HV w.drew b vs := h.ext (Ext.refl _).drew
theorem HV.far {w : World} {b g o : Nat} {vs : List Value} {y : Value} (h : HV w b vs) (hb : b ≠ g) : HV (w.setCell ⟨g, o, none⟩ y) b vs := by
  refine ⟨by simpa using h.1, fun j v hv => ?_⟩
  obtain ⟨h1, h2⟩ := h.2 j v hv
  refine ⟨?_, by simpa [go_sem] using h2⟩
  rw [World.cell?_setCell_other _ _ _ _ (by intro e; have := congrArg Addr.block e; dsimp only at this; omega)]
  exact h1
theorem HV.set {w : World} {b : Nat} {vs : List Value} (h : HV w b vs) (j : Nat) (v : Value) : HV (w.setCell ⟨b, j, none⟩ v) b (vs.set j v) := by
  refine ⟨by simpa using h.1, fun i u hu => ?_⟩
  by_cases e : i = j
  · subst e
    rw [List.getElem?_set] at hu
    simp only [if_true] at hu
    by_cases hl : i < vs.length
    · rw [if_pos hl] at hu
      obtain ⟨h1, h2⟩ := h.2 i vs[i] (List.getElem?_eq_getElem hl)
      cases hu
      exact ⟨World.cell?_setCell_same _ _ _ h1, by simpa [go_sem] using h2⟩
    · rw [if_neg hl] at hu
      cases hu
  · rw [List.getElem?_set, if_neg (fun h => e h.symm)] at hu
    obtain ⟨h1, h2⟩ := h.2 i u hu
    refine ⟨?_, by simpa [go_sem] using h2⟩
    rw [World.cell?_setCell_other _ _ _ _ (by intro x; have := congrArg Addr.off x; dsimp only at this; omega)]
    exact h1
/-- cell j of it -/
theorem HV.c {w : World} {b : Nat} {vs : List Value} (h : HV w b vs) (j : Nat) {v : Value} (hv : vs[j]? = some v) : w.cell? ⟨b, j, none⟩ = some v := (h.2 j v hv).1
theorem HV.f {w : World} {b : Nat} {vs : List Value} (h : HV w b vs) (j : Nat) {v : Value} (hv : vs[j]? = some v) : w.frozen? ⟨b, j, none⟩ = false := (h.2 j v hv).2
/-- its cells from o on -/
theorem HV.rng {w : World} {b : Nat} {vs : List Value} (h : HV w b vs) (o : Nat) : w.rangeAt b o (vs.drop o) := fun j v hv => by
  rw [List.getElem?_drop] at hv
  exact h.c (o + j) hv
theorem HV.cells1 {w : World} {b : Nat} {v : Value} (h : HV w b [v]) : w.cell? ⟨b, 0, none⟩ = some v ∧ w.frozen? ⟨b, 0, none⟩ = false := h.2 0 _ rfl
theorem HV.k3 {w : World} {b : Nat} {v0 v1 v2 : Value} (h : HV w b [v0, v1, v2]) : w.cell? ⟨b, 0, none⟩ = some v0 ∧ w.cell? ⟨b, 1, none⟩ = some v1 ∧ w.cell? ⟨b, 2, none⟩ = some v2 :=
  ⟨h.c 0 rfl, h.c 1 rfl, h.c 2 rfl⟩
theorem HV.z3 {w : World} {b : Nat} {v0 v1 v2 : Value} (h : HV w b [v0, v1, v2]) : w.frozen? ⟨b, 0, none⟩ = false ∧ w.frozen? ⟨b, 1, none⟩ = false ∧ w.frozen? ⟨b, 2, none⟩ = false :=
  ⟨h.f 0 rfl, h.f 1 rfl, h.f 2 rfl⟩
theorem HV.k4 {w : World} {b : Nat} {v0 v1 v2 v3 : Value} (h : HV w b [v0, v1, v2, v3]) : w.cell? ⟨b, 0, none⟩ = some v0 ∧ w.cell? ⟨b, 1, none⟩ = some v1 ∧ w.cell? ⟨b, 2, none⟩ = some v2 ∧ w.cell? ⟨b, 3, none⟩ = some v3 :=
  ⟨h.c 0 rfl, h.c 1 rfl, h.c 2 rfl, h.c 3 rfl⟩
theorem HV.z4 {w : World} {b : Nat} {v0 v1 v2 v3 : Value} (h : HV w b [v0, v1, v2, v3]) : w.frozen? ⟨b, 0, none⟩ = false ∧ w.frozen? ⟨b, 1, none⟩ = false ∧ w.frozen? ⟨b, 2, none⟩ = false ∧ w.frozen? ⟨b, 3, none⟩ = false :=
  ⟨h.f 0 rfl, h.f 1 rfl, h.f 2 rfl, h.f 3 rfl⟩
theorem HV.k9 {w : World} {b : Nat} {v0 v1 v2 v3 v4 v5 v6 v7 v8 : Value} (h : HV w b [v0, v1, v2, v3, v4, v5, v6, v7, v8]) : w.cell? ⟨b, 0, none⟩ = some v0 ∧ w.cell? ⟨b, 1, none⟩ = some v1 ∧ w.cell? ⟨b, 2, none⟩ = some v2 ∧ w.cell? ⟨b, 3, none⟩ = some v3 ∧ w.cell? ⟨b, 4, none⟩ = some v4 ∧ w.cell? ⟨b, 5, none⟩ = some v5 ∧ w.cell? ⟨b, 6, none⟩ = some v6 ∧ w.cell? ⟨b, 7, none⟩ = some v7 ∧ w.cell? ⟨b, 8, none⟩ = some v8 :=
  ⟨h.c 0 rfl, h.c 1 rfl, h.c 2 rfl, h.c 3 rfl, h.c 4 rfl, h.c 5 rfl, h.c 6 rfl, h.c 7 rfl, h.c 8 rfl⟩
theorem HV.z9 {w : World} {b : Nat} {v0 v1 v2 v3 v4 v5 v6 v7 v8 : Value} (h : HV w b [v0, v1, v2, v3, v4, v5, v6, v7, v8]) : w.frozen? ⟨b, 0, none⟩ = false ∧ w.frozen? ⟨b, 1, none⟩ = false ∧ w.frozen? ⟨b, 2, none⟩ = false ∧ w.frozen? ⟨b, 3, none⟩ = false ∧ w.frozen? ⟨b, 4, none⟩ = false ∧ w.frozen? ⟨b, 5, none⟩ = false ∧ w.frozen? ⟨b, 6, none⟩ = false ∧ w.frozen? ⟨b, 7, none⟩ = false ∧ w.frozen? ⟨b, 8, none⟩ = false :=
  ⟨h.f 0 rfl, h.f 1 rfl, h.f 2 rfl, h.f 3 rfl, h.f 4 rfl, h.f 5 rfl, h.f 6 rfl, h.f 7 rfl, h.f 8 rfl⟩
theorem HV.k16 {w : World} {b : Nat} {v0 v1 v2 v3 v4 v5 v6 v7 v8 v9 v10 v11 v12 v13 v14 v15 : Value} (h : HV w b [v0, v1, v2, v3, v4, v5, v6, v7, v8, v9, v10, v11, v12, v13, v14, v15]) : w.cell? ⟨b, 0, none⟩ = some v0 ∧ w.cell? ⟨b, 1, none⟩ = some v1 ∧ w.cell? ⟨b, 2, none⟩ = some v2 ∧ w.cell? ⟨b, 3, none⟩ = some v3 ∧ w.cell? ⟨b, 4, none⟩ = some v4 ∧ w.cell? ⟨b, 5, none⟩ = some v5 ∧ w.cell? ⟨b, 6, none⟩ = some v6 ∧ w.cell? ⟨b, 7, none⟩ = some v7 ∧ w.cell? ⟨b, 8, none⟩ = some v8 ∧ w.cell? ⟨b, 9, none⟩ = some v9 ∧ w.cell? ⟨b, 10, none⟩ = some v10 ∧ w.cell? ⟨b, 11, none⟩ = some v11 ∧ w.cell? ⟨b, 12, none⟩ = some v12 ∧ w.cell? ⟨b, 13, none⟩ = some v13 ∧ w.cell? ⟨b, 14, none⟩ = some v14 ∧ w.cell? ⟨b, 15, none⟩ = some v15 :=
  ⟨h.c 0 rfl, h.c 1 rfl, h.c 2 rfl, h.c 3 rfl, h.c 4 rfl, h.c 5 rfl, h.c 6 rfl, h.c 7 rfl, h.c 8 rfl, h.c 9 rfl, h.c 10 rfl, h.c 11 rfl, h.c 12 rfl, h.c 13 rfl, h.c 14 rfl, h.c 15 rfl⟩
theorem HV.z16 {w : World} {b : Nat} {v0 v1 v2 v3 v4 v5 v6 v7 v8 v9 v10 v11 v12 v13 v14 v15 : Value} (h : HV w b [v0, v1, v2, v3, v4, v5, v6, v7, v8, v9, v10, v11, v12, v13, v14, v15]) : w.frozen? ⟨b, 0, none⟩ = false ∧ w.frozen? ⟨b, 1, none⟩ = false ∧ w.frozen? ⟨b, 2, none⟩ = false ∧ w.frozen? ⟨b, 3, none⟩ = false ∧ w.frozen? ⟨b, 4, none⟩ = false ∧ w.frozen? ⟨b, 5, none⟩ = false ∧ w.frozen? ⟨b, 6, none⟩ = false ∧ w.frozen? ⟨b, 7, none⟩ = false ∧ w.frozen? ⟨b, 8, none⟩ = false ∧ w.frozen? ⟨b, 9, none⟩ = false ∧ w.frozen? ⟨b, 10, none⟩ = false ∧ w.frozen? ⟨b, 11, none⟩ = false ∧ w.frozen? ⟨b, 12, none⟩ = false ∧ w.frozen? ⟨b, 13, none⟩ = false ∧ w.frozen? ⟨b, 14, none⟩ = false ∧ w.frozen? ⟨b, 15, none⟩ = false :=
  ⟨h.f 0 rfl, h.f 1 rfl, h.f 2 rfl, h.f 3 rfl, h.f 4 rfl, h.f 5 rfl, h.f 6 rfl, h.f 7 rfl, h.f 8 rfl, h.f 9 rfl, h.f 10 rfl, h.f 11 rfl, h.f 12 rfl, h.f 13 rfl, h.f 14 rfl, h.f 15 rfl⟩
theorem HV.k20 {w : World} {b : Nat} {v0 v1 v2 v3 v4 v5 v6 v7 v8 v9 v10 v11 v12 v13 v14 v15 v16 v17 v18 v19 : Value} (h : HV w b [v0, v1, v2, v3, v4, v5, v6, v7, v8, v9, v10, v11, v12, v13, v14, v15, v16, v17, v18, v19]) : w.cell? ⟨b, 0, none⟩ = some v0 ∧ w.cell? ⟨b, 1, none⟩ = some v1 ∧ w.cell? ⟨b, 2, none⟩ = some v2 ∧ w.cell? ⟨b, 3, none⟩ = some v3 ∧ w.cell? ⟨b, 4, none⟩ = some v4 ∧ w.cell? ⟨b, 5, none⟩ = some v5 ∧ w.cell? ⟨b, 6, none⟩ = some v6 ∧ w.cell? ⟨b, 7, none⟩ = some v7 ∧ w.cell? ⟨b, 8, none⟩ = some v8 ∧ w.cell? ⟨b, 9, none⟩ = some v9 ∧ w.cell? ⟨b, 10, none⟩ = some v10 ∧ w.cell? ⟨b, 11, none⟩ = some v11 ∧ w.cell? ⟨b, 12, none⟩ = some v12 ∧ w.cell? ⟨b, 13, none⟩ = some v13 ∧ w.cell? ⟨b, 14, none⟩ = some v14 ∧ w.cell? ⟨b, 15, none⟩ = some v15 ∧ w.cell? ⟨b, 16, none⟩ = some v16 ∧ w.cell? ⟨b, 17, none⟩ = some v17 ∧ w.cell? ⟨b, 18, none⟩ = some v18 ∧ w.cell? ⟨b, 19, none⟩ = some v19 :=
  ⟨h.c 0 rfl, h.c 1 rfl, h.c 2 rfl, h.c 3 rfl, h.c 4 rfl, h.c 5 rfl, h.c 6 rfl, h.c 7 rfl, h.c 8 rfl, h.c 9 rfl, h.c 10 rfl, h.c 11 rfl, h.c 12 rfl, h.c 13 rfl, h.c 14 rfl, h.c 15 rfl, h.c 16 rfl, h.c 17 rfl, h.c 18 rfl, h.c 19 rfl⟩
theorem HV.z20 {w : World} {b : Nat} {v0 v1 v2 v3 v4 v5 v6 v7 v8 v9 v10 v11 v12 v13 v14 v15 v16 v17 v18 v19 : Value} (h : HV w b [v0, v1, v2, v3, v4, v5, v6, v7, v8, v9, v10, v11, v12, v13, v14, v15, v16, v17, v18, v19]) : w.frozen? ⟨b, 0, none⟩ = false ∧ w.frozen? ⟨b, 1, none⟩ = false ∧ w.frozen? ⟨b, 2, none⟩ = false ∧ w.frozen? ⟨b, 3, none⟩ = false ∧ w.frozen? ⟨b, 4, none⟩ = false ∧ w.frozen? ⟨b, 5, none⟩ = false ∧ w.frozen? ⟨b, 6, none⟩ = false ∧ w.frozen? ⟨b, 7, none⟩ = false ∧ w.frozen? ⟨b, 8, none⟩ = false ∧ w.frozen? ⟨b, 9, none⟩ = false ∧ w.frozen? ⟨b, 10, none⟩ = false ∧ w.frozen? ⟨b, 11, none⟩ = false ∧ w.frozen? ⟨b, 12, none⟩ = false ∧ w.frozen? ⟨b, 13, none⟩ = false ∧ w.frozen? ⟨b, 14, none⟩ = false ∧ w.frozen? ⟨b, 15, none⟩ = false ∧ w.frozen? ⟨b, 16, none⟩ = false ∧ w.frozen? ⟨b, 17, none⟩ = false ∧ w.frozen? ⟨b, 18, none⟩ = false ∧ w.frozen? ⟨b, 19, none⟩ = false :=
  ⟨h.f 0 rfl, h.f 1 rfl, h.f 2 rfl, h.f 3 rfl, h.f 4 rfl, h.f 5 rfl, h.f 6 rfl, h.f 7 rfl, h.f 8 rfl, h.f 9 rfl, h.f 10 rfl, h.f 11 rfl, h.f 12 rfl, h.f 13 rfl, h.f 14 rfl, h.f 15 rfl, h.f 16 rfl, h.f 17 rfl, h.f 18 rfl, h.f 19 rfl⟩
end Go.Proofs.Ytbmocnigmpmfkaa
