/- Variables of two, four and twelve cells. -/
import Derived.Test.YtcbelhalckehcaaW0
namespace Go.Proofs.Ytcbelhalckehcaa
open Go.RowKit
/-- 2 cells of a variable, which may be written -/
def H2 (w : World) (b : Nat) (v0 v1 : Value) : Prop :=
  w.cell? ⟨b, 0, none⟩ = some v0 ∧ w.cell? ⟨b, 1, none⟩ = some v1 ∧
  w.frozen? ⟨b, 0, none⟩ = false ∧ w.frozen? ⟨b, 1, none⟩ = false ∧ b < w.heap.size
theorem H2.ext {w w' : World} {b : Nat} {v0 v1 : Value} (h : H2 w b v0 v1) (hx : Ext w w') : H2 w' b v0 v1 := by
  obtain ⟨c0, c1, f0, f1, hb⟩ := h
  obtain ⟨hc, hf, hs⟩ := hx.lay
  exact ⟨(hc _ _ hb).trans c0, (hc _ _ hb).trans c1, (hf _ _ hb).trans f0, (hf _ _ hb).trans f1, by omega⟩
theorem h2_at {w : World} {b : Nat} {v0 v1 : Value} {T : TypeId} (h : w.heap.size = b) : H2 (w.alloc (.cells #[v0, v1] T)) b v0 v1 := by
  subst h
  refine ⟨?_, ?_, ?_, ?_, ?_⟩ <;> simp [go_sem]
theorem H2.alloc {w : World} {b : Nat} {v0 v1 : Value} (h : H2 w b v0 v1) (o : Obj) : H2 (w.alloc o) b v0 v1 := h.ext ((Ext.refl _).alloc o)
theorem H2.drew {w : World} {b : Nat} {v0 v1 : Value} (h : H2 w b v0 v1) : H2 w.drew b v0 v1 := h.ext (Ext.refl _).drew
theorem H2.far {w : World} {b g o : Nat} {v0 v1 y : Value} (h : H2 w b v0 v1) (hb : b ≠ g) : H2 (w.setCell ⟨g, o, none⟩ y) b v0 v1 := by
  obtain ⟨c0, c1, f0, f1, hz⟩ := h
  have k : ∀ i, (w.setCell ⟨g, o, none⟩ y).cell? ⟨b, i, none⟩ = w.cell? ⟨b, i, none⟩ := fun i => World.cell?_setCell_other _ _ _ _ (by intro e; have := congrArg Addr.block e; dsimp only at this; omega)
  refine ⟨(k _).trans c0, (k _).trans c1, ?_, ?_, ?_⟩ <;> simp [go_sem, f0, f1, hz]
theorem H2.far3 {w : World} {b g o o' o'' : Nat} {v0 v1 p q r : Value} (h : H2 w b v0 v1) (hb : b ≠ g) : H2 (((w.setCell ⟨g, o, none⟩ p).setCell ⟨g, o', none⟩ q).setCell ⟨g, o'', none⟩ r) b v0 v1 := ((h.far hb).far hb).far hb
/-- 4 cells of a variable, which may be written -/
def H4 (w : World) (b : Nat) (v0 v1 v2 v3 : Value) : Prop :=
  w.cell? ⟨b, 0, none⟩ = some v0 ∧ w.cell? ⟨b, 1, none⟩ = some v1 ∧ w.cell? ⟨b, 2, none⟩ = some v2 ∧ w.cell? ⟨b, 3, none⟩ = some v3 ∧
  w.frozen? ⟨b, 0, none⟩ = false ∧ w.frozen? ⟨b, 1, none⟩ = false ∧ w.frozen? ⟨b, 2, none⟩ = false ∧ w.frozen? ⟨b, 3, none⟩ = false ∧ b < w.heap.size
theorem H4.ext {w w' : World} {b : Nat} {v0 v1 v2 v3 : Value} (h : H4 w b v0 v1 v2 v3) (hx : Ext w w') : H4 w' b v0 v1 v2 v3 := by
  obtain ⟨c0, c1, c2, c3, f0, f1, f2, f3, hb⟩ := h
  obtain ⟨hc, hf, hs⟩ := hx.lay
  exact ⟨(hc _ _ hb).trans c0, (hc _ _ hb).trans c1, (hc _ _ hb).trans c2, (hc _ _ hb).trans c3, (hf _ _ hb).trans f0, (hf _ _ hb).trans f1, (hf _ _ hb).trans f2, (hf _ _ hb).trans f3, by omega⟩
theorem h4_at {w : World} {b : Nat} {v0 v1 v2 v3 : Value} {T : TypeId} (h : w.heap.size = b) : H4 (w.alloc (.cells #[v0, v1, v2, v3] T)) b v0 v1 v2 v3 := by
  subst h
  refine ⟨?_, ?_, ?_, ?_, ?_, ?_, ?_, ?_, ?_⟩ <;> simp [go_sem]
theorem H4.alloc {w : World} {b : Nat} {v0 v1 v2 v3 : Value} (h : H4 w b v0 v1 v2 v3) (o : Obj) : H4 (w.alloc o) b v0 v1 v2 v3 := h.ext ((Ext.refl _).alloc o)
theorem H4.drew {w : World} {b : Nat} {v0 v1 v2 v3 : Value} (h : H4 w b v0 v1 v2 v3) : H4 w.drew b v0 v1 v2 v3 := h.ext (Ext.refl _).drew
theorem H4.far {w : World} {b g o : Nat} {v0 v1 v2 v3 y : Value} (h : H4 w b v0 v1 v2 v3) (hb : b ≠ g) : H4 (w.setCell ⟨g, o, none⟩ y) b v0 v1 v2 v3 := by
  obtain ⟨c0, c1, c2, c3, f0, f1, f2, f3, hz⟩ := h
  have k : ∀ i, (w.setCell ⟨g, o, none⟩ y).cell? ⟨b, i, none⟩ = w.cell? ⟨b, i, none⟩ := fun i => World.cell?_setCell_other _ _ _ _ (by intro e; have := congrArg Addr.block e; dsimp only at this; omega)
  refine ⟨(k _).trans c0, (k _).trans c1, (k _).trans c2, (k _).trans c3, ?_, ?_, ?_, ?_, ?_⟩ <;> simp [go_sem, f0, f1, f2, f3, hz]
theorem H4.far3 {w : World} {b g o o' o'' : Nat} {v0 v1 v2 v3 p q r : Value} (h : H4 w b v0 v1 v2 v3) (hb : b ≠ g) : H4 (((w.setCell ⟨g, o, none⟩ p).setCell ⟨g, o', none⟩ q).setCell ⟨g, o'', none⟩ r) b v0 v1 v2 v3 := ((h.far hb).far hb).far hb
theorem H4.set0 {w : World} {b : Nat} {v0 v1 v2 v3 : Value} (h : H4 w b v0 v1 v2 v3) (y : Value) : H4 (w.setCell ⟨b, 0, none⟩ y) b y v1 v2 v3 := by
  obtain ⟨c0, c1, c2, c3, f0, f1, f2, f3, hb⟩ := h
  refine ⟨?_, ?_, ?_, ?_, ?_, ?_, ?_, ?_, ?_⟩ <;> simp [go_sem, c0, c1, c2, c3, f0, f1, f2, f3, hb]
theorem H4.set1 {w : World} {b : Nat} {v0 v1 v2 v3 : Value} (h : H4 w b v0 v1 v2 v3) (y : Value) : H4 (w.setCell ⟨b, 1, none⟩ y) b v0 y v2 v3 := by
  obtain ⟨c0, c1, c2, c3, f0, f1, f2, f3, hb⟩ := h
  refine ⟨?_, ?_, ?_, ?_, ?_, ?_, ?_, ?_, ?_⟩ <;> simp [go_sem, c0, c1, c2, c3, f0, f1, f2, f3, hb]
theorem H4.set2 {w : World} {b : Nat} {v0 v1 v2 v3 : Value} (h : H4 w b v0 v1 v2 v3) (y : Value) : H4 (w.setCell ⟨b, 2, none⟩ y) b v0 v1 y v3 := by
  obtain ⟨c0, c1, c2, c3, f0, f1, f2, f3, hb⟩ := h
  refine ⟨?_, ?_, ?_, ?_, ?_, ?_, ?_, ?_, ?_⟩ <;> simp [go_sem, c0, c1, c2, c3, f0, f1, f2, f3, hb]
theorem H4.set3 {w : World} {b : Nat} {v0 v1 v2 v3 : Value} (h : H4 w b v0 v1 v2 v3) (y : Value) : H4 (w.setCell ⟨b, 3, none⟩ y) b v0 v1 v2 y := by
  obtain ⟨c0, c1, c2, c3, f0, f1, f2, f3, hb⟩ := h
  refine ⟨?_, ?_, ?_, ?_, ?_, ?_, ?_, ?_, ?_⟩ <;> simp [go_sem, c0, c1, c2, c3, f0, f1, f2, f3, hb]
/-- 12 cells of a variable, which may be written -/
def H12 (w : World) (b : Nat) (v0 v1 v2 v3 v4 v5 v6 v7 v8 v9 v10 v11 : Value) : Prop :=
  w.cell? ⟨b, 0, none⟩ = some v0 ∧ w.cell? ⟨b, 1, none⟩ = some v1 ∧ w.cell? ⟨b, 2, none⟩ = some v2 ∧ w.cell? ⟨b, 3, none⟩ = some v3 ∧ w.cell? ⟨b, 4, none⟩ = some v4 ∧ w.cell? ⟨b, 5, none⟩ = some v5 ∧ w.cell? ⟨b, 6, none⟩ = some v6 ∧ w.cell? ⟨b, 7, none⟩ = some v7 ∧ w.cell? ⟨b, 8, none⟩ = some v8 ∧ w.cell? ⟨b, 9, none⟩ = some v9 ∧ w.cell? ⟨b, 10, none⟩ = some v10 ∧ w.cell? ⟨b, 11, none⟩ = some v11 ∧
  w.frozen? ⟨b, 0, none⟩ = false ∧ w.frozen? ⟨b, 1, none⟩ = false ∧ w.frozen? ⟨b, 2, none⟩ = false ∧ w.frozen? ⟨b, 3, none⟩ = false ∧ w.frozen? ⟨b, 4, none⟩ = false ∧ w.frozen? ⟨b, 5, none⟩ = false ∧ w.frozen? ⟨b, 6, none⟩ = false ∧ w.frozen? ⟨b, 7, none⟩ = false ∧ w.frozen? ⟨b, 8, none⟩ = false ∧ w.frozen? ⟨b, 9, none⟩ = false ∧ w.frozen? ⟨b, 10, none⟩ = false ∧ w.frozen? ⟨b, 11, none⟩ = false ∧ b < w.heap.size
theorem H12.ext {w w' : World} {b : Nat} {v0 v1 v2 v3 v4 v5 v6 v7 v8 v9 v10 v11 : Value} (h : H12 w b v0 v1 v2 v3 v4 v5 v6 v7 v8 v9 v10 v11) (hx : Ext w w') : H12 w' b v0 v1 v2 v3 v4 v5 v6 v7 v8 v9 v10 v11 := by
  obtain ⟨c0, c1, c2, c3, c4, c5, c6, c7, c8, c9, c10, c11, f0, f1, f2, f3, f4, f5, f6, f7, f8, f9, f10, f11, hb⟩ := h
  obtain ⟨hc, hf, hs⟩ := hx.lay
  exact ⟨(hc _ _ hb).trans c0, (hc _ _ hb).trans c1, (hc _ _ hb).trans c2, (hc _ _ hb).trans c3, (hc _ _ hb).trans c4, (hc _ _ hb).trans c5, (hc _ _ hb).trans c6, (hc _ _ hb).trans c7, (hc _ _ hb).trans c8, (hc _ _ hb).trans c9, (hc _ _ hb).trans c10, (hc _ _ hb).trans c11, (hf _ _ hb).trans f0, (hf _ _ hb).trans f1, (hf _ _ hb).trans f2, (hf _ _ hb).trans f3, (hf _ _ hb).trans f4, (hf _ _ hb).trans f5, (hf _ _ hb).trans f6, (hf _ _ hb).trans f7, (hf _ _ hb).trans f8, (hf _ _ hb).trans f9, (hf _ _ hb).trans f10, (hf _ _ hb).trans f11, by omega⟩
theorem h12_at {w : World} {b : Nat} {v0 v1 v2 v3 v4 v5 v6 v7 v8 v9 v10 v11 : Value} {T : TypeId} (h : w.heap.size = b) : H12 (w.alloc (.cells #[v0, v1, v2, v3, v4, v5, v6, v7, v8, v9, v10, v11] T)) b v0 v1 v2 v3 v4 v5 v6 v7 v8 v9 v10 v11 := by
  subst h
  refine ⟨?_, ?_, ?_, ?_, ?_, ?_, ?_, ?_, ?_, ?_, ?_, ?_, ?_, ?_, ?_, ?_, ?_, ?_, ?_, ?_, ?_, ?_, ?_, ?_, ?_⟩ <;> simp [go_sem]
theorem H12.alloc {w : World} {b : Nat} {v0 v1 v2 v3 v4 v5 v6 v7 v8 v9 v10 v11 : Value} (h : H12 w b v0 v1 v2 v3 v4 v5 v6 v7 v8 v9 v10 v11) (o : Obj) : H12 (w.alloc o) b v0 v1 v2 v3 v4 v5 v6 v7 v8 v9 v10 v11 := h.ext ((Ext.refl _).alloc o)
theorem H12.drew {w : World} {b : Nat} {v0 v1 v2 v3 v4 v5 v6 v7 v8 v9 v10 v11 : Value} (h : H12 w b v0 v1 v2 v3 v4 v5 v6 v7 v8 v9 v10 v11) : H12 w.drew b v0 v1 v2 v3 v4 v5 v6 v7 v8 v9 v10 v11 := h.ext (Ext.refl _).drew
theorem H12.far {w : World} {b g o : Nat} {v0 v1 v2 v3 v4 v5 v6 v7 v8 v9 v10 v11 y : Value} (h : H12 w b v0 v1 v2 v3 v4 v5 v6 v7 v8 v9 v10 v11) (hb : b ≠ g) : H12 (w.setCell ⟨g, o, none⟩ y) b v0 v1 v2 v3 v4 v5 v6 v7 v8 v9 v10 v11 := by
  obtain ⟨c0, c1, c2, c3, c4, c5, c6, c7, c8, c9, c10, c11, f0, f1, f2, f3, f4, f5, f6, f7, f8, f9, f10, f11, hz⟩ := h
  have k : ∀ i, (w.setCell ⟨g, o, none⟩ y).cell? ⟨b, i, none⟩ = w.cell? ⟨b, i, none⟩ := fun i => World.cell?_setCell_other _ _ _ _ (by intro e; have := congrArg Addr.block e; dsimp only at this; omega)
  refine ⟨(k _).trans c0, (k _).trans c1, (k _).trans c2, (k _).trans c3, (k _).trans c4, (k _).trans c5, (k _).trans c6, (k _).trans c7, (k _).trans c8, (k _).trans c9, (k _).trans c10, (k _).trans c11, ?_, ?_, ?_, ?_, ?_, ?_, ?_, ?_, ?_, ?_, ?_, ?_, ?_⟩ <;> simp [go_sem, f0, f1, f2, f3, f4, f5, f6, f7, f8, f9, f10, f11, hz]
theorem H12.far3 {w : World} {b g o o' o'' : Nat} {v0 v1 v2 v3 v4 v5 v6 v7 v8 v9 v10 v11 p q r : Value} (h : H12 w b v0 v1 v2 v3 v4 v5 v6 v7 v8 v9 v10 v11) (hb : b ≠ g) : H12 (((w.setCell ⟨g, o, none⟩ p).setCell ⟨g, o', none⟩ q).setCell ⟨g, o'', none⟩ r) b v0 v1 v2 v3 v4 v5 v6 v7 v8 v9 v10 v11 := ((h.far hb).far hb).far hb
theorem H12.put0 {w : World} {b : Nat} {v0 v1 v2 v3 v4 v5 v6 v7 v8 v9 v10 v11 : Value} (h : H12 w b v0 v1 v2 v3 v4 v5 v6 v7 v8 v9 v10 v11) (x y z : Value) : H12 (((w.setCell ⟨b, 0, none⟩ x).setCell ⟨b, 1, none⟩ y).setCell ⟨b, 2, none⟩ z) b x y z v3 v4 v5 v6 v7 v8 v9 v10 v11 := by
  obtain ⟨c0, c1, c2, c3, c4, c5, c6, c7, c8, c9, c10, c11, f0, f1, f2, f3, f4, f5, f6, f7, f8, f9, f10, f11, hb⟩ := h
  refine ⟨?_, ?_, ?_, ?_, ?_, ?_, ?_, ?_, ?_, ?_, ?_, ?_, ?_, ?_, ?_, ?_, ?_, ?_, ?_, ?_, ?_, ?_, ?_, ?_, ?_⟩ <;> simp [go_sem, c0, c1, c2, c3, c4, c5, c6, c7, c8, c9, c10, c11, f0, f1, f2, f3, f4, f5, f6, f7, f8, f9, f10, f11, hb]
theorem H12.put1 {w : World} {b : Nat} {v0 v1 v2 v3 v4 v5 v6 v7 v8 v9 v10 v11 : Value} (h : H12 w b v0 v1 v2 v3 v4 v5 v6 v7 v8 v9 v10 v11) (x y z : Value) : H12 (((w.setCell ⟨b, 3, none⟩ x).setCell ⟨b, 4, none⟩ y).setCell ⟨b, 5, none⟩ z) b v0 v1 v2 x y z v6 v7 v8 v9 v10 v11 := by
  obtain ⟨c0, c1, c2, c3, c4, c5, c6, c7, c8, c9, c10, c11, f0, f1, f2, f3, f4, f5, f6, f7, f8, f9, f10, f11, hb⟩ := h
  refine ⟨?_, ?_, ?_, ?_, ?_, ?_, ?_, ?_, ?_, ?_, ?_, ?_, ?_, ?_, ?_, ?_, ?_, ?_, ?_, ?_, ?_, ?_, ?_, ?_, ?_⟩ <;> simp [go_sem, c0, c1, c2, c3, c4, c5, c6, c7, c8, c9, c10, c11, f0, f1, f2, f3, f4, f5, f6, f7, f8, f9, f10, f11, hb]
theorem H12.put2 {w : World} {b : Nat} {v0 v1 v2 v3 v4 v5 v6 v7 v8 v9 v10 v11 : Value} (h : H12 w b v0 v1 v2 v3 v4 v5 v6 v7 v8 v9 v10 v11) (x y z : Value) : H12 (((w.setCell ⟨b, 6, none⟩ x).setCell ⟨b, 7, none⟩ y).setCell ⟨b, 8, none⟩ z) b v0 v1 v2 v3 v4 v5 x y z v9 v10 v11 := by
  obtain ⟨c0, c1, c2, c3, c4, c5, c6, c7, c8, c9, c10, c11, f0, f1, f2, f3, f4, f5, f6, f7, f8, f9, f10, f11, hb⟩ := h
  refine ⟨?_, ?_, ?_, ?_, ?_, ?_, ?_, ?_, ?_, ?_, ?_, ?_, ?_, ?_, ?_, ?_, ?_, ?_, ?_, ?_, ?_, ?_, ?_, ?_, ?_⟩ <;> simp [go_sem, c0, c1, c2, c3, c4, c5, c6, c7, c8, c9, c10, c11, f0, f1, f2, f3, f4, f5, f6, f7, f8, f9, f10, f11, hb]
theorem H12.put3 {w : World} {b : Nat} {v0 v1 v2 v3 v4 v5 v6 v7 v8 v9 v10 v11 : Value} (h : H12 w b v0 v1 v2 v3 v4 v5 v6 v7 v8 v9 v10 v11) (x y z : Value) : H12 (((w.setCell ⟨b, 9, none⟩ x).setCell ⟨b, 10, none⟩ y).setCell ⟨b, 11, none⟩ z) b v0 v1 v2 v3 v4 v5 v6 v7 v8 x y z := by
  obtain ⟨c0, c1, c2, c3, c4, c5, c6, c7, c8, c9, c10, c11, f0, f1, f2, f3, f4, f5, f6, f7, f8, f9, f10, f11, hb⟩ := h
  refine ⟨?_, ?_, ?_, ?_, ?_, ?_, ?_, ?_, ?_, ?_, ?_, ?_, ?_, ?_, ?_, ?_, ?_, ?_, ?_, ?_, ?_, ?_, ?_, ?_, ?_⟩ <;> simp [go_sem, c0, c1, c2, c3, c4, c5, c6, c7, c8, c9, c10, c11, f0, f1, f2, f3, f4, f5, f6, f7, f8, f9, f10, f11, hb]
end Go.Proofs.Ytcbelhalckehcaa
