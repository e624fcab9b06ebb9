/- Variables of two, four and twelve cells. quat: of, asQuat, conj, rows, check, Check. quat: product of words. quat: product of words and wide numbers. -/
import Derived.Test.YtoeecldhbabmbaaGreatMg0
import Derived.Test.YtoeecldhbabmbaaGreatMg2
import Derived.Test.YtoeecldhbabmbaaGreatMg1
open Go.Value renaming int → J, agg → zG
open Go.IntKind renaming i64 → zq, u64 → zu
open Go.Ending renaming returned → zR
open Go.Proofs.Tryz renaming prog → zP
namespace Go.Proofs.YtoeecldhbabmbaaGreat
open Go.RowKit
def H2 (w : World) (b : Nat) (v0 v1 : Value) : Prop :=
  w.cell? ⟨b, 0, none⟩ = some v0 ∧ w.cell? ⟨b, 1, none⟩ = some v1 ∧
  w.frozen? ⟨b, 0, none⟩ = false ∧ w.frozen? ⟨b, 1, none⟩ = false ∧ b < w.heap.size
theorem H2.ext {w w' : World} {b : Nat} {v0 v1 : Value} (h : H2 w b v0 v1) (hx : Ext w w') : H2 w' b v0 v1 := by
  obtain ⟨c0, c1, f0, f1, hb⟩ := h
  obtain ⟨hc, hf, hs⟩ := hx.lay
  exact ⟨(hc _ _ hb).trans c0, (hc _ _ hb).trans c1, (hf _ _ hb).trans f0, (hf _ _ hb).trans f1, by omega⟩
theorem h2_at {w : World} {b : Nat} {v0 v1 : Value} {T : TypeId} (h : w.heap.size = b) : H2 (w.alloc (.cells #[v0, v1] T)) b v0 v1 := by
  subst h
  refine ⟨?_, ?_, ?_, ?_, ?_⟩ <;> simp [go_sem]
theorem H2.alloc {w : World} {b : Nat} {v0 v1 : Value} (h : H2 w b v0 v1) (o : Obj) : H2 (w.alloc o) b v0 v1 := h.ext ((Ext.refl _).alloc o)
theorem H2.drew {w : World} {b : Nat} {v0 v1 : Value} (h : H2 w b v0 v1) : H2 w.drew b v0 v1 := h.ext (Ext.refl _).drew
theorem H2.far {w : World} {b g o : Nat} {v0 v1 y : Value} (h : H2 w b v0 v1) (hb : b ≠ g) : H2 (w.setCell ⟨g, o, none⟩ y) b v0 v1 := by
  obtain ⟨c0, c1, f0, f1, hz⟩ := h
  have k : ∀ i, (w.setCell ⟨g, o, none⟩ y).cell? ⟨b, i, none⟩ = w.cell? ⟨b, i, none⟩ := fun i => World.cell?_setCell_other _ _ _ _ (by intro e; have := congrArg Addr.block e; dsimp only at this; omega)
  refine ⟨(k _).trans c0, (k _).trans c1, ?_, ?_, ?_⟩ <;> simp [go_sem, f0, f1, hz]
theorem H2.far3 {w : World} {b g o o' o'' : Nat} {v0 v1 p q r : Value} (h : H2 w b v0 v1) (hb : b ≠ g) : H2 (((w.setCell ⟨g, o, none⟩ p).setCell ⟨g, o', none⟩ q).setCell ⟨g, o'', none⟩ r) b v0 v1 := ((h.far hb).far hb).far hb
def H4 (w : World) (b : Nat) (v0 v1 v2 v3 : Value) : Prop :=
  w.cell? ⟨b, 0, none⟩ = some v0 ∧ w.cell? ⟨b, 1, none⟩ = some v1 ∧ w.cell? ⟨b, 2, none⟩ = some v2 ∧ w.cell? ⟨b, 3, none⟩ = some v3 ∧
  w.frozen? ⟨b, 0, none⟩ = false ∧ w.frozen? ⟨b, 1, none⟩ = false ∧ w.frozen? ⟨b, 2, none⟩ = false ∧ w.frozen? ⟨b, 3, none⟩ = false ∧ b < w.heap.size
theorem H4.ext {w w' : World} {b : Nat} {v0 v1 v2 v3 : Value} (h : H4 w b v0 v1 v2 v3) (hx : Ext w w') : H4 w' b v0 v1 v2 v3 := by
  obtain ⟨c0, c1, c2, c3, f0, f1, f2, f3, hb⟩ := h
  obtain ⟨hc, hf, hs⟩ := hx.lay
  exact ⟨(hc _ _ hb).trans c0, (hc _ _ hb).trans c1, (hc _ _ hb).trans c2, (hc _ _ hb).trans c3, (hf _ _ hb).trans f0, (hf _ _ hb).trans f1, (hf _ _ hb).trans f2, (hf _ _ hb).trans f3, by omega⟩
theorem h4_at {w : World} {b : Nat} {v0 v1 v2 v3 : Value} {T : TypeId} (h : w.heap.size = b) : H4 (w.alloc (.cells #[v0, v1, v2, v3] T)) b v0 v1 v2 v3 := by
  subst h
  refine ⟨?_, ?_, ?_, ?_, ?_, ?_, ?_, ?_, ?_⟩ <;> simp [go_sem]
theorem H4.alloc {w : World} {b : Nat} {v0 v1 v2 v3 : Value} (h : H4 w b v0 v1 v2 v3) (o : Obj) : H4 (w.alloc o) b v0 v1 v2 v3 := h.ext ((Ext.refl _).alloc o)
theorem H4.drew {w : World} {b : Nat} {v0 v1 v2 v3 : Value} (h : H4 w b v0 v1 v2 v3) : H4 w.drew b v0 v1 v2 v3 := h.ext (Ext.refl _).drew
theorem H4.far {w : World} {b g o : Nat} {v0 v1 v2 v3 y : Value} (h : H4 w b v0 v1 v2 v3) (hb : b ≠ g) : H4 (w.setCell ⟨g, o, none⟩ y) b v0 v1 v2 v3 := by
  obtain ⟨c0, c1, c2, c3, f0, f1, f2, f3, hz⟩ := h
  have k : ∀ i, (w.setCell ⟨g, o, none⟩ y).cell? ⟨b, i, none⟩ = w.cell? ⟨b, i, none⟩ := fun i => World.cell?_setCell_other _ _ _ _ (by intro e; have := congrArg Addr.block e; dsimp only at this; omega)
  refine ⟨(k _).trans c0, (k _).trans c1, (k _).trans c2, (k _).trans c3, ?_, ?_, ?_, ?_, ?_⟩ <;> simp [go_sem, f0, f1, f2, f3, hz]
theorem H4.far3 {w : World} {b g o o' o'' : Nat} {v0 v1 v2 v3 p q r : Value} (h : H4 w b v0 v1 v2 v3) (hb : b ≠ g) : H4 (((w.setCell ⟨g, o, none⟩ p).setCell ⟨g, o', none⟩ q).setCell ⟨g, o'', none⟩ r) b v0 v1 v2 v3 := ((h.far hb).far hb).far hb
theorem H4.set0 {w : World} {b : Nat} {v0 v1 v2 v3 : Value} (h : H4 w b v0 v1 v2 v3) (y : Value) : H4 (w.setCell ⟨b, 0, none⟩ y) b y v1 v2 v3 := by
  obtain ⟨c0, c1, c2, c3, f0, f1, f2, f3, hb⟩ := h
  refine ⟨?_, ?_, ?_, ?_, ?_, ?_, ?_, ?_, ?_⟩ <;> simp [go_sem, c0, c1, c2, c3, f0, f1, f2, f3, hb]
theorem H4.set1 {w : World} {b : Nat} {v0 v1 v2 v3 : Value} (h : H4 w b v0 v1 v2 v3) (y : Value) : H4 (w.setCell ⟨b, 1, none⟩ y) b v0 y v2 v3 := by
  obtain ⟨c0, c1, c2, c3, f0, f1, f2, f3, hb⟩ := h
  refine ⟨?_, ?_, ?_, ?_, ?_, ?_, ?_, ?_, ?_⟩ <;> simp [go_sem, c0, c1, c2, c3, f0, f1, f2, f3, hb]
theorem H4.set2 {w : World} {b : Nat} {v0 v1 v2 v3 : Value} (h : H4 w b v0 v1 v2 v3) (y : Value) : H4 (w.setCell ⟨b, 2, none⟩ y) b v0 v1 y v3 := by
  obtain ⟨c0, c1, c2, c3, f0, f1, f2, f3, hb⟩ := h
  refine ⟨?_, ?_, ?_, ?_, ?_, ?_, ?_, ?_, ?_⟩ <;> simp [go_sem, c0, c1, c2, c3, f0, f1, f2, f3, hb]
theorem H4.set3 {w : World} {b : Nat} {v0 v1 v2 v3 : Value} (h : H4 w b v0 v1 v2 v3) (y : Value) : H4 (w.setCell ⟨b, 3, none⟩ y) b v0 v1 v2 y := by
  obtain ⟨c0, c1, c2, c3, f0, f1, f2, f3, hb⟩ := h
  refine ⟨?_, ?_, ?_, ?_, ?_, ?_, ?_, ?_, ?_⟩ <;> simp [go_sem, c0, c1, c2, c3, f0, f1, f2, f3, hb]
def H12 (w : World) (b : Nat) (v0 v1 v2 v3 v4 v5 v6 v7 v8 v9 v10 v11 : Value) : Prop :=
  w.cell? ⟨b, 0, none⟩ = some v0 ∧ w.cell? ⟨b, 1, none⟩ = some v1 ∧ w.cell? ⟨b, 2, none⟩ = some v2 ∧ w.cell? ⟨b, 3, none⟩ = some v3 ∧ w.cell? ⟨b, 4, none⟩ = some v4 ∧ w.cell? ⟨b, 5, none⟩ = some v5 ∧ w.cell? ⟨b, 6, none⟩ = some v6 ∧ w.cell? ⟨b, 7, none⟩ = some v7 ∧ w.cell? ⟨b, 8, none⟩ = some v8 ∧ w.cell? ⟨b, 9, none⟩ = some v9 ∧ w.cell? ⟨b, 10, none⟩ = some v10 ∧ w.cell? ⟨b, 11, none⟩ = some v11 ∧
  w.frozen? ⟨b, 0, none⟩ = false ∧ w.frozen? ⟨b, 1, none⟩ = false ∧ w.frozen? ⟨b, 2, none⟩ = false ∧ w.frozen? ⟨b, 3, none⟩ = false ∧ w.frozen? ⟨b, 4, none⟩ = false ∧ w.frozen? ⟨b, 5, none⟩ = false ∧ w.frozen? ⟨b, 6, none⟩ = false ∧ w.frozen? ⟨b, 7, none⟩ = false ∧ w.frozen? ⟨b, 8, none⟩ = false ∧ w.frozen? ⟨b, 9, none⟩ = false ∧ w.frozen? ⟨b, 10, none⟩ = false ∧ w.frozen? ⟨b, 11, none⟩ = false ∧ b < w.heap.size
theorem H12.ext {w w' : World} {b : Nat} {v0 v1 v2 v3 v4 v5 v6 v7 v8 v9 v10 v11 : Value} (h : H12 w b v0 v1 v2 v3 v4 v5 v6 v7 v8 v9 v10 v11) (hx : Ext w w') : H12 w' b v0 v1 v2 v3 v4 v5 v6 v7 v8 v9 v10 v11 := by
  obtain ⟨c0, c1, c2, c3, c4, c5, c6, c7, c8, c9, c10, c11, f0, f1, f2, f3, f4, f5, f6, f7, f8, f9, f10, f11, hb⟩ := h
  obtain ⟨hc, hf, hs⟩ := hx.lay
  exact ⟨(hc _ _ hb).trans c0, (hc _ _ hb).trans c1, (hc _ _ hb).trans c2, (hc _ _ hb).trans c3, (hc _ _ hb).trans c4, (hc _ _ hb).trans c5, (hc _ _ hb).trans c6, (hc _ _ hb).trans c7, (hc _ _ hb).trans c8, (hc _ _ hb).trans c9, (hc _ _ hb).trans c10, (hc _ _ hb).trans c11, (hf _ _ hb).trans f0, (hf _ _ hb).trans f1, (hf _ _ hb).trans f2, (hf _ _ hb).trans f3, (hf _ _ hb).trans f4, (hf _ _ hb).trans f5, (hf _ _ hb).trans f6, (hf _ _ hb).trans f7, (hf _ _ hb).trans f8, (hf _ _ hb).trans f9, (hf _ _ hb).trans f10, (hf _ _ hb).trans f11, by omega⟩
theorem h12_at {w : World} {b : Nat} {v0 v1 v2 v3 v4 v5 v6 v7 v8 v9 v10 v11 : Value} {T : TypeId} (h : w.heap.size = b) : H12 (w.alloc (.cells #[v0, v1, v2, v3, v4, v5, v6, v7, v8, v9, v10, v11] T)) b v0 v1 v2 v3 v4 v5 v6 v7 v8 v9 v10 v11 := by
  subst h
  refine ⟨?_, ?_, ?_, ?_, ?_, ?_, ?_, ?_, ?_, ?_, ?_, ?_, ?_, ?_, ?_, ?_, ?_, ?_, ?_, ?_, ?_, ?_, ?_, ?_, ?_⟩ <;> simp [go_sem]
theorem H12.alloc {w : World} {b : Nat} {v0 v1 v2 v3 v4 v5 v6 v7 v8 v9 v10 v11 : Value} (h : H12 w b v0 v1 v2 v3 v4 v5 v6 v7 v8 v9 v10 v11) (o : Obj) : H12 (w.alloc o) b v0 v1 v2 v3 v4 v5 v6 v7 v8 v9 v10 v11 := h.ext ((Ext.refl _).alloc o)
theorem H12.drew {w : World} {b : Nat} {v0 v1 v2 v3 v4 v5 v6 v7 v8 v9 v10 v11 : Value} (h : H12 w b v0 v1 v2 v3 v4 v5 v6 v7 v8 v9 v10 v11) : H12 w.drew b v0 v1 v2 v3 v4 v5 v6 v7 v8 v9 v10 v11 := h.ext (Ext.refl _).drew
theorem H12.far {w : World} {b g o : Nat} {v0 v1 v2 v3 v4 v5 v6 v7 v8 v9 v10 v11 y : Value} (h : H12 w b v0 v1 v2 v3 v4 v5 v6 v7 v8 v9 v10 v11) (hb : b ≠ g) : H12 (w.setCell ⟨g, o, none⟩ y) b v0 v1 v2 v3 v4 v5 v6 v7 v8 v9 v10 v11 := by
  obtain ⟨c0, c1, c2, c3, c4, c5, c6, c7, c8, c9, c10, c11, f0, f1, f2, f3, f4, f5, f6, f7, f8, f9, f10, f11, hz⟩ := h
  have k : ∀ i, (w.setCell ⟨g, o, none⟩ y).cell? ⟨b, i, none⟩ = w.cell? ⟨b, i, none⟩ := fun i => World.cell?_setCell_other _ _ _ _ (by intro e; have := congrArg Addr.block e; dsimp only at this; omega)
  refine ⟨(k _).trans c0, (k _).trans c1, (k _).trans c2, (k _).trans c3, (k _).trans c4, (k _).trans c5, (k _).trans c6, (k _).trans c7, (k _).trans c8, (k _).trans c9, (k _).trans c10, (k _).trans c11, ?_, ?_, ?_, ?_, ?_, ?_, ?_, ?_, ?_, ?_, ?_, ?_, ?_⟩ <;> simp [go_sem, f0, f1, f2, f3, f4, f5, f6, f7, f8, f9, f10, f11, hz]
theorem H12.far3 {w : World} {b g o o' o'' : Nat} {v0 v1 v2 v3 v4 v5 v6 v7 v8 v9 v10 v11 p q r : Value} (h : H12 w b v0 v1 v2 v3 v4 v5 v6 v7 v8 v9 v10 v11) (hb : b ≠ g) : H12 (((w.setCell ⟨g, o, none⟩ p).setCell ⟨g, o', none⟩ q).setCell ⟨g, o'', none⟩ r) b v0 v1 v2 v3 v4 v5 v6 v7 v8 v9 v10 v11 := ((h.far hb).far hb).far hb
theorem H12.put0 {w : World} {b : Nat} {v0 v1 v2 v3 v4 v5 v6 v7 v8 v9 v10 v11 : Value} (h : H12 w b v0 v1 v2 v3 v4 v5 v6 v7 v8 v9 v10 v11) (x y z : Value) : H12 (((w.setCell ⟨b, 0, none⟩ x).setCell ⟨b, 1, none⟩ y).setCell ⟨b, 2, none⟩ z) b x y z v3 v4 v5 v6 v7 v8 v9 v10 v11 := by
  obtain ⟨c0, c1, c2, c3, c4, c5, c6, c7, c8, c9, c10, c11, f0, f1, f2, f3, f4, f5, f6, f7, f8, f9, f10, f11, hb⟩ := h
  refine ⟨?_, ?_, ?_, ?_, ?_, ?_, ?_, ?_, ?_, ?_, ?_, ?_, ?_, ?_, ?_, ?_, ?_, ?_, ?_, ?_, ?_, ?_, ?_, ?_, ?_⟩ <;> simp [go_sem, c0, c1, c2, c3, c4, c5, c6, c7, c8, c9, c10, c11, f0, f1, f2, f3, f4, f5, f6, f7, f8, f9, f10, f11, hb]
theorem H12.put1 {w : World} {b : Nat} {v0 v1 v2 v3 v4 v5 v6 v7 v8 v9 v10 v11 : Value} (h : H12 w b v0 v1 v2 v3 v4 v5 v6 v7 v8 v9 v10 v11) (x y z : Value) : H12 (((w.setCell ⟨b, 3, none⟩ x).setCell ⟨b, 4, none⟩ y).setCell ⟨b, 5, none⟩ z) b v0 v1 v2 x y z v6 v7 v8 v9 v10 v11 := by
  obtain ⟨c0, c1, c2, c3, c4, c5, c6, c7, c8, c9, c10, c11, f0, f1, f2, f3, f4, f5, f6, f7, f8, f9, f10, f11, hb⟩ := h
  refine ⟨?_, ?_, ?_, ?_, ?_, ?_, ?_, ?_, ?_, ?_, ?_, ?_, ?_, ?_, ?_, ?_, ?_, ?_, ?_, ?_, ?_, ?_, ?_, ?_, ?_⟩ <;> simp [go_sem, c0, c1, c2, c3, c4, c5, c6, c7, c8, c9, c10, c11, f0, f1, f2, f3, f4, f5, f6, f7, f8, f9, f10, f11, hb]
theorem H12.put2 {w : World} {b : Nat} {v0 v1 v2 v3 v4 v5 v6 v7 v8 v9 v10 v11 : Value} (h : H12 w b v0 v1 v2 v3 v4 v5 v6 v7 v8 v9 v10 v11) (x y z : Value) : H12 (((w.setCell ⟨b, 6, none⟩ x).setCell ⟨b, 7, none⟩ y).setCell ⟨b, 8, none⟩ z) b v0 v1 v2 v3 v4 v5 x y z v9 v10 v11 := by
  obtain ⟨c0, c1, c2, c3, c4, c5, c6, c7, c8, c9, c10, c11, f0, f1, f2, f3, f4, f5, f6, f7, f8, f9, f10, f11, hb⟩ := h
  refine ⟨?_, ?_, ?_, ?_, ?_, ?_, ?_, ?_, ?_, ?_, ?_, ?_, ?_, ?_, ?_, ?_, ?_, ?_, ?_, ?_, ?_, ?_, ?_, ?_, ?_⟩ <;> simp [go_sem, c0, c1, c2, c3, c4, c5, c6, c7, c8, c9, c10, c11, f0, f1, f2, f3, f4, f5, f6, f7, f8, f9, f10, f11, hb]
theorem H12.put3 {w : World} {b : Nat} {v0 v1 v2 v3 v4 v5 v6 v7 v8 v9 v10 v11 : Value} (h : H12 w b v0 v1 v2 v3 v4 v5 v6 v7 v8 v9 v10 v11) (x y z : Value) : H12 (((w.setCell ⟨b, 9, none⟩ x).setCell ⟨b, 10, none⟩ y).setCell ⟨b, 11, none⟩ z) b v0 v1 v2 v3 v4 v5 v6 v7 v8 x y z := by
  obtain ⟨c0, c1, c2, c3, c4, c5, c6, c7, c8, c9, c10, c11, f0, f1, f2, f3, f4, f5, f6, f7, f8, f9, f10, f11, hb⟩ := h
  refine ⟨?_, ?_, ?_, ?_, ?_, ?_, ?_, ?_, ?_, ?_, ?_, ?_, ?_, ?_, ?_, ?_, ?_, ?_, ?_, ?_, ?_, ?_, ?_, ?_, ?_⟩ <;> simp [go_sem, c0, c1, c2, c3, c4, c5, c6, c7, c8, c9, c10, c11, f0, f1, f2, f3, f4, f5, f6, f7, f8, f9, f10, f11, hb]
open Go.Shelf
def ok4 (a b c d : Int) : Bool := okW a && (okW b && (okW c && okW d))
def chk4 (a b c d : Int) : Int := if ok4 a b c d then 0 else 1
set_option maxRecDepth 20000 in
set_option maxHeartbeats 1000000 in
theorem qof_any (a b c d : Int) (w : World) :
    Calls zP 89 #[zG #[J zq a, J zq b, J zq c, J zq d]] w fun e w' => e = zR (zG #[J zq a, J zq b, J zq c, J zq d]) ∧ Ext w w' := by
  go_enter Tryz.func89, Tryz.ntmps89
  go_wp2_with fail
  exact bodyPost_ret (v := zG #[J zq a, J zq b, J zq c, J zq d]) (by simp [results, Tryz.results89, go_sem]) rfl ⟨rfl, xa⟩
set_option maxRecDepth 20000 in
set_option maxHeartbeats 1000000 in
theorem asQuat_any (a b c d s : Int) (w : World) :
    Calls zP 105 #[zG #[J zq a, J zq b, J zq c, J zq d], J zq s] w fun e w' => e = zR (.tuple #[zG #[J zq a, J zq b, J zq c, J zq d], J zq s]) ∧ Ext w w' := by
  go_enter Tryz.func105, Tryz.ntmps105
  go_wp2_with fail
  exact bodyPost_ret (v := .tuple #[zG #[J zq a, J zq b, J zq c, J zq d], J zq s]) (by simp [results, Tryz.results105, go_sem]) rfl ⟨rfl, xa⟩
set_option maxRecDepth 20000 in
set_option maxHeartbeats 1000000 in
theorem qconj_any (a b c d : Int) (w : World) :
    Calls zP 109 #[zG #[J zq a, J zq b, J zq c, J zq d]] w fun e w' => e = zR (zG #[J zq a, J zq (wrap64 (-b)), J zq (wrap64 (-c)), J zq (wrap64 (-d))]) ∧ Ext w w' := by
  go_enter Tryz.func109, Tryz.ntmps109
  go_wp2_with fail
  exact bodyPost_ret (v := zG #[J zq a, J zq (wrap64 (-b)), J zq (wrap64 (-c)), J zq (wrap64 (-d))]) (by simp [results, Tryz.results109, go_sem]) rfl ⟨rfl, xa⟩
set_option maxRecDepth 20000 in
set_option maxHeartbeats 2000000 in
theorem rows_any (a b c d : Int) (w : World) :
    Calls zP 153 #[zG #[J zq a, J zq b, J zq c, J zq d]] w fun e w' => e = zR (zG #[J zq a, J zq (wrap64 (-b)), J zq (wrap64 (-c)), J zq (wrap64 (-d)), J zq b, J zq a, J zq (wrap64 (-d)), J zq c, J zq c, J zq d, J zq a, J zq (wrap64 (-b)), J zq d, J zq (wrap64 (-c)), J zq b, J zq a]) ∧ Ext w w' := by
  go_enter Tryz.func153, Tryz.ntmps153
  go_wp2_with fail
  go_region
  go_wp2_with fail
  exact bodyPost_ret (v := zG #[J zq a, J zq (wrap64 (-b)), J zq (wrap64 (-c)), J zq (wrap64 (-d)), J zq b, J zq a, J zq (wrap64 (-d)), J zq c, J zq c, J zq d, J zq a, J zq (wrap64 (-b)), J zq d, J zq (wrap64 (-c)), J zq b, J zq a]) (by simp [results, Tryz.results153, go_sem]) rfl ⟨rfl, xa⟩
def IsF (r : Value) (z0 z1 z2 z3 : Int) : Prop := ∃ a0 a1 a2 a3 a4 a5 a6 a7 a8 a9 a10 a11 : Int, r = zG #[J zu a0, J zu a1, J zu a2, J zu a3, J zu a4, J zu a5, J zu a6, J zu a7, J zu a8, J zu a9, J zu a10, J zu a11] ∧
  IsW (zG #[J zu a0, J zu a1, J zu a2]) z0 ∧ IsW (zG #[J zu a3, J zu a4, J zu a5]) z1 ∧ IsW (zG #[J zu a6, J zu a7, J zu a8]) z2 ∧ IsW (zG #[J zu a9, J zu a10, J zu a11]) z3
set_option maxRecDepth 20000 in
set_option maxHeartbeats 8000000 in
theorem productw_raw (p0 p1 p2 p3 q0 q1 q2 q3 r0 r1 r2 r3 r4 r5 r6 r7 r8 r9 r10 r11 r12 r13 r14 r15 S0 S1 S2 S3 : Int) (w : World)
    (HR : Hid (∀ w', Calls zP 153 #[zG #[J zq p0, J zq p1, J zq p2, J zq p3]] w' fun e w'' => e = zR (zG #[J zq r0, J zq r1, J zq r2, J zq r3, J zq r4, J zq r5, J zq r6, J zq r7, J zq r8, J zq r9, J zq r10, J zq r11, J zq r12, J zq r13, J zq r14, J zq r15]) ∧ Ext w' w''))
    (HS0 : Hid (∀ A B w', H4 w' A (J zq q0) (J zq q1) (J zq q2) (J zq q3) → H4 w' B (J zq r0) (J zq r1) (J zq r2) (J zq r3) → Calls zP 154 #[.slice (some ⟨A, 0, none⟩) 4 4, .slice (some ⟨B, 0, none⟩) 4 4, .func (.func 116) #[] #[]] w' fun e w'' => (∃ r, e = zR r ∧ IsW r S0) ∧ Ext w' w''))
    (HS1 : Hid (∀ A B w', H4 w' A (J zq q0) (J zq q1) (J zq q2) (J zq q3) → H4 w' B (J zq r4) (J zq r5) (J zq r6) (J zq r7) → Calls zP 154 #[.slice (some ⟨A, 0, none⟩) 4 4, .slice (some ⟨B, 0, none⟩) 4 4, .func (.func 116) #[] #[]] w' fun e w'' => (∃ r, e = zR r ∧ IsW r S1) ∧ Ext w' w''))
    (HS2 : Hid (∀ A B w', H4 w' A (J zq q0) (J zq q1) (J zq q2) (J zq q3) → H4 w' B (J zq r8) (J zq r9) (J zq r10) (J zq r11) → Calls zP 154 #[.slice (some ⟨A, 0, none⟩) 4 4, .slice (some ⟨B, 0, none⟩) 4 4, .func (.func 116) #[] #[]] w' fun e w'' => (∃ r, e = zR r ∧ IsW r S2) ∧ Ext w' w''))
    (HS3 : Hid (∀ A B w', H4 w' A (J zq q0) (J zq q1) (J zq q2) (J zq q3) → H4 w' B (J zq r12) (J zq r13) (J zq r14) (J zq r15) → Calls zP 154 #[.slice (some ⟨A, 0, none⟩) 4 4, .slice (some ⟨B, 0, none⟩) 4 4, .func (.func 116) #[] #[]] w' fun e w'' => (∃ r, e = zR r ∧ IsW r S3) ∧ Ext w' w'')) :
    Calls zP 115 #[zG #[J zq p0, J zq p1, J zq p2, J zq p3], zG #[J zq q0, J zq q1, J zq q2, J zq q3], .func (.func 116) #[] #[]] w fun e w' => (∃ r, e = zR r ∧ IsF r S0 S1 S2 S3) ∧ Ext w w' := by
  have ix0 : ∀ w : World, (Instr.index 197 (zG #[J zq r0, J zq r1, J zq r2, J zq r3, J zq r4, J zq r5, J zq r6, J zq r7, J zq r8, J zq r9, J zq r10, J zq r11, J zq r12, J zq r13, J zq r14, J zq r15]) (J zq 0)).run zP w = .ok (zG #[J zq r0, J zq r1, J zq r2, J zq r3]) w := fun _ => by kernel_rfl
  have ix1 : ∀ w : World, (Instr.index 197 (zG #[J zq r0, J zq r1, J zq r2, J zq r3, J zq r4, J zq r5, J zq r6, J zq r7, J zq r8, J zq r9, J zq r10, J zq r11, J zq r12, J zq r13, J zq r14, J zq r15]) (J zq 1)).run zP w = .ok (zG #[J zq r4, J zq r5, J zq r6, J zq r7]) w := fun _ => by kernel_rfl
  have ix2 : ∀ w : World, (Instr.index 197 (zG #[J zq r0, J zq r1, J zq r2, J zq r3, J zq r4, J zq r5, J zq r6, J zq r7, J zq r8, J zq r9, J zq r10, J zq r11, J zq r12, J zq r13, J zq r14, J zq r15]) (J zq 2)).run zP w = .ok (zG #[J zq r8, J zq r9, J zq r10, J zq r11]) w := fun _ => by kernel_rfl
  have ix3 : ∀ w : World, (Instr.index 197 (zG #[J zq r0, J zq r1, J zq r2, J zq r3, J zq r4, J zq r5, J zq r6, J zq r7, J zq r8, J zq r9, J zq r10, J zq r11, J zq r12, J zq r13, J zq r14, J zq r15]) (J zq 3)).run zP w = .ok (zG #[J zq r12, J zq r13, J zq r14, J zq r15]) w := fun _ => by kernel_rfl
  go_enter Tryz.func115, Tryz.ntmps115
  go_wp2_with fail
  refine (HR.out _).mono ?_
  rintro e w1 ⟨rfl, x1⟩
  have QQ0 : Hid (H4 w1 (w.heap.size + 1) (J zq q0) (J zq q1) (J zq q2) (J zq q3)) := (H4.alloc (H4.alloc (h4_at (by simp)) _) _).ext x1
  have RR0 : Hid (H12 w1 (w.heap.size + 1 + 1) (J zu 0) (J zu 0) (J zu 0) (J zu 0) (J zu 0) (J zu 0) (J zu 0) (J zu 0) (J zu 0) (J zu 0) (J zu 0) (J zu 0)) := (H12.alloc (h12_at (by simp)) _).ext x1
  have TT0 : Hid (H12 w1 (w.heap.size + 1 + 1 + 1) (J zu 0) (J zu 0) (J zu 0) (J zu 0) (J zu 0) (J zu 0) (J zu 0) (J zu 0) (J zu 0) (J zu 0) (J zu 0) (J zu 0)) := (h12_at (by simp)).ext x1
  have X0 : Ext w w1 := Ext.trans xa x1
  have z0 : w.heap.size + 1 + 1 + 1 < w1.heap.size := TT0.out.2.2.2.2.2.2.2.2.2.2.2.2.2.2.2.2.2.2.2.2.2.2.2.2
  clear x1
  go_wp2_with fail
  refine wp_loop_rounds 5 ?_
  rw [rounds_succ]
  go_wp2_with fail
  go_region_with (go_at_call 154; refine (HS0.out _ _ _ (H4.drew (H4.alloc QQ0.out _)) (H4.drew (h4_at (by first | rfl | (simp; done))))).mono ?_; rintro e wS0 ⟨⟨u0, rfl, m00, m01, m02, rfl, hr0⟩, x0⟩; have K0 : Hid _ := hr0; clear hr0; have QQ1 : Hid (H4 wS0 (w.heap.size + 1) (J zq q0) (J zq q1) (J zq q2) (J zq q3)) := (H4.drew (H4.alloc QQ0.out _)).ext x0; have RR1 : Hid (H12 wS0 (w.heap.size + 1 + 1) (J zu 0) (J zu 0) (J zu 0) (J zu 0) (J zu 0) (J zu 0) (J zu 0) (J zu 0) (J zu 0) (J zu 0) (J zu 0) (J zu 0)) := (H12.drew (H12.alloc RR0.out _)).ext x0; have TT1 : Hid (H12 wS0 (w.heap.size + 1 + 1 + 1) (J zu 0) (J zu 0) (J zu 0) (J zu 0) (J zu 0) (J zu 0) (J zu 0) (J zu 0) (J zu 0) (J zu 0) (J zu 0) (J zu 0)) := (H12.drew (H12.alloc TT0.out _)).ext x0; have X1 : Ext w wS0 := Ext.trans xa x0; have zz : w.heap.size + 1 + 1 + 1 < wS0.heap.size := TT1.out.2.2.2.2.2.2.2.2.2.2.2.2.2.2.2.2.2.2.2.2.2.2.2.2; obtain ⟨tc0, tc1, tc2, tc3, tc4, tc5, tc6, tc7, tc8, tc9, tc10, tc11, tf0, tf1, tf2, tf3, tf4, tf5, tf6, tf7, tf8, tf9, tf10, tf11, tb⟩ := TT1.out; clear x0)
  go_wp2_with fail
  clear tc0 tc1 tc2 tc3 tc4 tc5 tc6 tc7 tc8 tc9 tc10 tc11 tf0 tf1 tf2 tf3 tf4 tf5 tf6 tf7 tf8 tf9 tf10 tf11
  rw [rounds_succ]
  go_wp2_with fail
  go_region_with (go_at_call 154; refine (HS1.out _ _ _ (H4.drew (H4.alloc (QQ1.out.far3 (by omega)) _)) (H4.drew (h4_at (by first | rfl | (simp; done))))).mono ?_; rintro e wS1 ⟨⟨u1, rfl, m10, m11, m12, rfl, hr1⟩, x1⟩; have K1 : Hid _ := hr1; clear hr1; have QQ2 : Hid (H4 wS1 (w.heap.size + 1) (J zq q0) (J zq q1) (J zq q2) (J zq q3)) := (H4.drew (H4.alloc (QQ1.out.far3 (by omega)) _)).ext x1; have RR2 : Hid (H12 wS1 (w.heap.size + 1 + 1) (J zu 0) (J zu 0) (J zu 0) (J zu 0) (J zu 0) (J zu 0) (J zu 0) (J zu 0) (J zu 0) (J zu 0) (J zu 0) (J zu 0)) := (H12.drew (H12.alloc (RR1.out.far3 (by omega)) _)).ext x1; have TT2 : Hid (H12 wS1 (w.heap.size + 1 + 1 + 1) (J zu m00) (J zu m01) (J zu m02) (J zu 0) (J zu 0) (J zu 0) (J zu 0) (J zu 0) (J zu 0) (J zu 0) (J zu 0) (J zu 0)) := (H12.drew (H12.alloc (TT1.out.put0 _ _ _) _)).ext x1; have X2 : Ext w wS1 := Ext.trans xa x1; have zz : w.heap.size + 1 + 1 + 1 < wS1.heap.size := TT2.out.2.2.2.2.2.2.2.2.2.2.2.2.2.2.2.2.2.2.2.2.2.2.2.2; obtain ⟨tc0, tc1, tc2, tc3, tc4, tc5, tc6, tc7, tc8, tc9, tc10, tc11, tf0, tf1, tf2, tf3, tf4, tf5, tf6, tf7, tf8, tf9, tf10, tf11, tb⟩ := TT2.out; clear x1)
  go_wp2_with fail
  clear tc0 tc1 tc2 tc3 tc4 tc5 tc6 tc7 tc8 tc9 tc10 tc11 tf0 tf1 tf2 tf3 tf4 tf5 tf6 tf7 tf8 tf9 tf10 tf11
  rw [rounds_succ]
  go_wp2_with fail
  go_region_with (go_at_call 154; refine (HS2.out _ _ _ (H4.drew (H4.alloc (QQ2.out.far3 (by omega)) _)) (H4.drew (h4_at (by first | rfl | (simp; done))))).mono ?_; rintro e wS2 ⟨⟨u2, rfl, m20, m21, m22, rfl, hr2⟩, x2⟩; have K2 : Hid _ := hr2; clear hr2; have QQ3 : Hid (H4 wS2 (w.heap.size + 1) (J zq q0) (J zq q1) (J zq q2) (J zq q3)) := (H4.drew (H4.alloc (QQ2.out.far3 (by omega)) _)).ext x2; have RR3 : Hid (H12 wS2 (w.heap.size + 1 + 1) (J zu 0) (J zu 0) (J zu 0) (J zu 0) (J zu 0) (J zu 0) (J zu 0) (J zu 0) (J zu 0) (J zu 0) (J zu 0) (J zu 0)) := (H12.drew (H12.alloc (RR2.out.far3 (by omega)) _)).ext x2; have TT3 : Hid (H12 wS2 (w.heap.size + 1 + 1 + 1) (J zu m00) (J zu m01) (J zu m02) (J zu m10) (J zu m11) (J zu m12) (J zu 0) (J zu 0) (J zu 0) (J zu 0) (J zu 0) (J zu 0)) := (H12.drew (H12.alloc (TT2.out.put1 _ _ _) _)).ext x2; have X3 : Ext w wS2 := Ext.trans xa x2; have zz : w.heap.size + 1 + 1 + 1 < wS2.heap.size := TT3.out.2.2.2.2.2.2.2.2.2.2.2.2.2.2.2.2.2.2.2.2.2.2.2.2; obtain ⟨tc0, tc1, tc2, tc3, tc4, tc5, tc6, tc7, tc8, tc9, tc10, tc11, tf0, tf1, tf2, tf3, tf4, tf5, tf6, tf7, tf8, tf9, tf10, tf11, tb⟩ := TT3.out; clear x2)
  go_wp2_with fail
  clear tc0 tc1 tc2 tc3 tc4 tc5 tc6 tc7 tc8 tc9 tc10 tc11 tf0 tf1 tf2 tf3 tf4 tf5 tf6 tf7 tf8 tf9 tf10 tf11
  rw [rounds_succ]
  go_wp2_with fail
  go_region_with (go_at_call 154; refine (HS3.out _ _ _ (H4.drew (H4.alloc (QQ3.out.far3 (by omega)) _)) (H4.drew (h4_at (by first | rfl | (simp; done))))).mono ?_; rintro e wS3 ⟨⟨u3, rfl, m30, m31, m32, rfl, hr3⟩, x3⟩; have K3 : Hid _ := hr3; clear hr3; have QQ4 : Hid (H4 wS3 (w.heap.size + 1) (J zq q0) (J zq q1) (J zq q2) (J zq q3)) := (H4.drew (H4.alloc (QQ3.out.far3 (by omega)) _)).ext x3; have RR4 : Hid (H12 wS3 (w.heap.size + 1 + 1) (J zu 0) (J zu 0) (J zu 0) (J zu 0) (J zu 0) (J zu 0) (J zu 0) (J zu 0) (J zu 0) (J zu 0) (J zu 0) (J zu 0)) := (H12.drew (H12.alloc (RR3.out.far3 (by omega)) _)).ext x3; have TT4 : Hid (H12 wS3 (w.heap.size + 1 + 1 + 1) (J zu m00) (J zu m01) (J zu m02) (J zu m10) (J zu m11) (J zu m12) (J zu m20) (J zu m21) (J zu m22) (J zu 0) (J zu 0) (J zu 0)) := (H12.drew (H12.alloc (TT3.out.put2 _ _ _) _)).ext x3; have X4 : Ext w wS3 := Ext.trans xa x3; have zz : w.heap.size + 1 + 1 + 1 < wS3.heap.size := TT4.out.2.2.2.2.2.2.2.2.2.2.2.2.2.2.2.2.2.2.2.2.2.2.2.2; obtain ⟨tc0, tc1, tc2, tc3, tc4, tc5, tc6, tc7, tc8, tc9, tc10, tc11, tf0, tf1, tf2, tf3, tf4, tf5, tf6, tf7, tf8, tf9, tf10, tf11, tb⟩ := TT4.out; clear x3)
  go_wp2_with fail
  rw [rounds_succ]
  have TT5 := TT4.out.put3 (J zu m30) (J zu m31) (J zu m32)
  have RR5 := RR4.out.far3 (g := (w.heap.size + 1 + 1 + 1)) (o := 9) (o' := 10) (o'' := 11) (p := J zu m30) (q := J zu m31) (r := J zu m32) (by omega)
  obtain ⟨a0, a1, a2, a3, a4, a5, a6, a7, a8, a9, a10, a11, b0, b1, b2, b3, b4, b5, b6, b7, b8, b9, b10, b11, tb5⟩ := TT5
  obtain ⟨d0, d1, d2, d3, d4, d5, d6, d7, d8, d9, d10, d11, e0, e1, e2, e3, e4, e5, e6, e7, e8, e9, e10, e11, rb5⟩ := RR5
  go_wp2_with fail
  exact bodyPost_ret (v := zG #[J zu m00, J zu m01, J zu m02, J zu m10, J zu m11, J zu m12, J zu m20, J zu m21, J zu m22, J zu m30, J zu m31, J zu m32]) (by simp [results, Tryz.results115, go_sem, d0, d1, d2, d3, d4, d5, d6, d7, d8, d9, d10, d11]) rfl ⟨⟨_, rfl, _, _, _, _, _, _, _, _, _, _, _, _, rfl, ⟨_, _, _, rfl, K0.out⟩, ⟨_, _, _, rfl, K1.out⟩, ⟨_, _, _, rfl, K2.out⟩, ⟨_, _, _, rfl, K3.out⟩⟩, xa⟩
set_option maxRecDepth 20000 in
set_option maxHeartbeats 8000000 in
theorem productx_raw (p0 p1 p2 p3 q0 q1 q2 q3 q4 q5 q6 q7 q8 q9 q10 q11 r0 r1 r2 r3 r4 r5 r6 r7 r8 r9 r10 r11 r12 r13 r14 r15 S0 S1 S2 S3 : Int) (w : World)
    (HR : Hid (∀ w', Calls zP 153 #[zG #[J zq p0, J zq p1, J zq p2, J zq p3]] w' fun e w'' => e = zR (zG #[J zq r0, J zq r1, J zq r2, J zq r3, J zq r4, J zq r5, J zq r6, J zq r7, J zq r8, J zq r9, J zq r10, J zq r11, J zq r12, J zq r13, J zq r14, J zq r15]) ∧ Ext w' w''))
    (HS0 : Hid (∀ A B w', H12 w' A (J zu q0) (J zu q1) (J zu q2) (J zu q3) (J zu q4) (J zu q5) (J zu q6) (J zu q7) (J zu q8) (J zu q9) (J zu q10) (J zu q11) → H4 w' B (J zq r0) (J zq r1) (J zq r2) (J zq r3) → Calls zP 178 #[.slice (some ⟨A, 0, none⟩) 4 4, .slice (some ⟨B, 0, none⟩) 4 4, .func (.func 155) #[] #[]] w' fun e w'' => (∃ r, e = zR r ∧ IsW r S0) ∧ Ext w' w''))
    (HS1 : Hid (∀ A B w', H12 w' A (J zu q0) (J zu q1) (J zu q2) (J zu q3) (J zu q4) (J zu q5) (J zu q6) (J zu q7) (J zu q8) (J zu q9) (J zu q10) (J zu q11) → H4 w' B (J zq r4) (J zq r5) (J zq r6) (J zq r7) → Calls zP 178 #[.slice (some ⟨A, 0, none⟩) 4 4, .slice (some ⟨B, 0, none⟩) 4 4, .func (.func 155) #[] #[]] w' fun e w'' => (∃ r, e = zR r ∧ IsW r S1) ∧ Ext w' w''))
    (HS2 : Hid (∀ A B w', H12 w' A (J zu q0) (J zu q1) (J zu q2) (J zu q3) (J zu q4) (J zu q5) (J zu q6) (J zu q7) (J zu q8) (J zu q9) (J zu q10) (J zu q11) → H4 w' B (J zq r8) (J zq r9) (J zq r10) (J zq r11) → Calls zP 178 #[.slice (some ⟨A, 0, none⟩) 4 4, .slice (some ⟨B, 0, none⟩) 4 4, .func (.func 155) #[] #[]] w' fun e w'' => (∃ r, e = zR r ∧ IsW r S2) ∧ Ext w' w''))
    (HS3 : Hid (∀ A B w', H12 w' A (J zu q0) (J zu q1) (J zu q2) (J zu q3) (J zu q4) (J zu q5) (J zu q6) (J zu q7) (J zu q8) (J zu q9) (J zu q10) (J zu q11) → H4 w' B (J zq r12) (J zq r13) (J zq r14) (J zq r15) → Calls zP 178 #[.slice (some ⟨A, 0, none⟩) 4 4, .slice (some ⟨B, 0, none⟩) 4 4, .func (.func 155) #[] #[]] w' fun e w'' => (∃ r, e = zR r ∧ IsW r S3) ∧ Ext w' w'')) :
    Calls zP 157 #[zG #[J zq p0, J zq p1, J zq p2, J zq p3], zG #[J zu q0, J zu q1, J zu q2, J zu q3, J zu q4, J zu q5, J zu q6, J zu q7, J zu q8, J zu q9, J zu q10, J zu q11], .func (.func 155) #[] #[]] w fun e w' => (∃ r, e = zR r ∧ IsF r S0 S1 S2 S3) ∧ Ext w w' := by
  have ix0 : ∀ w : World, (Instr.index 197 (zG #[J zq r0, J zq r1, J zq r2, J zq r3, J zq r4, J zq r5, J zq r6, J zq r7, J zq r8, J zq r9, J zq r10, J zq r11, J zq r12, J zq r13, J zq r14, J zq r15]) (J zq 0)).run zP w = .ok (zG #[J zq r0, J zq r1, J zq r2, J zq r3]) w := fun _ => by kernel_rfl
  have ix1 : ∀ w : World, (Instr.index 197 (zG #[J zq r0, J zq r1, J zq r2, J zq r3, J zq r4, J zq r5, J zq r6, J zq r7, J zq r8, J zq r9, J zq r10, J zq r11, J zq r12, J zq r13, J zq r14, J zq r15]) (J zq 1)).run zP w = .ok (zG #[J zq r4, J zq r5, J zq r6, J zq r7]) w := fun _ => by kernel_rfl
  have ix2 : ∀ w : World, (Instr.index 197 (zG #[J zq r0, J zq r1, J zq r2, J zq r3, J zq r4, J zq r5, J zq r6, J zq r7, J zq r8, J zq r9, J zq r10, J zq r11, J zq r12, J zq r13, J zq r14, J zq r15]) (J zq 2)).run zP w = .ok (zG #[J zq r8, J zq r9, J zq r10, J zq r11]) w := fun _ => by kernel_rfl
  have ix3 : ∀ w : World, (Instr.index 197 (zG #[J zq r0, J zq r1, J zq r2, J zq r3, J zq r4, J zq r5, J zq r6, J zq r7, J zq r8, J zq r9, J zq r10, J zq r11, J zq r12, J zq r13, J zq r14, J zq r15]) (J zq 3)).run zP w = .ok (zG #[J zq r12, J zq r13, J zq r14, J zq r15]) w := fun _ => by kernel_rfl
  go_enter Tryz.func157, Tryz.ntmps157
  go_wp2_with fail
  refine (HR.out _).mono ?_
  rintro e w1 ⟨rfl, x1⟩
  have QQ0 : Hid (H12 w1 (w.heap.size + 1) (J zu q0) (J zu q1) (J zu q2) (J zu q3) (J zu q4) (J zu q5) (J zu q6) (J zu q7) (J zu q8) (J zu q9) (J zu q10) (J zu q11)) := (H12.alloc (H12.alloc (h12_at (by simp)) _) _).ext x1
  have RR0 : Hid (H12 w1 (w.heap.size + 1 + 1) (J zu 0) (J zu 0) (J zu 0) (J zu 0) (J zu 0) (J zu 0) (J zu 0) (J zu 0) (J zu 0) (J zu 0) (J zu 0) (J zu 0)) := (H12.alloc (h12_at (by simp)) _).ext x1
  have TT0 : Hid (H12 w1 (w.heap.size + 1 + 1 + 1) (J zu 0) (J zu 0) (J zu 0) (J zu 0) (J zu 0) (J zu 0) (J zu 0) (J zu 0) (J zu 0) (J zu 0) (J zu 0) (J zu 0)) := (h12_at (by simp)).ext x1
  have X0 : Ext w w1 := Ext.trans xa x1
  have z0 : w.heap.size + 1 + 1 + 1 < w1.heap.size := TT0.out.2.2.2.2.2.2.2.2.2.2.2.2.2.2.2.2.2.2.2.2.2.2.2.2
  clear x1
  go_wp2_with fail
  refine wp_loop_rounds 5 ?_
  rw [rounds_succ]
  go_wp2_with fail
  go_region_with (go_at_call 178; refine (HS0.out _ _ _ (H12.drew (H12.alloc QQ0.out _)) (H4.drew (h4_at (by first | rfl | (simp; done))))).mono ?_; rintro e wS0 ⟨⟨u0, rfl, m00, m01, m02, rfl, hr0⟩, x0⟩; have K0 : Hid _ := hr0; clear hr0; have QQ1 : Hid (H12 wS0 (w.heap.size + 1) (J zu q0) (J zu q1) (J zu q2) (J zu q3) (J zu q4) (J zu q5) (J zu q6) (J zu q7) (J zu q8) (J zu q9) (J zu q10) (J zu q11)) := (H12.drew (H12.alloc QQ0.out _)).ext x0; have RR1 : Hid (H12 wS0 (w.heap.size + 1 + 1) (J zu 0) (J zu 0) (J zu 0) (J zu 0) (J zu 0) (J zu 0) (J zu 0) (J zu 0) (J zu 0) (J zu 0) (J zu 0) (J zu 0)) := (H12.drew (H12.alloc RR0.out _)).ext x0; have TT1 : Hid (H12 wS0 (w.heap.size + 1 + 1 + 1) (J zu 0) (J zu 0) (J zu 0) (J zu 0) (J zu 0) (J zu 0) (J zu 0) (J zu 0) (J zu 0) (J zu 0) (J zu 0) (J zu 0)) := (H12.drew (H12.alloc TT0.out _)).ext x0; have X1 : Ext w wS0 := Ext.trans xa x0; have zz : w.heap.size + 1 + 1 + 1 < wS0.heap.size := TT1.out.2.2.2.2.2.2.2.2.2.2.2.2.2.2.2.2.2.2.2.2.2.2.2.2; obtain ⟨tc0, tc1, tc2, tc3, tc4, tc5, tc6, tc7, tc8, tc9, tc10, tc11, tf0, tf1, tf2, tf3, tf4, tf5, tf6, tf7, tf8, tf9, tf10, tf11, tb⟩ := TT1.out; clear x0)
  go_wp2_with fail
  clear tc0 tc1 tc2 tc3 tc4 tc5 tc6 tc7 tc8 tc9 tc10 tc11 tf0 tf1 tf2 tf3 tf4 tf5 tf6 tf7 tf8 tf9 tf10 tf11
  rw [rounds_succ]
  go_wp2_with fail
  go_region_with (go_at_call 178; refine (HS1.out _ _ _ (H12.drew (H12.alloc (QQ1.out.far3 (by omega)) _)) (H4.drew (h4_at (by first | rfl | (simp; done))))).mono ?_; rintro e wS1 ⟨⟨u1, rfl, m10, m11, m12, rfl, hr1⟩, x1⟩; have K1 : Hid _ := hr1; clear hr1; have QQ2 : Hid (H12 wS1 (w.heap.size + 1) (J zu q0) (J zu q1) (J zu q2) (J zu q3) (J zu q4) (J zu q5) (J zu q6) (J zu q7) (J zu q8) (J zu q9) (J zu q10) (J zu q11)) := (H12.drew (H12.alloc (QQ1.out.far3 (by omega)) _)).ext x1; have RR2 : Hid (H12 wS1 (w.heap.size + 1 + 1) (J zu 0) (J zu 0) (J zu 0) (J zu 0) (J zu 0) (J zu 0) (J zu 0) (J zu 0) (J zu 0) (J zu 0) (J zu 0) (J zu 0)) := (H12.drew (H12.alloc (RR1.out.far3 (by omega)) _)).ext x1; have TT2 : Hid (H12 wS1 (w.heap.size + 1 + 1 + 1) (J zu m00) (J zu m01) (J zu m02) (J zu 0) (J zu 0) (J zu 0) (J zu 0) (J zu 0) (J zu 0) (J zu 0) (J zu 0) (J zu 0)) := (H12.drew (H12.alloc (TT1.out.put0 _ _ _) _)).ext x1; have X2 : Ext w wS1 := Ext.trans xa x1; have zz : w.heap.size + 1 + 1 + 1 < wS1.heap.size := TT2.out.2.2.2.2.2.2.2.2.2.2.2.2.2.2.2.2.2.2.2.2.2.2.2.2; obtain ⟨tc0, tc1, tc2, tc3, tc4, tc5, tc6, tc7, tc8, tc9, tc10, tc11, tf0, tf1, tf2, tf3, tf4, tf5, tf6, tf7, tf8, tf9, tf10, tf11, tb⟩ := TT2.out; clear x1)
  go_wp2_with fail
  clear tc0 tc1 tc2 tc3 tc4 tc5 tc6 tc7 tc8 tc9 tc10 tc11 tf0 tf1 tf2 tf3 tf4 tf5 tf6 tf7 tf8 tf9 tf10 tf11
  rw [rounds_succ]
  go_wp2_with fail
  go_region_with (go_at_call 178; refine (HS2.out _ _ _ (H12.drew (H12.alloc (QQ2.out.far3 (by omega)) _)) (H4.drew (h4_at (by first | rfl | (simp; done))))).mono ?_; rintro e wS2 ⟨⟨u2, rfl, m20, m21, m22, rfl, hr2⟩, x2⟩; have K2 : Hid _ := hr2; clear hr2; have QQ3 : Hid (H12 wS2 (w.heap.size + 1) (J zu q0) (J zu q1) (J zu q2) (J zu q3) (J zu q4) (J zu q5) (J zu q6) (J zu q7) (J zu q8) (J zu q9) (J zu q10) (J zu q11)) := (H12.drew (H12.alloc (QQ2.out.far3 (by omega)) _)).ext x2; have RR3 : Hid (H12 wS2 (w.heap.size + 1 + 1) (J zu 0) (J zu 0) (J zu 0) (J zu 0) (J zu 0) (J zu 0) (J zu 0) (J zu 0) (J zu 0) (J zu 0) (J zu 0) (J zu 0)) := (H12.drew (H12.alloc (RR2.out.far3 (by omega)) _)).ext x2; have TT3 : Hid (H12 wS2 (w.heap.size + 1 + 1 + 1) (J zu m00) (J zu m01) (J zu m02) (J zu m10) (J zu m11) (J zu m12) (J zu 0) (J zu 0) (J zu 0) (J zu 0) (J zu 0) (J zu 0)) := (H12.drew (H12.alloc (TT2.out.put1 _ _ _) _)).ext x2; have X3 : Ext w wS2 := Ext.trans xa x2; have zz : w.heap.size + 1 + 1 + 1 < wS2.heap.size := TT3.out.2.2.2.2.2.2.2.2.2.2.2.2.2.2.2.2.2.2.2.2.2.2.2.2; obtain ⟨tc0, tc1, tc2, tc3, tc4, tc5, tc6, tc7, tc8, tc9, tc10, tc11, tf0, tf1, tf2, tf3, tf4, tf5, tf6, tf7, tf8, tf9, tf10, tf11, tb⟩ := TT3.out; clear x2)
  go_wp2_with fail
  clear tc0 tc1 tc2 tc3 tc4 tc5 tc6 tc7 tc8 tc9 tc10 tc11 tf0 tf1 tf2 tf3 tf4 tf5 tf6 tf7 tf8 tf9 tf10 tf11
  rw [rounds_succ]
  go_wp2_with fail
  go_region_with (go_at_call 178; refine (HS3.out _ _ _ (H12.drew (H12.alloc (QQ3.out.far3 (by omega)) _)) (H4.drew (h4_at (by first | rfl | (simp; done))))).mono ?_; rintro e wS3 ⟨⟨u3, rfl, m30, m31, m32, rfl, hr3⟩, x3⟩; have K3 : Hid _ := hr3; clear hr3; have QQ4 : Hid (H12 wS3 (w.heap.size + 1) (J zu q0) (J zu q1) (J zu q2) (J zu q3) (J zu q4) (J zu q5) (J zu q6) (J zu q7) (J zu q8) (J zu q9) (J zu q10) (J zu q11)) := (H12.drew (H12.alloc (QQ3.out.far3 (by omega)) _)).ext x3; have RR4 : Hid (H12 wS3 (w.heap.size + 1 + 1) (J zu 0) (J zu 0) (J zu 0) (J zu 0) (J zu 0) (J zu 0) (J zu 0) (J zu 0) (J zu 0) (J zu 0) (J zu 0) (J zu 0)) := (H12.drew (H12.alloc (RR3.out.far3 (by omega)) _)).ext x3; have TT4 : Hid (H12 wS3 (w.heap.size + 1 + 1 + 1) (J zu m00) (J zu m01) (J zu m02) (J zu m10) (J zu m11) (J zu m12) (J zu m20) (J zu m21) (J zu m22) (J zu 0) (J zu 0) (J zu 0)) := (H12.drew (H12.alloc (TT3.out.put2 _ _ _) _)).ext x3; have X4 : Ext w wS3 := Ext.trans xa x3; have zz : w.heap.size + 1 + 1 + 1 < wS3.heap.size := TT4.out.2.2.2.2.2.2.2.2.2.2.2.2.2.2.2.2.2.2.2.2.2.2.2.2; obtain ⟨tc0, tc1, tc2, tc3, tc4, tc5, tc6, tc7, tc8, tc9, tc10, tc11, tf0, tf1, tf2, tf3, tf4, tf5, tf6, tf7, tf8, tf9, tf10, tf11, tb⟩ := TT4.out; clear x3)
  go_wp2_with fail
  rw [rounds_succ]
  have TT5 := TT4.out.put3 (J zu m30) (J zu m31) (J zu m32)
  have RR5 := RR4.out.far3 (g := (w.heap.size + 1 + 1 + 1)) (o := 9) (o' := 10) (o'' := 11) (p := J zu m30) (q := J zu m31) (r := J zu m32) (by omega)
  obtain ⟨a0, a1, a2, a3, a4, a5, a6, a7, a8, a9, a10, a11, b0, b1, b2, b3, b4, b5, b6, b7, b8, b9, b10, b11, tb5⟩ := TT5
  obtain ⟨d0, d1, d2, d3, d4, d5, d6, d7, d8, d9, d10, d11, e0, e1, e2, e3, e4, e5, e6, e7, e8, e9, e10, e11, rb5⟩ := RR5
  go_wp2_with fail
  exact bodyPost_ret (v := zG #[J zu m00, J zu m01, J zu m02, J zu m10, J zu m11, J zu m12, J zu m20, J zu m21, J zu m22, J zu m30, J zu m31, J zu m32]) (by simp [results, Tryz.results157, go_sem, d0, d1, d2, d3, d4, d5, d6, d7, d8, d9, d10, d11]) rfl ⟨⟨_, rfl, _, _, _, _, _, _, _, _, _, _, _, _, rfl, ⟨_, _, _, rfl, K0.out⟩, ⟨_, _, _, rfl, K1.out⟩, ⟨_, _, _, rfl, K2.out⟩, ⟨_, _, _, rfl, K3.out⟩⟩, xa⟩
end Go.Proofs.YtoeecldhbabmbaaGreat
