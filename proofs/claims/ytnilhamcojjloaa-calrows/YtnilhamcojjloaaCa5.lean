/- A list of Ask, its entries. -/
import Derived.Test.YtnilhamcojjloaaCa4
namespace Go.Proofs.Ytnilhamcojjloaa
open Go.RowKit Go.Shelf
/-- a list of Ask: cell j of entry i holds the number Z i j -/
def Asks (w : World) (b off len : Nat) (Z : Nat → Nat → Int) : Prop :=
  ∀ i, i < len → ∀ j, j < 20 → w.cell? ⟨b, off + i * 20 + j, none⟩ = some (.int .i64 (Z i j)) ∧ -9223372036854775808 ≤ Z i j ∧ Z i j ≤ 9223372036854775807
theorem Asks.ext {w w' : World} {b off len : Nat} {Z : Nat → Nat → Int} (h : Asks w b off len Z) (hx : Ext w w') : Asks w' b off len Z := by
  intro i hi j hj
  obtain ⟨h1, h2⟩ := h i hi j hj
  refine ⟨?_, h2⟩
  rw [(hx.lay).1 b _ (cell_lt h1)]
  exact h1
theorem Asks.row {w : World} {b off len : Nat} {Z : Nat → Nat → Int} (h : Asks w b off len Z) {k : Nat} (hk : k < len) : w.rangeAt b (off + k * 20) [.int .i64 (Z k 0), .int .i64 (Z k 1), .int .i64 (Z k 2), .int .i64 (Z k 3), .int .i64 (Z k 4), .int .i64 (Z k 5), .int .i64 (Z k 6), .int .i64 (Z k 7), .int .i64 (Z k 8), .int .i64 (Z k 9), .int .i64 (Z k 10), .int .i64 (Z k 11), .int .i64 (Z k 12), .int .i64 (Z k 13), .int .i64 (Z k 14), .int .i64 (Z k 15), .int .i64 (Z k 16), .int .i64 (Z k 17), .int .i64 (Z k 18), .int .i64 (Z k 19)] := fun j v hv => by
  have hj : j < 20 := (List.getElem?_eq_some_iff.1 hv).1
  refine ((h k hk j hj).1).trans ?_
  rw [← hv]
  match j, hj with
  | 0, _ => rfl
  | 1, _ => rfl
  | 2, _ => rfl
  | 3, _ => rfl
  | 4, _ => rfl
  | 5, _ => rfl
  | 6, _ => rfl
  | 7, _ => rfl
  | 8, _ => rfl
  | 9, _ => rfl
  | 10, _ => rfl
  | 11, _ => rfl
  | 12, _ => rfl
  | 13, _ => rfl
  | 14, _ => rfl
  | 15, _ => rfl
  | 16, _ => rfl
  | 17, _ => rfl
  | 18, _ => rfl
  | 19, _ => rfl
theorem setCells_new (T : TypeId) : ∀ (vs pre rest : List Value) (w : World), rest.length = vs.length → (w.alloc (.cells (pre ++ rest).toArray T)).setCells w.heap.size pre.length vs = w.alloc (.cells (pre ++ vs).toArray T)
  | [], pre, rest, w, h => by
    have : rest = [] := List.length_eq_zero_iff.1 h
    subst this; rfl
  | v :: vs, pre, [], w, h => by simp at h
  | v :: vs, pre, r :: rest, w, h => by
    show ((w.alloc (.cells (pre ++ r :: rest).toArray T)).setCell ⟨w.heap.size, pre.length, none⟩ v).setCells w.heap.size (pre.length + 1) vs = _
    rw [World.setCell_alloc_new]
    have e : (pre ++ r :: rest).toArray.setIfInBounds pre.length v = ((pre ++ [v]) ++ rest).toArray := by simp
    have k := setCells_new T vs (pre ++ [v]) rest w (by simpa using h)
    rw [e]
    rw [show pre.length + 1 = (pre ++ [v]).length by simp, k]
    simp
/-- a variable that is made and stored whole -/
theorem wpList_store_new {ops : Array Oper} {rest : List Oper} {op : Oper} {a : Act} {w : World} {Q : Exit → Act → World → Prop} (T : TypeId) (zs cs : List Value) (hgd : op.guard = none) (ty : TypeId) (x y : Operand) (ho : op.op = .store ty x y)
    (hx : a.eval x = .pointer (some ⟨w.heap.size, 0, none⟩)) (hy : a.eval y = .agg cs.toArray) (hz : zs.length = cs.length)
    (hi : (Try.prog.info? ty).map (·.size) = some cs.length) (h1 : ∀ v ∈ cs, v.oneCell' = true)
    (h : wpList Try.prog ops Q rest (a.put op.dst undef) (w.alloc (.cells cs.toArray T))) : wpList Try.prog ops Q (op :: rest) a (w.alloc (.cells zs.toArray T)) := by
  have V : HV (w.alloc (.cells zs.toArray T)) w.heap.size zs := hv_at rfl
  have ht : (w.alloc (.cells zs.toArray T)).there w.heap.size 0 cs.toArray.size := fun j hj => by
    have hj' : j < zs.length := by simp at hj; omega
    rw [Nat.zero_add, V.c j (List.getElem?_eq_getElem hj')]
    exact ⟨rfl, V.f j (List.getElem?_eq_getElem hj')⟩
  refine wpList_store_mid hgd ty x y ho w.heap.size 0 cs.toArray hx hy ht (by simpa using hi) (all_oneCell_toArray h1) ?_
  have e := setCells_new T cs [] zs w hz
  rw [List.nil_append, List.nil_append] at e
  show wpList Try.prog ops Q rest _ ((w.alloc (.cells zs.toArray T)).setCells w.heap.size 0 cs)
  have e' : (w.alloc (.cells zs.toArray T)).setCells w.heap.size 0 cs = w.alloc (.cells cs.toArray T) := e
  rw [e']
  exact h
end Go.Proofs.Ytnilhamcojjloaa
