/- A variable of a pair. -/
import Derived.Test.YtblpdnpfhjnbgaaRp2
import Derived.Test.YtblpdnpfhjnbgaaRv
namespace Go.Proofs.Ytblpdnpfhjnbgaa
open Go.RowKit Go.Conc
/-- a variable of a pair, which may be written -/
def P2 (w : World) (b : Nat) (n : Int) (x : ByteArray) : Prop :=
  w.cell? ⟨b, 0, none⟩ = some (.int .i64 n) ∧ w.cell? ⟨b, 1, none⟩ = some (.string x) ∧ w.frozen? ⟨b, 0, none⟩ = false ∧ w.frozen? ⟨b, 1, none⟩ = false
theorem P2.lt {w : World} {b : Nat} {n : Int} {x : ByteArray} (h : P2 w b n x) : b < w.heap.size := World.block_lt_of_cell? w ⟨b, 0, none⟩ h.1
theorem P2.turn {p d c : Nat} {w w' : World} {b : Nat} {n : Int} {x : ByteArray} (h : P2 w b n x) (t : Turn p d c w w') (hb : b ≠ p ∧ b ≠ d ∧ b ≠ c) : P2 w' b n x :=
  ⟨t.keepc hb h.1, t.keepc hb h.2.1, t.keepf hb h.1 h.2.2.1, t.keepf hb h.2.1 h.2.2.2⟩
theorem P2.ext {w w' : World} {b : Nat} {n : Int} {x : ByteArray} (h : P2 w b n x) (hx : Ext w w') : P2 w' b n x := by
  have hlt := h.lt
  refine ⟨hx.keepc h.1, hx.keepc h.2.1, ?_, ?_⟩
  · rw [Below.frozen (p := ⟨b, 0, none⟩) hx hlt]; exact h.2.2.1
  · rw [Below.frozen (p := ⟨b, 1, none⟩) hx hlt]; exact h.2.2.2
theorem P2.alloc {w : World} {b : Nat} {n : Int} {x : ByteArray} (h : P2 w b n x) (o : Obj) : P2 (w.alloc o) b n x := h.ext ((Ext.refl w).alloc o)
theorem p2_at {w : World} {b : Nat} {n : Int} {x : ByteArray} {T : TypeId} (h : w.heap.size = b) : P2 (w.alloc (.cells #[.int .i64 n, .string x] T)) b n x := by
  subst h
  refine ⟨?_, ?_, ?_, ?_⟩ <;> simp [go_sem]
theorem P2.set {w : World} {b : Nat} {n m : Int} {x y : ByteArray} (h : P2 w b n x) : P2 ((w.setCell ⟨b, 0, none⟩ (.int .i64 m)).setCell ⟨b, 1, none⟩ (.string y)) b m y := by
  obtain ⟨h0, h1, f0, f1⟩ := h
  refine ⟨?_, ?_, ?_, ?_⟩ <;> simp [go_sem, h0, h1, f0, f1]
theorem Ext.set2 {a w : World} (h : Ext a w) {b : Nat} (hb : a.heap.size ≤ b) (u v : Value) : Ext a ((w.setCell ⟨b, 0, none⟩ u).setCell ⟨b, 1, none⟩ v) :=
  Below.setCell (Below.setCell h (p := ⟨b, 0, none⟩) hb _) (p := ⟨b, 1, none⟩) hb _
/-- nothing of w has turned but p, d, c, though a new variable b was written -/
theorem Turn.set2 {p d c : Nat} {a w : World} (h : Turn p d c a w) {b : Nat} (hb : a.heap.size ≤ b) (u v : Value) : Turn p d c a ((w.setCell ⟨b, 0, none⟩ u).setCell ⟨b, 1, none⟩ v) :=
  ⟨(h.1.setCell (p := ⟨b, 0, none⟩) (Nat.zero_le _) u).setCell (p := ⟨b, 1, none⟩) (Nat.zero_le _) v, fun k hk h1 h2 h3 => by
    rw [heap_setCell_far _ _ _ _ _ (by omega), heap_setCell_far _ _ _ _ _ (by omega)]; exact h.2 k hk h1 h2 h3⟩
theorem Turn.alloc {p d c : Nat} {a w : World} (h : Turn p d c a w) (o : Obj) : Turn p d c a (w.alloc o) := h.trans (Turn.of_ext ((Ext.refl w).alloc o))
theorem RS.set2 {w : World} {T E : TypeId} {p d c cap first : Nat} {A buf : Array Value} {s r : Nat} (h : RS w T E p d c cap first A buf s r) {b : Nat} (hb : b ≠ p ∧ b ≠ d ∧ b ≠ c) (u v : Value) : RS ((w.setCell ⟨b, 0, none⟩ u).setCell ⟨b, 1, none⟩ v) T E p d c cap first A buf s r := by
  obtain ⟨h1, h2, h3⟩ := h
  refine ⟨?_, ?_, ?_⟩ <;> (rw [heap_setCell_far _ _ _ _ _ (by omega), heap_setCell_far _ _ _ _ _ (by omega)]; assumption)
end Go.Proofs.Ytblpdnpfhjnbgaa
