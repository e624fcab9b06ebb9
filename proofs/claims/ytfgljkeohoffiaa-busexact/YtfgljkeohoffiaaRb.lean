/- A ring in memory; what walks over it need. -/
import Derived.Test.YtfgljkeohoffiaaCm
import Derived.Deep.QuietTactic
import Derived.BigQuiet
import Derived.Deep.RegionWith
import Derived.BigRegion
import Derived.WalkKit
import Derived.WalkLawsBesides
import Derived.WalkSpells
namespace Go.Proofs.Ytfgljkeohoffiaa
open Go.RowKit Go.Conc

/-- Nothing that was there has turned; there may be more. -/
def Ext (w w' : World) : Prop := Below w.heap.size w w'
theorem Ext.refl (w : World) : Ext w w := Below.refl _ _
theorem Ext.size {w w' : World} (h : Ext w w') : w.heap.size ≤ w'.heap.size := Below.size h
theorem Ext.trans {a b c : World} (h : Ext a b) (k : Ext b c) : Ext a c := Below.trans h (Below.mono k h.size)
theorem Ext.drew {a w : World} (h : Ext a w) : Ext a w.drew := Below.drew h
theorem Ext.alloc {a w : World} (h : Ext a w) (o : Obj) : Ext a (w.alloc o) := Below.alloc h h.size o

theorem ret_int {k : IntKind} {a b : Int} (h : a = b) : Ending.returned (.int k a) = .returned (.int k b) := by rw [h]

/-- Nothing below B has turned but the three blocks p, d, c. -/
def Turn (p d c : Nat) (w w' : World) : Prop := Below 0 w w' ∧ ∀ k, k < w.heap.size → k ≠ p → k ≠ d → k ≠ c → w'.heap[k]? = w.heap[k]?
theorem Turn.refl (p d c : Nat) (w : World) : Turn p d c w w := ⟨Below.refl _ _, fun _ _ _ _ _ => rfl⟩
theorem Turn.trans {p d c : Nat} {a b e : World} (h : Turn p d c a b) (k : Turn p d c b e) : Turn p d c a e :=
  ⟨h.1.trans k.1, fun i hi h1 h2 h3 => (k.2 i (Nat.lt_of_lt_of_le hi h.1.size) h1 h2 h3).trans (h.2 i hi h1 h2 h3)⟩
theorem Turn.of_ext {p d c : Nat} {a b : World} (h : Ext a b) : Turn p d c a b := ⟨h.mono (Nat.zero_le _), fun i hi _ _ _ => h.block i hi⟩
theorem Turn.below {p d c B : Nat} {a w w' : World} (k : Turn p d c w w') (h : Below B a w) (hs : B ≤ a.heap.size) (hp : B ≤ p) (hd : B ≤ d) (hc : B ≤ c) : Below B a w' :=
  h.trans ⟨k.1.os, k.1.tape, k.1.output, k.1.size, fun i hi => k.2 i (Nat.lt_of_lt_of_le (Nat.lt_of_lt_of_le hi hs) h.size) (by omega) (by omega) (by omega)⟩

/-- The three blocks of a ring, as they lie. -/
def RS (w : World) (T E : TypeId) (p d c cap first : Nat) (A buf : Array Value) (s r : Nat) : Prop :=
  w.heap[p]? = some (.cells #[.slice (some ⟨d, 0, none⟩) cap cap, .int .i64 first, .chan (some c)] T) ∧ w.heap[d]? = some (.cells A E) ∧ w.heap[c]? = some (.chan cap buf false s r false)

section
variable {w w' : World} {T E : TypeId} {p d c cap first : Nat} {A buf : Array Value} {s r : Nat}
theorem RS.lay (h : RS w T E p d c cap first A buf s r) :
    w.cell? ⟨p, 0, none⟩ = some (.slice (some ⟨d, 0, none⟩) cap cap) ∧ w.cell? ⟨p, 1, none⟩ = some (.int .i64 first) ∧ w.cell? ⟨p, 2, none⟩ = some (.chan (some c)) ∧
    w.frozen? ⟨p, 0, none⟩ = false ∧ w.frozen? ⟨p, 1, none⟩ = false ∧ w.frozen? ⟨p, 2, none⟩ = false := by
  obtain ⟨hp, _, _⟩ := h
  refine ⟨?_, ?_, ?_, ?_, ?_, ?_⟩ <;> simp [World.cell?, World.frozen?, hp]
theorem RS.item (h : RS w T E p d c cap first A buf s r) (i : Nat) : w.cell? ⟨d, i, none⟩ = A[i]? ∧ w.frozen? ⟨d, i, none⟩ = false := by
  obtain ⟨_, hd, _⟩ := h
  refine ⟨?_, ?_⟩ <;> simp [World.cell?, World.frozen?, hd]
theorem RS.drew (h : RS w T E p d c cap first A buf s r) : RS w.drew T E p d c cap first A buf s r := h
theorem RS.lt (h : RS w T E p d c cap first A buf s r) : p < w.heap.size ∧ d < w.heap.size ∧ c < w.heap.size := by
  obtain ⟨hp, hd, hc⟩ := h
  exact ⟨(Array.getElem?_eq_some_iff.1 hp).1, (Array.getElem?_eq_some_iff.1 hd).1, (Array.getElem?_eq_some_iff.1 hc).1⟩
theorem RS.ext (h : RS w T E p d c cap first A buf s r) (hx : Ext w w') : RS w' T E p d c cap first A buf s r := by
  obtain ⟨lp, ld, lc⟩ := h.lt
  obtain ⟨hp, hd, hc⟩ := h
  exact ⟨(hx.block _ lp).trans hp, (hx.block _ ld).trans hd, (hx.block _ lc).trans hc⟩
theorem RS.far (h : RS w T E p d c cap first A buf s r) {p' d' c' : Nat} (hx : Turn p' d' c' w w') (h1 : p ≠ p' ∧ p ≠ d' ∧ p ≠ c') (h2 : d ≠ p' ∧ d ≠ d' ∧ d ≠ c') (h3 : c ≠ p' ∧ c ≠ d' ∧ c ≠ c') : RS w' T E p d c cap first A buf s r := by
  obtain ⟨lp, ld, lc⟩ := h.lt
  obtain ⟨hp, hd, hc⟩ := h
  exact ⟨(hx.2 _ lp h1.1 h1.2.1 h1.2.2).trans hp, (hx.2 _ ld h2.1 h2.2.1 h2.2.2).trans hd, (hx.2 _ lc h3.1 h3.2.1 h3.2.2).trans hc⟩

theorem heap_setCell_far (w : World) (q k o : Nat) (v : Value) (h : q ≠ k) : (w.setCell ⟨q, o, none⟩ v).heap[k]? = w.heap[k]? := by
  simp [World.setCell, Array.getElem?_modify, h]
theorem heap_setCell_at (w : World) (q o : Nat) (v : Value) {C : Array Value} {E : TypeId} (h : w.heap[q]? = some (.cells C E)) : (w.setCell ⟨q, o, none⟩ v).heap[q]? = some (.cells (C.setIfInBounds o v) E) := by
  simp [World.setCell, Array.getElem?_modify, h]
theorem heap_setChan_far (w : World) (q k cap : Nat) (buf : Array Value) (cl : Bool) (s r : Nat) (tm : Bool) (h : q ≠ k) : (w.setChan q cap buf cl s r tm).heap[k]? = w.heap[k]? := by
  simp [World.setChan, Array.getElem?_setIfInBounds_ne h]
theorem size_setCell' (w : World) (a : Addr) (v : Value) : (w.setCell a v).heap.size = w.heap.size := by simp [World.setCell]

theorem RS.setFirst (h : RS w T E p d c cap first A buf s r) (hpd : p ≠ d) (hpc : p ≠ c) (n : Nat) : RS (w.setCell ⟨p, 1, none⟩ (.int .i64 n)) T E p d c cap n A buf s r := by
  obtain ⟨hp, hd, hc⟩ := h
  refine ⟨?_, ?_, ?_⟩
  · rw [heap_setCell_at _ _ _ _ hp]; simp
  · rw [heap_setCell_far _ _ _ _ _ hpd]; exact hd
  · rw [heap_setCell_far _ _ _ _ _ hpc]; exact hc
theorem RS.setItem (h : RS w T E p d c cap first A buf s r) (hpd : p ≠ d) (hdc : d ≠ c) (i : Nat) (v : Value) : RS (w.setCell ⟨d, i, none⟩ v) T E p d c cap first (A.setIfInBounds i v) buf s r := by
  obtain ⟨hp, hd, hc⟩ := h
  refine ⟨?_, ?_, ?_⟩
  · rw [heap_setCell_far _ _ _ _ _ (Ne.symm hpd)]; exact hp
  · exact heap_setCell_at _ _ _ _ hd
  · rw [heap_setCell_far _ _ _ _ _ hdc]; exact hc
theorem RS.setFree (h : RS w T E p d c cap first A buf s r) (hpc : p ≠ c) (hdc : d ≠ c) (b : Array Value) (s' r' : Nat) : RS (w.setChan c cap b false s' r' false) T E p d c cap first A b s' r' := by
  obtain ⟨_, _, lc⟩ := h.lt
  obtain ⟨hp, hd, hc⟩ := h
  refine ⟨?_, ?_, ?_⟩
  · rw [heap_setChan_far _ _ _ _ _ _ _ _ _ (Ne.symm hpc)]; exact hp
  · rw [heap_setChan_far _ _ _ _ _ _ _ _ _ (Ne.symm hdc)]; exact hd
  · exact heap_setChan _ _ _ _ _ _ _ _ lc
theorem Turn.drew {a : World} (h : Turn p d c a w) : Turn p d c a w.drew := ⟨h.1.drew, h.2⟩
theorem Turn.setCell {a : World} (h : Turn p d c a w) {q : Nat} (hq : q = p ∨ q = d ∨ q = c) (o : Nat) (v : Value) : Turn p d c a (w.setCell ⟨q, o, none⟩ v) :=
  ⟨h.1.setCell (Nat.zero_le _) v, fun k hk h1 h2 h3 => by rw [heap_setCell_far _ _ _ _ _ (by rcases hq with rfl | rfl | rfl <;> omega)]; exact h.2 k hk h1 h2 h3⟩
theorem Turn.setChan {a : World} (h : Turn p d c a w) (cap : Nat) (buf : Array Value) (cl : Bool) (s r : Nat) (tm : Bool) : Turn p d c a (w.setChan c cap buf cl s r tm) :=
  ⟨below_setChan h.1 (Nat.zero_le _) _ _ _ _ _ _, fun k hk h1 h2 h3 => by rw [heap_setChan_far _ _ _ _ _ _ _ _ _ (Ne.symm h3)]; exact h.2 k hk h1 h2 h3⟩
end

/-- Which list a ring holds. -/
def Holds (cap first : Nat) (A buf : Array Value) (l : List Value) : Prop :=
  1 ≤ cap ∧ cap ≤ 256 ∧ first < cap ∧ A.size = cap ∧ buf.size + l.length = cap ∧
  (∀ j, j < buf.size → buf[j]? = some (.int .i64 ((first + l.length + j) % cap : Nat))) ∧ (∀ i, i < l.length → A[(first + i) % cap]? = l[i]?)

/-- The ring at p, whose places lie in d and whose free ones wait in c, holds l. -/
def IsRing (w : World) (T E : TypeId) (p d c cap : Nat) (l : List Value) : Prop :=
  ∃ first A buf s r, RS w T E p d c cap first A buf s r ∧ Holds cap first A buf l ∧ p ≠ d ∧ p ≠ c ∧ d ≠ c
end Go.Proofs.Ytfgljkeohoffiaa
