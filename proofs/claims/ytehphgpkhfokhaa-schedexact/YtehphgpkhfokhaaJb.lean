/- A wheel in memory. -/
import Derived.Test.YtehphgpkhfokhaaHl
import Derived.Test.YtehphgpkhfokhaaRows
import Derived.Deep.QuietTactic
import Derived.BigQuiet
import Derived.Deep.RegionWith
import Derived.BigRegion
import Derived.Deep.RegionLaw
import Derived.Deep.AppendLies
import Derived.Deep.RegionHeld
import Derived.Deep.OwnRows
import Derived.Laws.OwnMore
import Derived.Deep.Cut
import Derived.Deep.DeepCutAuto
import Derived.WalkKit
import Derived.WalkLawsBesides
import Derived.WalkSpells
namespace Go.Proofs.Ytehphgpkhfokhaa
open Go.RowKit
/-- Nothing that was there has turned; there may be more. -/
def Ext (w w' : World) : Prop := Below w.heap.size w w'
theorem Ext.refl (w : World) : Ext w w := Below.refl _ _
theorem Ext.size {w w' : World} (h : Ext w w') : w.heap.size ≤ w'.heap.size := Below.size h
theorem Ext.trans {a b c : World} (h : Ext a b) (k : Ext b c) : Ext a c := Below.trans h (Below.mono k h.size)
theorem Ext.drew {a w : World} (h : Ext a w) : Ext a w.drew := Below.drew h
theorem Ext.alloc {a w : World} (h : Ext a w) (o : Obj) : Ext a (w.alloc o) := Below.alloc h h.size o
theorem Ext.block {w w' : World} (h : Ext w w') {k : Nat} (hk : k < w.heap.size) : w'.heap[k]? = w.heap[k]? := Below.block h k hk
theorem Ext.keepc {w w' : World} (h : Ext w w') {b o : Nat} {v : Value} (hc : w.cell? ⟨b, o, none⟩ = some v) : w'.cell? ⟨b, o, none⟩ = some v := by
  rw [Below.cell (p := ⟨b, o, none⟩) h (World.block_lt_of_cell? w ⟨b, o, none⟩ hc)]; exact hc
theorem Ext.keepf {w w' : World} (h : Ext w w') {b o : Nat} {v : Value} (hc : w.cell? ⟨b, o, none⟩ = some v) (hf : w.frozen? ⟨b, o, none⟩ = false) : w'.frozen? ⟨b, o, none⟩ = false := by
  rw [Below.frozen (p := ⟨b, o, none⟩) h (World.block_lt_of_cell? w ⟨b, o, none⟩ hc)]; exact hf
theorem drewN_ext {w : World} (n : Nat) : Ext w (w.drewN n) := ⟨rfl, rfl, rfl, Nat.le_refl _, fun _ _ => rfl⟩
theorem Ext.cells {w w' : World} (h : Ext w w') {k : Nat} (hk : k < w.heap.size) (j : Nat) : w'.cell? ⟨k, j, none⟩ = w.cell? ⟨k, j, none⟩ ∧ w'.frozen? ⟨k, j, none⟩ = w.frozen? ⟨k, j, none⟩ :=
  ⟨World.cell?_of_block (w := w) (w' := w') (a := ⟨k, j, none⟩) (h.block hk), World.frozen?_of_block (w := w) (w' := w') (a := ⟨k, j, none⟩) (h.block hk)⟩
/-- Nothing that was there has turned but the cells that are owned. -/
def Turn (own : Nat → Nat → Prop) (w w' : World) : Prop :=
  Below 0 w w' ∧ (∀ k, k < w.heap.size → (∀ j, ¬ own k j) → w'.heap[k]? = w.heap[k]?) ∧
  ∀ k j, k < w.heap.size → ¬ own k j → w'.cell? ⟨k, j, none⟩ = w.cell? ⟨k, j, none⟩ ∧ w'.frozen? ⟨k, j, none⟩ = w.frozen? ⟨k, j, none⟩
theorem Turn.refl (own : Nat → Nat → Prop) (w : World) : Turn own w w := ⟨Below.refl _ _, fun _ _ _ => rfl, fun _ _ _ _ => ⟨rfl, rfl⟩⟩
theorem Turn.size {own : Nat → Nat → Prop} {w w' : World} (h : Turn own w w') : w.heap.size ≤ w'.heap.size := h.1.size
theorem Turn.of_ext {own : Nat → Nat → Prop} {w w' : World} (h : Ext w w') : Turn own w w' := ⟨h.mono (Nat.zero_le _), fun _ hk _ => h.block hk, fun _ j hk _ => h.cells hk j⟩
theorem Turn.trans {own own' : Nat → Nat → Prop} {a b c : World} (h : Turn own a b) (k : Turn own' b c) (ho : ∀ i, i < a.heap.size → ∀ j, own' i j → own i j) : Turn own a c :=
  ⟨h.1.trans k.1, fun i hi hn => (k.2.1 i (Nat.lt_of_lt_of_le hi h.1.size) (fun j o => hn j (ho i hi j o))).trans (h.2.1 i hi hn), fun i j hi hn => by
    obtain ⟨a1, a2⟩ := h.2.2 i j hi hn
    obtain ⟨b1, b2⟩ := k.2.2 i j (Nat.lt_of_lt_of_le hi h.1.size) (fun o => hn (ho i hi j o))
    exact ⟨b1.trans a1, b2.trans a2⟩⟩
theorem Turn.mono {own own' : Nat → Nat → Prop} {a b : World} (h : Turn own' a b) (ho : ∀ i, i < a.heap.size → ∀ j, own' i j → own i j) : Turn own a b := (Turn.refl own a).trans h ho
theorem Turn.drew {own : Nat → Nat → Prop} {a w : World} (h : Turn own a w) : Turn own a w.drew := ⟨h.1.drew, h.2⟩
theorem Turn.set {own : Nat → Nat → Prop} {a w : World} (h : Turn own a w) {q o : Nat} (hq : own q o) (v : Value) : Turn own a (w.setCell ⟨q, o, none⟩ v) :=
  ⟨h.1.setCell (p := ⟨q, o, none⟩) (Nat.zero_le _) v, fun k hk hn => by
    rw [show (w.setCell ⟨q, o, none⟩ v).heap[k]? = w.heap[k]? from heap_setCell_other w ⟨q, o, none⟩ k v (fun e => hn o (by rw [e]; exact hq))]
    exact h.2.1 k hk hn, fun k j hk hn => by
    obtain ⟨a1, a2⟩ := h.2.2 k j hk hn
    rw [World.cell?_setCell_other (h := fun e => hn (by cases e; exact hq)), World.frozen?_setCell]
    exact ⟨a1, a2⟩⟩
/-- a block that was not there at first -/
theorem Turn.new {own : Nat → Nat → Prop} {a w : World} (h : Turn own a w) {q : Nat} (hq : a.heap.size ≤ q) (o : Nat) (v : Value) : Turn own a (w.setCell ⟨q, o, none⟩ v) :=
  ⟨h.1.setCell (p := ⟨q, o, none⟩) (Nat.zero_le _) v, fun k hk hn => by
    rw [show (w.setCell ⟨q, o, none⟩ v).heap[k]? = w.heap[k]? from heap_setCell_other w ⟨q, o, none⟩ k v (fun e => by simp only at e; omega)]
    exact h.2.1 k hk hn, fun k j hk hn => by
    obtain ⟨a1, a2⟩ := h.2.2 k j hk hn
    rw [World.cell?_setCell_other (h := fun e => by cases e; omega), World.frozen?_setCell]
    exact ⟨a1, a2⟩⟩
theorem Turn.alloc {own : Nat → Nat → Prop} {a w : World} (h : Turn own a w) (o : Obj) : Turn own a (w.alloc o) := h.trans (Turn.of_ext (own := own) ((Ext.refl w).alloc o)) (fun _ _ _ o => o)
theorem Turn.grown {own : Nat → Nat → Prop} {a w w' : World} {row : Option Nat} (h : Turn own a w) (hg : w.grownBy w' row) (hr : ∀ k, row = some k → (∀ j, own k j) ∨ a.heap.size ≤ k) : Turn own a w' := by
  have hb : ∀ k, k < a.heap.size → (∃ j, ¬ own k j) → w'.heap[k]? = w.heap[k]? := fun k hk hn => hg.block k (Nat.lt_of_lt_of_le hk h.1.size) (fun e => by
    rcases hr k e.symm with r | r
    · obtain ⟨j, hj⟩ := hn; exact hj (r j)
    · omega)
  refine ⟨h.1.trans ⟨hg.os, hg.tape, hg.output, hg.size, fun k hk => by omega⟩, fun k hk hn => (hb k hk ⟨0, hn 0⟩).trans (h.2.1 k hk hn), fun k j hk hn => ?_⟩
  obtain ⟨a1, a2⟩ := h.2.2 k j hk hn
  have e := hb k hk ⟨j, hn⟩
  exact ⟨(World.cell?_of_block (w := w) (w' := w') (a := ⟨k, j, none⟩) e).trans a1, (World.frozen?_of_block (w := w) (w' := w') (a := ⟨k, j, none⟩) e).trans a2⟩
theorem Turn.keepc {own : Nat → Nat → Prop} {w w' : World} (h : Turn own w w') {b o : Nat} {v : Value} (hb : ¬ own b o) (hc : w.cell? ⟨b, o, none⟩ = some v) : w'.cell? ⟨b, o, none⟩ = some v := by
  have hlt := World.block_lt_of_cell? w ⟨b, o, none⟩ hc
  rw [(h.2.2 b o hlt hb).1]; exact hc
theorem Turn.keepf {own : Nat → Nat → Prop} {w w' : World} (h : Turn own w w') {b o : Nat} {v : Value} (hb : ¬ own b o) (hc : w.cell? ⟨b, o, none⟩ = some v) (hf : w.frozen? ⟨b, o, none⟩ = false) : w'.frozen? ⟨b, o, none⟩ = false := by
  have hlt := World.block_lt_of_cell? w ⟨b, o, none⟩ hc
  rw [(h.2.2 b o hlt hb).2]; exact hf
/-- what is owned was not there ahead: nothing that was there has turned -/
theorem Turn.below {own : Nat → Nat → Prop} {a w w' : World} (k : Turn own w w') (h : Ext a w) (ho : ∀ i j, own i j → a.heap.size ≤ i) : Ext a w' :=
  Below.trans h ⟨k.1.os, k.1.tape, k.1.output, k.1.size, fun i hi => k.2.1 i (Nat.lt_of_lt_of_le hi h.size) (fun j o => by have := ho i j o; omega)⟩
/-- the cells of timers -/
def flat : List Tm → List Value
  | [] => []
  | t :: l => .int .i64 t.1 :: .int .i64 t.2.1 :: .int .i64 t.2.2 :: flat l
theorem flat_len : ∀ xs : List Tm, (flat xs).length = xs.length * 3
  | [] => rfl
  | t :: l => by simp [flat, flat_len l]; omega
theorem flat_app : ∀ xs ys : List Tm, flat (xs ++ ys) = flat xs ++ flat ys
  | [], ys => rfl
  | t :: l, ys => by simp [flat, flat_app l ys]
theorem flat_at : ∀ (xs : List Tm) (k : Nat), k < xs.length → (flat xs)[k * 3]? = some (.int .i64 (gt xs k).1) ∧ (flat xs)[k * 3 + 1]? = some (.int .i64 (gt xs k).2.1) ∧ (flat xs)[k * 3 + 2]? = some (.int .i64 (gt xs k).2.2)
  | [], k, h => by simp at h
  | t :: l, 0, _ => by simp [flat, gt]
  | t :: l, k + 1, h => by
    have := flat_at l k (by simpa using h)
    rw [show (k + 1) * 3 = k * 3 + 1 + 1 + 1 by omega]
    simpa [flat, gt] using this
theorem flat_set : ∀ (xs : List Tm) (k : Nat) (t : Tm), flat (xs.set k t) = (((flat xs).set (k * 3) (.int .i64 t.1)).set (k * 3 + 1) (.int .i64 t.2.1)).set (k * 3 + 2) (.int .i64 t.2.2)
  | [], k, t => by simp [flat]
  | s :: l, 0, t => by simp [flat]
  | s :: l, k + 1, t => by
    rw [show (k + 1) * 3 = k * 3 + 1 + 1 + 1 by omega]
    simp [flat, flat_set l k t]
theorem flat_take : ∀ (xs : List Tm) (k : Nat), flat (xs.take k) = (flat xs).take (k * 3)
  | [], k => by simp [flat]
  | s :: l, 0 => by simp [flat]
  | s :: l, k + 1 => by
    rw [show (k + 1) * 3 = k * 3 + 1 + 1 + 1 by omega]
    simp [flat, flat_take l k]
abbrev Et : TypeId := 90
def tv (t : Tm) : Value := .agg #[.int .i64 t.1, .int .i64 t.2.1, .int .i64 t.2.2]
/-- The wheel at p, whose things are the slice v: its timers as they lie, and how many were set. -/
def HS (w : World) (p : Nat) (v : Value) (xs : List Tm) (T : Int) : Prop :=
  (w.cell? ⟨p, 1, none⟩ = some v ∧ w.frozen? ⟨p, 1, none⟩ = false) ∧ (w.cell? ⟨p, 2, none⟩ = some (.int .i64 T) ∧ w.frozen? ⟨p, 2, none⟩ = false) ∧ w.ownsRow 0 Et 3 v xs.length (flat xs) ∧ v.ownBlock ≠ some p
/-- what a wheel owns -/
def own (p : Nat) (v : Value) (k j : Nat) : Prop := (k = p ∧ (j = 1 ∨ j = 2)) ∨ v.ownBlock = some k
section
variable {w w' : World} {p : Nat} {v : Value} {xs : List Tm} {T : Int}
theorem HS.ext (h : HS w p v xs T) (hx : Ext w w') : HS w' p v xs T := by
  obtain ⟨⟨a, b⟩, ⟨c, d⟩, e, f⟩ := h
  refine ⟨⟨hx.keepc a, hx.keepf a b⟩, ⟨hx.keepc c, hx.keepf c d⟩, e.kept (row := none) ⟨hx.os, hx.tape, hx.output, hx.size, fun k hk _ => hx.block hk⟩ ?_, f⟩
  cases h : v.ownBlock <;> simp
theorem HS.far (h : HS w p v xs T) {o : Nat → Nat → Prop} (hx : Turn o w w') (hp : ¬ o p 1 ∧ ¬ o p 2) (hv : ∀ k j, v.ownBlock = some k → ¬ o k j) : HS w' p v xs T := by
  obtain ⟨⟨a, b⟩, ⟨c, d⟩, e, f⟩ := h
  refine ⟨⟨hx.keepc hp.1 a, hx.keepf hp.1 a b⟩, ⟨hx.keepc hp.2 c, hx.keepf hp.2 c d⟩, ⟨e.1, ?_⟩, f⟩
  rcases e.2 with e2 | ⟨g, cap, cur, hv', hb, hg, hr⟩
  · exact .inl e2
  · refine .inr ⟨g, cap, cur, hv', hb, ?_, hr⟩
    rw [hx.2.1 g (Array.getElem?_eq_some_iff.1 hg).1 (fun j => hv g j (by rw [hv']; rfl))]; exact hg
theorem HS.drew (h : HS w p v xs T) : HS w.drew p v xs T := h
theorem HS.drewN (h : HS w p v xs T) (n : Nat) : HS (w.drewN n) p v xs T := h
theorem HS.form (h : HS w p v xs T) (hn : 0 < xs.length) : ∃ g cap, v = .slice (some ⟨g, 0, none⟩) xs.length cap ∧ xs.length ≤ cap ∧ g ≠ p := by
  obtain ⟨_, _, e, f⟩ := h
  rcases e.2 with ⟨_, h0⟩ | ⟨g, cap, cur, hv, hb, hg, hc, _⟩
  · omega
  · exact ⟨g, cap, hv, hc, fun e => f (by rw [hv, e]; rfl)⟩
end
section
variable {w w' : World} {p g cap : Nat} {xs : List Tm} {T : Int}
theorem HS.cells (h : HS w p (.slice (some ⟨g, 0, none⟩) xs.length cap) xs T) {k : Nat} (hk : k < xs.length) :
    w.cell? ⟨g, k * 3, none⟩ = some (.int .i64 (gt xs k).1) ∧ w.cell? ⟨g, k * 3 + 1, none⟩ = some (.int .i64 (gt xs k).2.1) ∧ w.cell? ⟨g, k * 3 + 2, none⟩ = some (.int .i64 (gt xs k).2.2) := by
  obtain ⟨_, _, e, _⟩ := h
  obtain ⟨f0, f1, f2⟩ := flat_at xs k hk
  refine ⟨?_, ?_, ?_⟩ <;> (rw [e.cellAt _ (by omega)]; assumption)
theorem HS.frozen (h : HS w p (.slice (some ⟨g, 0, none⟩) xs.length cap) xs T) (j : Nat) : w.frozen? ⟨g, j, none⟩ = false := by
  obtain ⟨_, _, e, _⟩ := h
  exact e.frozenAt j
/-- one of them written -/
theorem HS.put (h : HS w p (.slice (some ⟨g, 0, none⟩) xs.length cap) xs T) (i : Nat) (t : Tm) :
    HS (((w.setCell ⟨g, i * 3, none⟩ (.int .i64 t.1)).setCell ⟨g, i * 3 + 1, none⟩ (.int .i64 t.2.1)).setCell ⟨g, i * 3 + 2, none⟩ (.int .i64 t.2.2)) p (.slice (some ⟨g, 0, none⟩) (xs.set i t).length cap) (xs.set i t) T := by
  obtain ⟨⟨a, b⟩, ⟨c, d⟩, e, f⟩ := h
  have hne : g ≠ p := fun e => f (by rw [e]; rfl)
  have e1 := (((e.stored (i * 3) (.int .i64 t.1)).1.stored (i * 3 + 1) (.int .i64 t.2.1)).1.stored (i * 3 + 2) (.int .i64 t.2.2)).1
  rw [List.length_set]
  refine ⟨⟨?_, ?_⟩, ⟨?_, ?_⟩, by rw [flat_set]; rw [List.length_set]; exact e1, f⟩ <;> simp [go_sem, a, b, c, d]
end
end Go.Proofs.Ytehphgpkhfokhaa
