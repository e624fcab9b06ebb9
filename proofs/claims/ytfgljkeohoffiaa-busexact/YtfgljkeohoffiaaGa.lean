/- bus: worlds, samples, a variable of a sample; Cap, Len, place of a ring of samples. -/
import Derived.Test.YtfgljkeohoffiaaRl
import Derived.Deep.RegionHeld3
import Derived.Deep.RegionHeld
import Derived.Deep.AppendLies
import Derived.Deep.OwnRows
import Derived.Laws.OwnMore
import Derived.Deep.Cut
import Derived.Deep.DeepCutAuto
namespace Go.Proofs.Ytfgljkeohoffiaa
open Go.RowKit Go.Conc
def Quiet (w w' : World) : Prop := ∃ n, w' = w.drewN n
theorem drewN_ext {w : World} (n : Nat) : Ext w (w.drewN n) := ⟨rfl, rfl, rfl, Nat.le_refl _, fun _ _ => rfl⟩
theorem Quiet.ext {w w' : World} (h : Quiet w w') : Ext w w' := by obtain ⟨n, rfl⟩ := h; exact drewN_ext n
theorem Ext.blk {w w' : World} (h : Ext w w') {k : Nat} (hk : k < w.heap.size) : w'.heap[k]? = w.heap[k]? := Below.block h k hk
theorem Ext.keepc {w w' : World} (h : Ext w w') {b o : Nat} {v : Value} (hc : w.cell? ⟨b, o, none⟩ = some v) : w'.cell? ⟨b, o, none⟩ = some v := by
  rw [Below.cell (p := ⟨b, o, none⟩) h (World.block_lt_of_cell? w ⟨b, o, none⟩ hc)]; exact hc
theorem Ext.keepf {w w' : World} (h : Ext w w') {b o : Nat} {v : Value} (hc : w.cell? ⟨b, o, none⟩ = some v) (hf : w.frozen? ⟨b, o, none⟩ = false) : w'.frozen? ⟨b, o, none⟩ = false := by
  rw [Below.frozen (p := ⟨b, o, none⟩) h (World.block_lt_of_cell? w ⟨b, o, none⟩ hc)]; exact hf
theorem Ext.new {a w : World} (h : Ext a w) {b : Nat} (hb : a.heap.size ≤ b) (o : Nat) (v : Value) : Ext a (w.setCell ⟨b, o, none⟩ v) := Below.setCell h (p := ⟨b, o, none⟩) hb _
theorem Turn.keepc {p d c : Nat} {w w' : World} (h : Turn p d c w w') {b o : Nat} {v : Value} (hb : b ≠ p ∧ b ≠ d ∧ b ≠ c) (hc : w.cell? ⟨b, o, none⟩ = some v) : w'.cell? ⟨b, o, none⟩ = some v := by
  have hlt : b < w.heap.size := World.block_lt_of_cell? w ⟨b, o, none⟩ hc
  unfold World.cell? at hc ⊢
  rw [h.2 b hlt hb.1 hb.2.1 hb.2.2]; exact hc
theorem Turn.keepf {p d c : Nat} {w w' : World} (h : Turn p d c w w') {b o : Nat} {v : Value} (hb : b ≠ p ∧ b ≠ d ∧ b ≠ c) (hc : w.cell? ⟨b, o, none⟩ = some v) (hf : w.frozen? ⟨b, o, none⟩ = false) : w'.frozen? ⟨b, o, none⟩ = false := by
  have hlt : b < w.heap.size := World.block_lt_of_cell? w ⟨b, o, none⟩ hc
  unfold World.frozen? at hf ⊢
  rw [h.2 b hlt hb.1 hb.2.1 hb.2.2]; exact hf
theorem Turn.alloc {p d c : Nat} {a w : World} (h : Turn p d c a w) (o : Obj) : Turn p d c a (w.alloc o) := h.trans (Turn.of_ext ((Ext.refl w).alloc o))
/-- Nothing that was there has turned but the blocks that are owned. -/
def Tn (own : Nat → Prop) (w w' : World) : Prop := Below 0 w w' ∧ ∀ k, k < w.heap.size → ¬ own k → w'.heap[k]? = w.heap[k]?
section
variable {own own' : Nat → Prop} {a b w w' : World}
theorem Tn.refl (own : Nat → Prop) (w : World) : Tn own w w := ⟨Below.refl _ _, fun _ _ _ => rfl⟩
theorem Tn.size (h : Tn own w w') : w.heap.size ≤ w'.heap.size := h.1.size
theorem Tn.of_ext (h : Ext w w') : Tn own w w' := ⟨h.mono (Nat.zero_le _), fun _ hk _ => h.blk hk⟩
theorem Tn.ext (h : Tn (fun _ => False) w w') : Ext w w' := ⟨h.1.os, h.1.tape, h.1.output, h.1.size, fun k hk => h.2 k hk (fun k => k)⟩
theorem Tn.trans (h : Tn own a w) (k : Tn own' w w') (ho : ∀ i, i < a.heap.size → own' i → own i) : Tn own a w' :=
  ⟨h.1.trans k.1, fun i hi hn => (k.2 i (Nat.lt_of_lt_of_le hi h.1.size) (fun o => hn (ho i hi o))).trans (h.2 i hi hn)⟩
theorem Tn.mono (k : Tn own' w w') (ho : ∀ i, i < w.heap.size → own' i → own i) : Tn own w w' := (Tn.refl own w).trans k ho
theorem Tn.drew (h : Tn own a w) : Tn own a w.drew := ⟨h.1.drew, h.2⟩
theorem Tn.drewN (h : Tn own a w) (n : Nat) : Tn own a (w.drewN n) := h.trans (own' := own) (Tn.of_ext (drewN_ext n)) (fun _ _ o => o)
theorem Tn.more (h : Tn own a w) (x : Ext w w') : Tn own a w' := h.trans (own' := own) (Tn.of_ext x) (fun _ _ o => o)
theorem Tn.set (h : Tn own a w) {q : Nat} (hq : own q ∨ a.heap.size ≤ q) (o : Nat) (v : Value) : Tn own a (w.setCell ⟨q, o, none⟩ v) :=
  ⟨h.1.setCell (p := ⟨q, o, none⟩) (Nat.zero_le _) v, fun k hk hn => by
    rw [heap_setCell_far _ _ _ _ _ (fun e => by subst e; rcases hq with o | o; exact hn o; omega)]
    exact h.2 k hk hn⟩
theorem Tn.alloc (h : Tn own a w) (o : Obj) : Tn own a (w.alloc o) := h.more ((Ext.refl w).alloc o)
theorem Tn.keepc (h : Tn own w w') {b o : Nat} {v : Value} (hb : ¬ own b) (hc : w.cell? ⟨b, o, none⟩ = some v) : w'.cell? ⟨b, o, none⟩ = some v := by
  have hlt := World.block_lt_of_cell? w ⟨b, o, none⟩ hc
  rw [World.cell?_of_block (w := w) (w' := w') (a := ⟨b, o, none⟩) (h.2 b hlt hb)]; exact hc
theorem Tn.keepf (h : Tn own w w') {b o : Nat} {v : Value} (hb : ¬ own b) (hc : w.cell? ⟨b, o, none⟩ = some v) (hf : w.frozen? ⟨b, o, none⟩ = false) : w'.frozen? ⟨b, o, none⟩ = false := by
  have hlt := World.block_lt_of_cell? w ⟨b, o, none⟩ hc
  rw [World.frozen?_of_block (w := w) (w' := w') (a := ⟨b, o, none⟩) (h.2 b hlt hb)]; exact hf
/-- what is owned was not there ahead: nothing that was there has turned -/
theorem Tn.below (k : Tn own w w') (h : Ext a w) (ho : ∀ i, own i → a.heap.size ≤ i) : Ext a w' :=
  Below.trans h ⟨k.1.os, k.1.tape, k.1.output, k.1.size, fun i hi => k.2 i (Nat.lt_of_lt_of_le hi h.size) (fun o => by have := ho i o; omega)⟩
theorem Tn.grown {row : Option Nat} (h : Tn own a w) (hg : w.grownBy w' row) (hr : ∀ k, row = some k → own k ∨ a.heap.size ≤ k) : Tn own a w' :=
  ⟨h.1.trans ⟨hg.os, hg.tape, hg.output, hg.size, fun k hk => by omega⟩, fun k hk hn => by
    rw [hg.block k (Nat.lt_of_lt_of_le hk h.1.size) (fun e => by rcases hr k e.symm with r | r <;> first | exact hn r | omega)]
    exact h.2 k hk hn⟩
theorem Turn.tn {p d c : Nat} (h : Turn p d c w w') (hp : own p) (hd : own d) (hc : own c) : Tn own w w' :=
  ⟨h.1, fun k hk hn => h.2 k hk (fun e => hn (e ▸ hp)) (fun e => hn (e ▸ hd)) (fun e => hn (e ▸ hc))⟩
end
/-- a sample -/
structure Raw where
  x : Int
  y : Int
  z : Int
  t : Int
def nought : Raw := ⟨0, 0, 0, 0⟩
abbrev rv (r : Raw) : Value := .agg #[.int .i64 r.x, .int .i64 r.y, .int .i64 r.z, .int .i64 r.t]
abbrev Tq : TypeId := 111
abbrev Erw : TypeId := 37
/-- four cells that hold a sample -/
def C4 (w : World) (b o : Nat) (r : Raw) : Prop :=
  w.cell? ⟨b, o, none⟩ = some (.int .i64 r.x) ∧ w.cell? ⟨b, o + 1, none⟩ = some (.int .i64 r.y) ∧ w.cell? ⟨b, o + 2, none⟩ = some (.int .i64 r.z) ∧ w.cell? ⟨b, o + 3, none⟩ = some (.int .i64 r.t)
/-- a variable of a sample, which may be written -/
def P4 (w : World) (b : Nat) (r : Raw) : Prop :=
  (w.cell? ⟨b, 0, none⟩ = some (.int .i64 r.x) ∧ w.cell? ⟨b, 1, none⟩ = some (.int .i64 r.y) ∧ w.cell? ⟨b, 2, none⟩ = some (.int .i64 r.z) ∧ w.cell? ⟨b, 3, none⟩ = some (.int .i64 r.t)) ∧
  w.frozen? ⟨b, 0, none⟩ = false ∧ w.frozen? ⟨b, 1, none⟩ = false ∧ w.frozen? ⟨b, 2, none⟩ = false ∧ w.frozen? ⟨b, 3, none⟩ = false
/-- four cells written -/
def put4 (w : World) (b o : Nat) (r : Raw) : World := (((w.setCell ⟨b, o, none⟩ (.int .i64 r.x)).setCell ⟨b, o + 1, none⟩ (.int .i64 r.y)).setCell ⟨b, o + 2, none⟩ (.int .i64 r.z)).setCell ⟨b, o + 3, none⟩ (.int .i64 r.t)
section
variable {w w' : World} {b : Nat} {r : Raw}
theorem P4.lt (h : P4 w b r) : b < w.heap.size := World.block_lt_of_cell? w ⟨b, 0, none⟩ h.1.1
theorem P4.turn {p d c : Nat} (h : P4 w b r) (t : Turn p d c w w') (hb : b ≠ p ∧ b ≠ d ∧ b ≠ c) : P4 w' b r := by
  obtain ⟨⟨h0, h1, h2, h3⟩, f0, f1, f2, f3⟩ := h
  exact ⟨⟨t.keepc hb h0, t.keepc hb h1, t.keepc hb h2, t.keepc hb h3⟩, t.keepf hb h0 f0, t.keepf hb h1 f1, t.keepf hb h2 f2, t.keepf hb h3 f3⟩
theorem P4.ext (h : P4 w b r) (x : Ext w w') : P4 w' b r := by
  obtain ⟨⟨h0, h1, h2, h3⟩, f0, f1, f2, f3⟩ := h
  exact ⟨⟨x.keepc h0, x.keepc h1, x.keepc h2, x.keepc h3⟩, x.keepf h0 f0, x.keepf h1 f1, x.keepf h2 f2, x.keepf h3 f3⟩
theorem P4.tn {own : Nat → Prop} (h : P4 w b r) (x : Tn own w w') (hb : ¬ own b) : P4 w' b r := by
  obtain ⟨⟨h0, h1, h2, h3⟩, f0, f1, f2, f3⟩ := h
  exact ⟨⟨x.keepc hb h0, x.keepc hb h1, x.keepc hb h2, x.keepc hb h3⟩, x.keepf hb h0 f0, x.keepf hb h1 f1, x.keepf hb h2 f2, x.keepf hb h3 f3⟩
theorem C4.ext {o : Nat} (h : C4 w b o r) (x : Ext w w') : C4 w' b o r := by
  obtain ⟨h0, h1, h2, h3⟩ := h
  exact ⟨x.keepc h0, x.keepc h1, x.keepc h2, x.keepc h3⟩
theorem C4.tn {own : Nat → Prop} {o : Nat} (h : C4 w b o r) (x : Tn own w w') (hb : ¬ own b) : C4 w' b o r := by
  obtain ⟨h0, h1, h2, h3⟩ := h
  exact ⟨x.keepc hb h0, x.keepc hb h1, x.keepc hb h2, x.keepc hb h3⟩
theorem P4.alloc (h : P4 w b r) (o : Obj) : P4 (w.alloc o) b r := h.ext ((Ext.refl w).alloc o)
theorem p4_at {T : TypeId} (h : w.heap.size = b) : P4 (w.alloc (.cells #[.int .i64 r.x, .int .i64 r.y, .int .i64 r.z, .int .i64 r.t] T)) b r := by
  subst h
  refine ⟨⟨?_, ?_, ?_, ?_⟩, ?_, ?_, ?_, ?_⟩ <;> simp [go_sem]
theorem P4.set (h : P4 w b r) (q : Raw) : P4 (put4 w b 0 q) b q := by
  obtain ⟨⟨h0, h1, h2, h3⟩, f0, f1, f2, f3⟩ := h
  refine ⟨⟨?_, ?_, ?_, ?_⟩, ?_, ?_, ?_, ?_⟩ <;> simp [put4, go_sem, h0, h1, h2, h3, f0, f1, f2, f3]
theorem Ext.put4 {a : World} (h : Ext a w) (hb : a.heap.size ≤ b) (o : Nat) (r : Raw) : Ext a (put4 w b o r) := (((h.new hb _ _).new hb _ _).new hb _ _).new hb _ _
theorem Turn.put4 {p d c : Nat} {a : World} (h : Turn p d c a w) (hb : a.heap.size ≤ b ∨ b = p ∨ b = d ∨ b = c) (o : Nat) (r : Raw) : Turn p d c a (put4 w b o r) :=
  ⟨(((h.1.setCell (p := ⟨b, o, none⟩) (Nat.zero_le _) _).setCell (p := ⟨b, o + 1, none⟩) (Nat.zero_le _) _).setCell (p := ⟨b, o + 2, none⟩) (Nat.zero_le _) _).setCell (p := ⟨b, o + 3, none⟩) (Nat.zero_le _) _, fun k hk h1 h2 h3 => by
    have : b ≠ k := by omega
    unfold Go.Proofs.Ytfgljkeohoffiaa.put4
    rw [heap_setCell_far _ _ _ _ _ this, heap_setCell_far _ _ _ _ _ this, heap_setCell_far _ _ _ _ _ this, heap_setCell_far _ _ _ _ _ this]; exact h.2 k hk h1 h2 h3⟩
theorem RS.put4 {T E : TypeId} {p d c cap first : Nat} {A buf : Array Value} {s n : Nat} (h : RS w T E p d c cap first A buf s n) (hb : b ≠ p ∧ b ≠ d ∧ b ≠ c) (o : Nat) (r : Raw) : RS (put4 w b o r) T E p d c cap first A buf s n := by
  obtain ⟨h1, h2, h3⟩ := h
  refine ⟨?_, ?_, ?_⟩ <;> (unfold Go.Proofs.Ytfgljkeohoffiaa.put4; rw [heap_setCell_far _ _ _ _ _ (by omega), heap_setCell_far _ _ _ _ _ (by omega), heap_setCell_far _ _ _ _ _ (by omega), heap_setCell_far _ _ _ _ _ (by omega)]; assumption)
end
section
variable {p d c cap first : Nat} {A buf : Array Value} {s r : Nat}
set_option maxHeartbeats 400000 in
theorem cap_q (w : World) (h : RS w Tq Erw p d c cap first A buf s r) :
    Calls Try.prog 58 #[.pointer (some ⟨p, 0, none⟩)] w fun e w' => e = .returned (.int .i64 cap) ∧ w' = w := by
  obtain ⟨c0, c1, c2, f0, f1, f2⟩ := h.lay
  have hcap := run_cap_chan (P := Try.prog) 109 3 Try.underlying109 h.2.2
  go_enter Try.func58, Try.ntmps58
  go_wp2
  go_ret
  exact ⟨rfl, rfl⟩
set_option maxHeartbeats 400000 in
theorem len_q (w : World) (h : RS w Tq Erw p d c cap first A buf s r) {len : Nat} (hs : buf.size + len = cap) (hb : cap ≤ 256) :
    Calls Try.prog 47 #[.pointer (some ⟨p, 0, none⟩)] w fun e w' => e = .returned (.int .i64 len) ∧ ∃ n, w' = w.drewN n := by
  obtain ⟨c0, c1, c2, f0, f1, f2⟩ := h.lay
  have hcap' := fun n => run_cap_chan (P := Try.prog) 109 3 Try.underlying109 (h.drewN n).2.2
  have hlen' := fun n => run_len_chan (P := Try.prog) 109 3 Try.underlying109 (h.drewN n).2.2
  have hh : Hid (buf.size + len = cap) := hs
  clear hs
  go_enter Try.func47, Try.ntmps47
  go_wp2_with fail
  go_quiet (fail)
  clear hcap' hlen'
  go_wp2_with fail
  go_ret
  have hs := hh.out
  exact ⟨ret_int (by unfold wrap64; omega), nq, rfl⟩
set_option maxHeartbeats 400000 in
theorem place_q (w : World) (h : RS w Tq Erw p d c cap first A buf s r) (i : Nat) (h1 : first < cap) (hb : cap ≤ 256) (hi : i ≤ 256) {q : Nat} (hq : (first + i) % cap = q) :
    Calls Try.prog 71 #[.pointer (some ⟨p, 0, none⟩), .int .i64 i] w fun e w' => e = .returned (.int .i64 q) ∧ ∃ n, w' = w.drewN n := by
  obtain ⟨c0, c1, c2, f0, f1, f2⟩ := h.lay
  have HQ : Hid ((first + i) % cap = q) := hq
  clear hq
  go_enter Try.func71, Try.ntmps71
  go_wp2_with fail
  have hne : (cap : Int) ≠ 0 := by omega
  go_quiet (first | (go_at_call 58; exact Calls.quiet_of_same (cap_q _ (h.drewN _))))
  go_wp2_with fail
  go_ret
  have hq := HQ.out
  exact ⟨ret_int (by rw [← hq]; simp), nq, rfl⟩
end
end Go.Proofs.Ytfgljkeohoffiaa
