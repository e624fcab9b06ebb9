/- The reference's device in memory: nine cells of a row; off, write, read. -/
import Derived.Test.YtfgljkeohoffiaaZa
namespace Go.Proofs.Ytfgljkeohoffiaa
open Go.RowKit Go.Conc
/-- a queue: a slice that may begin anywhere in its block -/
structure QO (w : World) (qa : Option Addr) (qc : Nat) (q : List Raw) : Prop where
  li : LR w qa q
  le : q.length ≤ qc
  fo : (qa = none ∧ qc = 0) ∨ ∃ b off, qa = some ⟨b, off, none⟩ ∧ b < w.heap.size ∧ ∀ j, j < qc * 4 → (w.cell? ⟨b, off + j, none⟩).isSome = true ∧ w.frozen? ⟨b, off + j, none⟩ = false
/-- the queue's block -/
def QB (qa : Option Addr) (k : Nat) : Prop := ∃ off, qa = some ⟨k, off, none⟩
theorem qo_nil (w : World) : QO w none 0 [] := ⟨fun _ hi => absurd hi (Nat.not_lt_zero _), Nat.le_refl _, .inl ⟨rfl, rfl⟩⟩
theorem QO.tn {own : Nat → Prop} {w w' : World} {qa : Option Addr} {qc : Nat} {q : List Raw} (h : QO w qa qc q) (t : Tn own w w') (ho : ∀ k, QB qa k → ¬ own k) : QO w' qa qc q := by
  refine ⟨h.li.tn t (fun k off _ e => ho k ⟨off, e⟩), h.le, ?_⟩
  rcases h.fo with e | ⟨b, off, e, hb, hc⟩
  · exact .inl e
  · refine .inr ⟨b, off, e, Nat.lt_of_lt_of_le hb t.size, fun j hj => ?_⟩
    have hn := ho b ⟨off, e⟩
    have hk := t.2 b hb hn
    rw [World.cell?_of_block (w := w) (w' := w') (a := ⟨b, off + j, none⟩) hk, World.frozen?_of_block (w := w) (w' := w') (a := ⟨b, off + j, none⟩) hk]
    exact hc j hj
theorem QO.ext {w w' : World} {qa : Option Addr} {qc : Nat} {q : List Raw} (h : QO w qa qc q) (x : Ext w w') : QO w' qa qc q := h.tn (own := fun _ => False) (Tn.of_ext x) (fun _ _ k => k)
theorem QO.lt {w : World} {qa : Option Addr} {qc : Nat} {q : List Raw} (h : QO w qa qc q) : ∀ k, QB qa k → k < w.heap.size := fun k ⟨off, e⟩ => by
  rcases h.fo with e' | ⟨b, off', e', hb, _⟩
  · rw [e'.1] at e; cases e
  · rw [e'] at e; cases e; exact hb
/-- Nothing that was there has turned but the nine cells at o of the block g, and the blocks that are owned. -/
structure Fr (g o : Nat) (own : Nat → Prop) (w w' : World) : Prop where
  t : Tn (fun k => k = g ∨ own k) w w'
  c : ∀ j, j < o ∨ o + 9 ≤ j → w'.cell? ⟨g, j, none⟩ = w.cell? ⟨g, j, none⟩
  f : ∀ j, w'.frozen? ⟨g, j, none⟩ = w.frozen? ⟨g, j, none⟩
section
variable {g o : Nat} {own own' : Nat → Prop} {a b w w' : World}
theorem Fr.refl (g o : Nat) (own : Nat → Prop) (w : World) : Fr g o own w w := ⟨Tn.refl _ _, fun _ _ => rfl, fun _ => rfl⟩
theorem Fr.trans (h : Fr g o own a w) (k : Fr g o own' w w') (ho : ∀ i, i < a.heap.size → own' i → own i) : Fr g o own a w' :=
  ⟨h.t.trans k.t (fun i hi e => e.imp id (ho i hi)), fun j hj => (k.c j hj).trans (h.c j hj), fun j => (k.f j).trans (h.f j)⟩
theorem Fr.of_ext (x : Ext w w') (hg : g < w.heap.size) : Fr g o own w w' :=
  ⟨Tn.of_ext x, fun j _ => World.cell?_of_block (w := w) (w' := w') (a := ⟨g, j, none⟩) (x.blk hg), fun j => World.frozen?_of_block (w := w) (w' := w') (a := ⟨g, j, none⟩) (x.blk hg)⟩
theorem Fr.set (h : Fr g o own a w) (j : Nat) (hj : j < 9) (v : Value) : Fr g o own a (w.setCell ⟨g, o + j, none⟩ v) := by
  refine ⟨h.t.set (.inl (.inl rfl)) _ _, fun i hi => ?_, fun i => ?_⟩
  · rw [← h.c i hi]
    have hne : ¬ o + j = i := by omega
    simp [go_sem]
    try omega
  · rw [← h.f i]
    simp [go_sem]
end
/-- The reference's device at the cell o of the block g. -/
structure RD (w : World) (g o : Nat) (a : Option Addr) (lc : Nat) (qa : Option Addr) (qc : Nat) (s : Dv) : Prop where
  c0 : w.cell? ⟨g, o, none⟩ = some (.int .i64 s.addr)
  c1 : w.cell? ⟨g, o + 1, none⟩ = some (.int .i64 s.id)
  c2 : w.cell? ⟨g, o + 2, none⟩ = some (.slice a s.list.length lc)
  c3 : w.cell? ⟨g, o + 3, none⟩ = some (.bool s.on)
  c4 : w.cell? ⟨g, o + 4, none⟩ = some (.int .i64 s.per)
  c5 : w.cell? ⟨g, o + 5, none⟩ = some (.int .i64 s.tk)
  c6 : w.cell? ⟨g, o + 6, none⟩ = some (.int .i64 s.next)
  c7 : w.cell? ⟨g, o + 7, none⟩ = some (.int .i64 s.lost)
  c8 : w.cell? ⟨g, o + 8, none⟩ = some (.slice qa s.q.length qc)
  f : ∀ j, w.frozen? ⟨g, j, none⟩ = false
  li : LR w a s.list
  la : ∀ k off, 0 < s.list.length → a = some ⟨k, off, none⟩ → k ≠ g ∧ ¬ QB qa k
  qu : QO w qa qc s.q
  qg : ∀ k, QB qa k → k ≠ g
  n0 : 0 < s.list.length → s.next < s.list.length
  n1 : s.list.length ≤ 4096
  n2 : 1 ≤ s.per ∧ s.per ≤ 256
  n3 : s.q.length ≤ 16
  n4 : 0 ≤ s.id ∧ s.id ≤ 255
section
variable {w w' : World} {g o : Nat} {a : Option Addr} {lc : Nat} {qa : Option Addr} {qc : Nat} {s : Dv}
/-- another device, or something else, has turned -/
theorem RD.fr {o' : Nat} {own : Nat → Prop} (h : RD w g o a lc qa qc s) (t : Fr g o' own w w') (hd : o + 9 ≤ o' ∨ o' + 9 ≤ o) (ho : ∀ k, (QB qa k ∨ (0 < s.list.length ∧ ∃ off, a = some ⟨k, off, none⟩)) → ¬ own k) : RD w' g o a lc qa qc s := by
  have k : ∀ j v, j < 9 → w.cell? ⟨g, o + j, none⟩ = some v → w'.cell? ⟨g, o + j, none⟩ = some v := fun j v hj e => by rw [t.c _ (by omega)]; exact e
  refine ⟨k 0 _ (by omega) h.c0, k 1 _ (by omega) h.c1, k 2 _ (by omega) h.c2, k 3 _ (by omega) h.c3, k 4 _ (by omega) h.c4, k 5 _ (by omega) h.c5, k 6 _ (by omega) h.c6, k 7 _ (by omega) h.c7, k 8 _ (by omega) h.c8, fun j => by rw [t.f]; exact h.f j, h.li.tn t.t (fun k off h0 e => ?_), h.la, h.qu.tn t.t (fun k hk => ?_), h.qg, h.n0, h.n1, h.n2, h.n3, h.n4⟩
  · rintro (e2 | e2)
    · exact (h.la k off h0 e).1 e2
    · exact ho k (.inr ⟨h0, off, e⟩) e2
  · rintro (e2 | e2)
    · exact h.qg k hk e2
    · exact ho k (.inl hk) e2
theorem RD.glt (h : RD w g o a lc qa qc s) : g < w.heap.size := World.block_lt_of_cell? w ⟨g, o, none⟩ h.c0
theorem RD.ext (h : RD w g o a lc qa qc s) (x : Ext w w') : RD w' g o a lc qa qc s :=
  h.fr (o' := o + 9) (own := fun _ => False) (Fr.of_ext x h.glt) (.inl (Nat.le_refl _)) (fun _ _ k => k)
theorem RD.kept (h : RD w g o a lc qa qc s) (j : Nat) (v : Value) : LR (w.setCell ⟨g, j, none⟩ v) a s.list ∧ QO (w.setCell ⟨g, j, none⟩ v) qa qc s.q := by
  have t : Tn (fun k => k = g) w (w.setCell ⟨g, j, none⟩ v) := (Tn.refl (fun k => k = g) w).set (.inl rfl) j v
  exact ⟨h.li.tn t (fun k off h1 h2 e => (h.la k off h1 h2).1 e), h.qu.tn t (fun k hk e => h.qg k hk e)⟩
theorem RD.setOn (h : RD w g o a lc qa qc s) (n : Bool) : RD (w.setCell ⟨g, o + 3, none⟩ (.bool n)) g o a lc qa qc { s with on := n } := by
  obtain ⟨h1, h2⟩ := h.kept (o + 3) (.bool n)
  refine ⟨?_, ?_, ?_, ?_, ?_, ?_, ?_, ?_, ?_, ?_, h1, h.la, h2, h.qg, h.n0, h.n1, h.n2, h.n3, h.n4⟩ <;> simp [go_sem, h.c0, h.c1, h.c2, h.c3, h.c4, h.c5, h.c6, h.c7, h.c8, h.f]
theorem RD.setPer (h : RD w g o a lc qa qc s) (n : Nat) (hn : 1 ≤ n ∧ n ≤ 256) : RD (w.setCell ⟨g, o + 4, none⟩ (.int .i64 n)) g o a lc qa qc { s with per := n } := by
  obtain ⟨h1, h2⟩ := h.kept (o + 4) (.int .i64 n)
  refine ⟨?_, ?_, ?_, ?_, ?_, ?_, ?_, ?_, ?_, ?_, h1, h.la, h2, h.qg, h.n0, h.n1, hn, h.n3, h.n4⟩ <;> simp [go_sem, h.c0, h.c1, h.c2, h.c3, h.c4, h.c5, h.c6, h.c7, h.c8, h.f]
theorem RD.setTk (h : RD w g o a lc qa qc s) (n : Nat) : RD (w.setCell ⟨g, o + 5, none⟩ (.int .i64 n)) g o a lc qa qc { s with tk := n } := by
  obtain ⟨h1, h2⟩ := h.kept (o + 5) (.int .i64 n)
  refine ⟨?_, ?_, ?_, ?_, ?_, ?_, ?_, ?_, ?_, ?_, h1, h.la, h2, h.qg, h.n0, h.n1, h.n2, h.n3, h.n4⟩ <;> simp [go_sem, h.c0, h.c1, h.c2, h.c3, h.c4, h.c5, h.c6, h.c7, h.c8, h.f]
theorem RD.setNext (h : RD w g o a lc qa qc s) (n : Nat) (hn : 0 < s.list.length → n < s.list.length) : RD (w.setCell ⟨g, o + 6, none⟩ (.int .i64 n)) g o a lc qa qc { s with next := n } := by
  obtain ⟨h1, h2⟩ := h.kept (o + 6) (.int .i64 n)
  refine ⟨?_, ?_, ?_, ?_, ?_, ?_, ?_, ?_, ?_, ?_, h1, h.la, h2, h.qg, hn, h.n1, h.n2, h.n3, h.n4⟩ <;> simp [go_sem, h.c0, h.c1, h.c2, h.c3, h.c4, h.c5, h.c6, h.c7, h.c8, h.f]
theorem RD.setLost (h : RD w g o a lc qa qc s) (n : Int) : RD (w.setCell ⟨g, o + 7, none⟩ (.int .i64 n)) g o a lc qa qc { s with lost := n } := by
  obtain ⟨h1, h2⟩ := h.kept (o + 7) (.int .i64 n)
  refine ⟨?_, ?_, ?_, ?_, ?_, ?_, ?_, ?_, ?_, ?_, h1, h.la, h2, h.qg, h.n0, h.n1, h.n2, h.n3, h.n4⟩ <;> simp [go_sem, h.c0, h.c1, h.c2, h.c3, h.c4, h.c5, h.c6, h.c7, h.c8, h.f]
/-- another queue -/
theorem RD.setQ (h : RD w g o a lc qa qc s) {qa' : Option Addr} {qc' : Nat} {q : List Raw} (hq : QO w qa' qc' q) (h16 : q.length ≤ 16) (hg : ∀ k, QB qa' k → k ≠ g ∧ (QB qa k ∨ ∀ off, 0 < s.list.length → a ≠ some ⟨k, off, none⟩)) :
    RD (w.setCell ⟨g, o + 8, none⟩ (.slice qa' q.length qc')) g o a lc qa' qc' { s with q := q } := by
  obtain ⟨h1, _⟩ := h.kept (o + 8) (.slice qa' q.length qc')
  have t : Tn (fun k => k = g) w (w.setCell ⟨g, o + 8, none⟩ (.slice qa' q.length qc')) := (Tn.refl (fun k => k = g) w).set (.inl rfl) _ _
  have h2 := hq.tn t (fun k hk e => (hg k hk).1 e)
  refine ⟨?_, ?_, ?_, ?_, ?_, ?_, ?_, ?_, ?_, ?_, h1, fun k off h0 e => ⟨(h.la k off h0 e).1, fun hk => ?_⟩, h2, fun k hk => (hg k hk).1, h.n0, h.n1, h.n2, h16, h.n4⟩
  rotate_right
  · rcases (hg k hk).2 with hk2 | hk2
    · exact (h.la k off h0 e).2 hk2
    · exact hk2 off h0 e
  all_goals simp [go_sem, h.c0, h.c1, h.c2, h.c3, h.c4, h.c5, h.c6, h.c7, h.c8, h.f]
end
/-- what a call has done to the reference's device: its queue may lie elsewhere -/
def Rd (g o : Nat) (a : Option Addr) (lc : Nat) (qa : Option Addr) (s' : Dv) (w w' : World) : Prop := ∃ qa' qc', RD w' g o a lc qa' qc' s' ∧ Fr g o (QB qa) w w' ∧ ∀ k, QB qa' k → QB qa k ∨ w.heap.size ≤ k
/-- the same, and its queue lies where it was, or nowhere -/
def Rdk (g o : Nat) (a : Option Addr) (lc : Nat) (qa : Option Addr) (s' : Dv) (w w' : World) : Prop := ∃ qa' qc', RD w' g o a lc qa' qc' s' ∧ Fr g o (QB qa) w w' ∧ ∀ k, QB qa' k → QB qa k
section
variable {w w' : World} {g o : Nat} {a : Option Addr} {lc : Nat} {qa : Option Addr} {qc : Nat} {s : Dv}
theorem Rdk.rd {s' : Dv} (h : Rdk g o a lc qa s' w w') : Rd g o a lc qa s' w w' := by
  obtain ⟨qa', qc', h1, h2, h3⟩ := h
  exact ⟨qa', qc', h1, h2, fun k e => .inl (h3 k e)⟩
theorem Rdk.of (h : RD w' g o a lc qa qc s) (t : Fr g o (QB qa) w w') : Rdk g o a lc qa s w w' := ⟨qa, qc, h, t, fun _ hk => hk⟩
theorem Rd.of (h : RD w' g o a lc qa qc s) (t : Fr g o (QB qa) w w') : Rd g o a lc qa s w w' := ⟨qa, qc, h, t, fun _ hk => .inl hk⟩
set_option maxRecDepth 20000 in
set_option maxHeartbeats 2000000 in
theorem roff_any (h : RD w g o a lc qa qc s) :
    Calls Try.prog 52 #[.pointer (some ⟨g, o, none⟩)] w fun e w' => (∃ v, e = .returned v) ∧ Rdk g o a lc qa (s.turn false) w w' := by
  have h1 := h.setOn false
  have h2 := h1.setQ (qo_nil _) (Nat.zero_le _) (fun k ⟨_, e⟩ => by cases e)
  have c3 := h.c3
  have f3 := h.f (o + 3)
  have c8 := h1.c8
  have f8 := h1.f (o + 8)
  have HR : Hid (Rdk g o a lc qa (s.turn false) w ((w.setCell ⟨g, o + 3, none⟩ (.bool false)).setCell ⟨g, o + 8, none⟩ (.slice none 0 0))) := ⟨none, 0, h2, ((Fr.refl g o (QB qa) w).set 3 (by omega) _).set 8 (by omega) _, fun k ⟨_, e⟩ => by cases e⟩
  clear h1 h2 h
  go_enter Try.func52, Try.ntmps52
  go_wp2_with fail
  go_end0
  exact ⟨⟨_, rfl⟩, HR.out⟩
end
end Go.Proofs.Ytfgljkeohoffiaa
