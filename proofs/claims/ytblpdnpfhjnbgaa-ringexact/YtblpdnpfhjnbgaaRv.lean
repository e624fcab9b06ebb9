/- RingAt: what its variables hold. -/
import Derived.Test.YtblpdnpfhjnbgaaRx
import Derived.Deep.DeepCutAuto
import Derived.Deep.CutBlock
namespace Go.Proofs.Ytblpdnpfhjnbgaa
open Go.RowKit Go.Conc Go.Shelf
attribute [local go_sem] Oper.semAt_some
theorem tail_call {P : Program} {ops : Array Oper} {Q : Exit → Act → World → Prop} {a : Act} {w : World} {o : Oper} {i : Nat} {f : FuncId} {args : Array Value} (ho : ops[i]? = some o) (hw : Region.wanted o (yielded ops a.tmps) = true)
    (hr : (execOp a.eval o).run P w = .ok (.enter f args) w) (hc : Calls P f args w (fun e w' => ∃ v, e = .returned v ∧ Q .normal (a.put o.dst v) w')) : Tail P ops Q [i] a w := by
  refine tail_of_ops ?_
  simp only [wpOps, ho, hw, if_true]
  refine .inl ?_
  simp only [Oper.wp, hr, Oper.upon]
  refine hc.mono ?_
  rintro e w' ⟨v, rfl, h⟩
  exact h
theorem Turn.keepc {p d c : Nat} {w w' : World} (h : Turn p d c w w') {b o : Nat} {v : Value} (hb : b ≠ p ∧ b ≠ d ∧ b ≠ c) (hc : w.cell? ⟨b, o, none⟩ = some v) : w'.cell? ⟨b, o, none⟩ = some v := by
  have hlt : b < w.heap.size := World.block_lt_of_cell? w ⟨b, o, none⟩ hc
  unfold World.cell? at hc ⊢
  rw [h.2 b hlt hb.1 hb.2.1 hb.2.2]; exact hc
theorem Turn.keepf {p d c : Nat} {w w' : World} (h : Turn p d c w w') {b o : Nat} {v : Value} (hb : b ≠ p ∧ b ≠ d ∧ b ≠ c) (hc : w.cell? ⟨b, o, none⟩ = some v) (hf : w.frozen? ⟨b, o, none⟩ = false) : w'.frozen? ⟨b, o, none⟩ = false := by
  have hlt : b < w.heap.size := World.block_lt_of_cell? w ⟨b, o, none⟩ hc
  unfold World.frozen? at hf ⊢
  rw [h.2 b hlt hb.1 hb.2.1 hb.2.2]; exact hf
/-- what the law's own variables hold, in world W: script, result, ring; and that the ring's blocks are others -/
structure Vars (W : World) (B rb p d c len cap : Nat) (a : Option Addr) (D N : Nat → Int) (S : Nat → ByteArray) : Prop where
  sc : W.cell? ⟨B, 1, none⟩ = some (.slice a len cap)
  re : W.cell? ⟨B + 1, 0, none⟩ = some (.bool false)
  rf : W.frozen? ⟨B + 1, 0, none⟩ = false
  rv : W.cell? ⟨rb, 0, none⟩ = some (.pointer (some ⟨p, 0, none⟩))
  ac : Acts W a len D N S
  n1 : B ≠ p ∧ B ≠ d ∧ B ≠ c
  n2 : B + 1 ≠ p ∧ B + 1 ≠ d ∧ B + 1 ≠ c
  n3 : rb ≠ p ∧ rb ≠ d ∧ rb ≠ c
  n4 : ∀ b off, a = some ⟨b, off, none⟩ → 0 < len → b ≠ p ∧ b ≠ d ∧ b ≠ c
theorem Vars.turn {W W' : World} {B rb p d c len cap : Nat} {a : Option Addr} {D N : Nat → Int} {S : Nat → ByteArray} (h : Vars W B rb p d c len cap a D N S) (t : Turn p d c W W') : Vars W' B rb p d c len cap a D N S := by
  obtain ⟨h1, h2, h3, h4, h5, n1, n2, n3, n4⟩ := h
  refine ⟨t.keepc n1 h1, t.keepc n2 h2, t.keepf n2 h2 h3, t.keepc n3 h4, ?_, n1, n2, n3, n4⟩
  intro i hi
  obtain ⟨b, off, ea, a1, a2, a3, a4⟩ := h5 i hi
  have nb := n4 b off ea (by omega)
  exact ⟨b, off, ea, t.keepc nb a1, t.keepc nb a2, t.keepc nb a3, a4⟩
theorem IsRing.grown {W W' : World} {row : Option Nat} {T E : TypeId} {p d c cap B0 : Nat} {l : List Value} (h : IsRing W T E p d c cap l) (hg : W.grownBy W' row) (hr : ∀ r, row = some r → B0 ≤ r ∧ ∃ o : Obj, W.heap[r]? = some o ∧ o.isCells = false) (hc : c < B0) : IsRing W' T E p d c cap l := by
  obtain ⟨first, A, buf, s, r, h, hh, hd⟩ := h
  obtain ⟨lp, ld, lc⟩ := h.lt
  obtain ⟨hp, hdd, hcc⟩ := h
  have k : ∀ b o, b < W.heap.size → W.heap[b]? = some o → (o.isCells = true ∨ b < B0) → W'.heap[b]? = some o := by
    intro b o hb ho hx
    rw [hg.block b hb (fun e => by
      obtain ⟨h1, o', h2, h3⟩ := hr b e.symm
      rw [ho] at h2; cases h2
      rcases hx with hx | hx
      · rw [h3] at hx; cases hx
      · omega)]
    exact ho
  exact ⟨first, A, buf, s, r, ⟨k p _ lp hp (.inl rfl), k d _ ld hdd (.inl rfl), k c _ lc hcc (.inr hc)⟩, hh, hd⟩
theorem Vars.grown {W W' : World} {row : Option Nat} {B rb p d c len cap : Nat} {a : Option Addr} {D N : Nat → Int} {S : Nat → ByteArray} (h : Vars W B rb p d c len cap a D N S) (hg : W.grownBy W' row) (hr : ∀ r, row = some r → ∃ o : Obj, W.heap[r]? = some o ∧ o.isCells = false) : Vars W' B rb p d c len cap a D N S := by
  obtain ⟨h1, h2, h3, h4, h5, n1, n2, n3, n4⟩ := h
  refine ⟨cell_kept h1 hg hr, cell_kept h2 hg hr, (frozen_kept h2 hg hr).trans h3, cell_kept h4 hg hr, ?_, n1, n2, n3, n4⟩
  intro i hi
  obtain ⟨b, off, ea, a1, a2, a3, a4⟩ := h5 i hi
  exact ⟨b, off, ea, cell_kept a1 hg hr, cell_kept a2 hg hr, cell_kept a3 hg hr, a4⟩
theorem Vars.ext {W W' : World} {B rb p d c len cap : Nat} {a : Option Addr} {D N : Nat → Int} {S : Nat → ByteArray} (h : Vars W B rb p d c len cap a D N S) (hx : Ext W W') : Vars W' B rb p d c len cap a D N S :=
  h.turn (Turn.of_ext hx)
/-- what holds between two rounds of the range: j of them are over -/
structure Mid (w W : World) (B rb kb p d c len cap n : Nat) (a : Option Addr) (D N : Nat → Int) (S : Nat → ByteArray) (zs : List Int) (j : Nat) : Prop where
  v : Vars W B rb p d c len cap a D N S
  kc : W.cell? ⟨kb, 0, none⟩ = some (.int .i64 j)
  kf : W.frozen? ⟨kb, 0, none⟩ = false
  r : Ri W p d c n (vals zs)
  x : Ext w W
section
variable {w W W' : World} {B rb kb p d c len cap n : Nat} {a : Option Addr} {D N : Nat → Int} {S : Nat → ByteArray} {zs : List Int} {j : Nat}
theorem Mid.grown {row : Option Nat} {B0 : Nat} (h : Mid w W B rb kb p d c len cap n a D N S zs j) (hg : W.grownBy W' row) (hr : ∀ r, row = some r → B0 ≤ r ∧ ∃ o : Obj, W.heap[r]? = some o ∧ o.isCells = false) (hc : c < B0) (hw : w.heap.size ≤ B0) : Mid w W' B rb kb p d c len cap n a D N S zs j := by
  have hr' : ∀ r, row = some r → ∃ o : Obj, W.heap[r]? = some o ∧ o.isCells = false := fun r e => (hr r e).2
  refine ⟨h.v.grown hg hr', cell_kept h.kc hg hr', (frozen_kept h.kc hg hr').trans h.kf, IsRing.grown h.r hg hr hc, ?_⟩
  refine ⟨hg.os.trans h.x.os, hg.tape.trans h.x.tape, hg.output.trans h.x.output, Nat.le_trans h.x.size hg.size, fun k hk => ?_⟩
  rw [hg.block k (Nat.lt_of_lt_of_le hk h.x.size) (fun e => by have := (hr k e.symm).1; omega)]
  exact h.x.block k hk
theorem Mid.quiet (h : Mid w W B rb kb p d c len cap n a D N S zs j) (q : Quiet W W') : Mid w W' B rb kb p d c len cap n a D N S zs j := by
  refine ⟨h.v.turn q.turn, ?_, ?_, q.ring h.r, q.ext h.x⟩ <;> (obtain ⟨m, rfl⟩ := q)
  · exact h.kc
  · exact h.kf
theorem Mid.count (h : Mid w W B rb kb p d c len cap n a D N S zs j) (hk : w.heap.size ≤ kb) (hn : kb ≠ B ∧ kb ≠ B + 1 ∧ kb ≠ rb ∧ kb ≠ p ∧ kb ≠ d ∧ kb ≠ c) (hab : ∀ b off, a = some ⟨b, off, none⟩ → 0 < len → kb ≠ b) (m : Nat) : Mid w (W.setCell ⟨kb, 0, none⟩ (.int .i64 m)) B rb kb p d c len cap n a D N S zs m := by
  obtain ⟨h1, h2, h3, h4, h5⟩ := h
  obtain ⟨e1, e2, e3, e4, e5, e6⟩ := hn
  have kc : ∀ b o, b ≠ kb → (W.setCell ⟨kb, 0, none⟩ (.int .i64 m)).cell? ⟨b, o, none⟩ = W.cell? ⟨b, o, none⟩ := fun b o hb => World.cell?_setCell_other _ _ _ _ (by intro e; have := congrArg Addr.block e; dsimp only at this; omega)
  refine ⟨?_, World.cell?_setCell_same' _ _ _ (by rw [h2]; rfl), by rw [World.frozen?_setCell]; exact h3, ?_, Below.setCell h5 hk _⟩
  · obtain ⟨a1, a2, a3, a4, a5, n1, n2, n3, n4⟩ := h1
    refine ⟨by rw [kc _ _ (by omega)]; exact a1, by rw [kc _ _ (by omega)]; exact a2, by rw [World.frozen?_setCell]; exact a3, by rw [kc _ _ (by omega)]; exact a4, ?_, n1, n2, n3, n4⟩
    intro i hi
    obtain ⟨b, off, ea, b1, b2, b3, b4⟩ := a5 i hi
    have nb := hab b off ea (by omega)
    exact ⟨b, off, ea, by rw [kc _ _ (by omega)]; exact b1, by rw [kc _ _ (by omega)]; exact b2, by rw [kc _ _ (by omega)]; exact b3, b4⟩
  · exact IsRing.far (p' := kb) (d' := kb) (c' := kb) h4 ((Turn.refl kb kb kb W).setCell (.inl rfl) 0 _) (by omega) (by omega) (by omega)
end
theorem keeps_quiet_set (W : World) (B0 m : Nat) (a : Addr) (v : Value) : KeepsFrom B0 W ((W.drewN m).setCell a v) := by
  have h := (KeepsOthers.setCell (W.drewN m) a v).from B0
  exact ⟨h.size, h.same⟩
/-- what holds behind the range -/
structure Aft (w W : World) (B rb p d c len cap n D' : Nat) (a : Option Addr) (D N : Nat → Int) (S : Nat → ByteArray) (l : List Value) : Prop where
  v : Vars W B rb p d c len cap a D N S
  r : Ri W p d c n l
  x : Ext w W
  k : W.heap[D']? = some (.deferred (some []))
theorem Aft.turn {w W W' : World} {B rb p d c len cap n D' : Nat} {a : Option Addr} {D N : Nat → Int} {S : Nat → ByteArray} {l l' : List Value} (h : Aft w W B rb p d c len cap n D' a D N S l) (t : Turn p d c W W') (hr : Ri W' p d c n l') (hw : w.heap.size ≤ p ∧ w.heap.size ≤ d ∧ w.heap.size ≤ c) (hD : D' ≠ p ∧ D' ≠ d ∧ D' ≠ c) : Aft w W' B rb p d c len cap n D' a D N S l' :=
  ⟨h.v.turn t, hr, t.below h.x (Nat.le_refl _) hw.1 hw.2.1 hw.2.2, (t.2 D' (Array.getElem?_eq_some_iff.1 h.k).1 hD.1 hD.2.1 hD.2.2).trans h.k⟩
theorem Aft.quiet {w W W' : World} {B rb p d c len cap n D' : Nat} {a : Option Addr} {D N : Nat → Int} {S : Nat → ByteArray} {l : List Value} (h : Aft w W B rb p d c len cap n D' a D N S l) (q : Quiet W W') (hw : w.heap.size ≤ p ∧ w.heap.size ≤ d ∧ w.heap.size ≤ c) (hD : D' ≠ p ∧ D' ≠ d ∧ D' ≠ c) : Aft w W' B rb p d c len cap n D' a D N S l :=
  h.turn q.turn (q.ring h.r) hw hD
end Go.Proofs.Ytblpdnpfhjnbgaa
