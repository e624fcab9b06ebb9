/- DrvExact. -/
import Derived.Test.YtdfhhfpfnkjbnaaFg
import Derived.Test.YtdfhhfpfnkjbnaaAk
import Derived.Test.YtdfhhfpfnkjbnaaEd
import Derived.Deep.Cut
import Derived.Deep.DeepCutAuto
import Derived.Deep.MidRow
namespace Go.Proofs.Ytdfhhfpfnkjbnaa
open Go.RowKit Go.Conc
theorem setCells_new (T : TypeId) : ∀ (vs pre rest : List Value) (w : World), rest.length = vs.length → (w.alloc (.cells (pre ++ rest).toArray T)).setCells w.heap.size pre.length vs = w.alloc (.cells (pre ++ vs).toArray T)
  | [], pre, rest, w, h => by
    have : rest = [] := List.length_eq_zero_iff.1 h
    subst this; rfl
  | v :: vs, pre, [], w, h => by simp at h
  | v :: vs, pre, r :: rest, w, h => by
    show ((w.alloc (.cells (pre ++ r :: rest).toArray T)).setCell ⟨w.heap.size, pre.length, none⟩ v).setCells w.heap.size (pre.length + 1) vs = _
    rw [World.setCell_alloc_new]
    have e : (pre ++ r :: rest).toArray.setIfInBounds pre.length v = ((pre ++ [v]) ++ rest).toArray := by simp
    have k := setCells_new T vs (pre ++ [v]) rest w (by simpa using h)
    rw [e]
    rw [show pre.length + 1 = (pre ++ [v]).length by simp, k]
    simp
/-- a variable that is made and stored whole -/
theorem wpList_store_new {ops : Array Oper} {rest : List Oper} {op : Oper} {a : Act} {w : World} {Q : Exit → Act → World → Prop} (T : TypeId) (zs cs : List Value) (hgd : op.guard = none) (ty : TypeId) (x y : Operand) (ho : op.op = .store ty x y)
    (hx : a.eval x = .pointer (some ⟨w.heap.size, 0, none⟩)) (hy : a.eval y = .agg cs.toArray) (hz : zs.length = cs.length)
    (hi : (Try.prog.info? ty).map (·.size) = some cs.length) (h1 : ∀ v ∈ cs, v.oneCell' = true)
    (h : wpList Try.prog ops Q rest (a.put op.dst undef) (w.alloc (.cells cs.toArray T))) : wpList Try.prog ops Q (op :: rest) a (w.alloc (.cells zs.toArray T)) := by
  have V : HV (w.alloc (.cells zs.toArray T)) w.heap.size zs := hv_at rfl
  have ht : (w.alloc (.cells zs.toArray T)).there w.heap.size 0 cs.toArray.size := fun j hj => by
    have hj' : j < zs.length := by simp at hj; omega
    rw [Nat.zero_add, V.c j (List.getElem?_eq_getElem hj')]
    exact ⟨rfl, V.f j (List.getElem?_eq_getElem hj')⟩
  refine wpList_store_mid hgd ty x y ho w.heap.size 0 cs.toArray hx hy ht (by simpa using hi) (all_oneCell_toArray h1) ?_
  have e := setCells_new T cs [] zs w hz
  rw [List.nil_append, List.nil_append] at e
  show wpList Try.prog ops Q rest _ ((w.alloc (.cells zs.toArray T)).setCells w.heap.size 0 cs)
  have e' : (w.alloc (.cells zs.toArray T)).setCells w.heap.size 0 cs = w.alloc (.cells cs.toArray T) := e
  rw [e']
  exact h
theorem rdy_tn {own : Nat → Prop} {w w' : World} {B : Nat} {a : Option Addr} {l : List Int} (h : RdY w B a l) (t : Tn own w w') (ho : ∀ k, B ≤ k → ¬ own k) : RdY w' B a l := fun j hj => by
  obtain ⟨b, off, e, hb, hc⟩ := h j hj
  exact ⟨b, off, e, hb, t.keepc (ho b hb) hc⟩
theorem raws_form {B : Nat} {l : List Raw} {W : World} {v : Value} (h : RawsAt B l W v) : ∃ a c, v = .slice a l.length c ∧ RdR W a l := by
  rcases h.2 with ⟨e1, e2⟩ | ⟨g, cap, cur, e1, _⟩
  · subst e1
    have : l = [] := List.eq_nil_of_length_eq_zero e2
    subst this
    exact ⟨none, 0, rfl, fun i hi => by simp at hi⟩
  · subst e1
    exact ⟨_, cap, rfl, rdr_row h⟩
theorem told_len (d : Dr) (ast : Int) (data : List Int) (hok : okD d = true) : (toldD d ast data).length ≤ 100000 := by
  unfold toldD
  split
  · unfold rawsD
    split
    · rename_i h5
      have h1 := smps_len (chunkB data) d.bad (List.range d.left.toNat)
      rw [List.length_range] at h1
      have h2 : okL d = true := (okD_iff.1 hok).2.2.2.2.2.1
      unfold okL at h2
      rw [if_pos h5] at h2
      have h3 := inn_iff.1 h2
      omega
    · simp
  · simp
theorem txwr_len (d : Dr) : (txWr d).length ≤ 100000 := by
  unfold txWr
  repeat (first | split | simp)
end Go.Proofs.Ytdfhhfpfnkjbnaa
