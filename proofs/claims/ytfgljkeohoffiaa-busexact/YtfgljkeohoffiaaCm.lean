/- A region whose list holds a communication, in a machine of one goroutine: rules for the walk. -/
import Derived.Test.YtfgljkeohoffiaaRows
import Derived.Conc.LoneCalls
import Derived.Conc.LoneSelect
import Derived.Conc.LoneSelectN
import Derived.StillTailTactics
import Derived.Deep.Draws
namespace Go.Proofs.Ytfgljkeohoffiaa
open Go.RowKit Go.Conc

section
variable {P : Program} {ops : Array Oper} {Q : Exit → Act → World → Prop} {a : Act} {w w' : World} {o : Oper} {i : Nat} {rest l : List Nat} {v : Value}

/-- What is left of a region's list comes to an end of which Q holds. -/
def Tail (P : Program) (ops : Array Oper) (Q : Exit → Act → World → Prop) (l : List Nat) (a : Act) (w : World) : Prop :=
  ∀ (b : Frame) (k : List Item) (cs : List Frame), ∃ e a' w', Q e a' w' ∧ Arrives P (lone (b.at a (.inRegion ops l :: k)) cs w) b k cs e a' w'

theorem tail_of_ops (h : wpOps P ops Q l a w) : Tail P ops Q l a w := fun b k cs => wp_ops l a w h b k cs

/-- The operation, carried out at a and w, hands over v and leaves w': one step of the machine of one. -/
def Hands (P : Program) (o : Oper) (a : Act) (w : World) (v : Value) (w' : World) : Prop :=
  ∀ (b : Frame) (k : List Item) (cs : List Frame) (ops : Array Oper) (i : Nat) (rest : List Nat), ops[i]? = some o → Region.wanted o (yielded ops a.tmps) = true →
    step P (lone (b.at a (.inRegion ops (i :: rest) :: k)) cs w) = .next (lone (b.at (a.put o.dst v) (.inRegion ops rest :: k)) cs w')

theorem tail_comm (ho : ops[i]? = some o) (hw : Region.wanted o (yielded ops a.tmps) = true) (hc : Hands P o a w v w') (h : Tail P ops Q rest (a.put o.dst v) w') : Tail P ops Q (i :: rest) a w :=
  fun b k cs => let ⟨e, a', w'', q, r⟩ := h b k cs; ⟨e, a', w'', q, .of_steps (.one (hc b k cs ops i rest ho hw)) r⟩

theorem tail_yields (ho : ops[i]? = some o) (hy : YieldsAt P ops w o v a) (h : Tail P ops Q rest (a.put o.dst v) w) : Tail P ops Q (i :: rest) a w := by
  intro b k cs
  obtain ⟨e, a', w'', q, r⟩ := h b k cs
  refine ⟨e, a', w'', q, ?_⟩
  have hfin : ∀ v, (b.at a (.inRegion ops (i :: rest) :: k)).finish v = b.at (a.put o.dst v) (.inRegion ops rest :: k) := by
    intro v; rw [Frame.finish_at, ho]; rfl
  rcases hy with ⟨hw, hv | ⟨hv, rfl⟩ | ⟨f, args, hv, hc⟩⟩ | ⟨hw, rfl⟩
  · refine .of_steps (.one (step_lone_go ?_)) r
    rw [stepG_op ho hw, ← hfin]; simp [stepG.apply, hv]
  · refine .of_steps (.one (step_lone_go ?_)) r
    rw [stepG_op ho hw, ← hfin]; simp [stepG.apply, hv]
  · obtain ⟨e', w₁, fr, ⟨he, hw1⟩, hs, _, hl⟩ := hc (b.at a (.inRegion ops (i :: rest) :: k) :: cs)
    subst he; subst hw1
    refine .of_steps (.head (step_lone_go (fr' := Frame.enter P f args .normal) (cs' := b.at a (.inRegion ops (i :: rest) :: k) :: cs) (w' := w₁) ?_) (Steps.trans hs (.one ?_))) r
    · rw [stepG_op ho hw]; simp [stepG.apply, hv, Frame.at]
    · rw [← hfin]; exact step_leave_returned hl
  · have hs := step_op_skip (P := P) (b := b) (a := a) (k := k) (cs := cs) (w := w) (ops := ops) (i := i) (rest := rest) (by simp [ho]; simpa using hw)
    simp only [ho, Option.bind_some] at hs
    exact .of_steps (.one hs) r

theorem wp_region_tail {id : Nat} (h : Tail P ops Q (List.range ops.size) a w) : (Code.region id ops false).wp P Q a w :=
  fun b k cs => let ⟨e, a', w', q, r⟩ := h b k cs; ⟨e, a', w', q, .of_steps (.one step_region) r⟩

/-- Reads ahead, in the order of the text; then the rest of the list. -/
theorem tail_still {K : Act → Prop} : ∀ (l : List Oper) (is rest : List Nat) (a : Act), is.map (ops[·]?) = l.map some → wpStill P ops w K l a →
    (∀ a, K a → Tail P ops Q rest a w) → Tail P ops Q (is ++ rest) a w
  | [], is, rest, a, hi, h, hK => by
    have : is = [] := by simpa using hi
    subst this; exact hK _ h
  | o :: l, [], rest, a, hi, h, hK => by simp at hi
  | o :: l, i :: is, rest, a, hi, h, hK => by
    simp only [List.map_cons, List.cons.injEq] at hi
    have hst : stOp P ops w i (wpStill P ops w K l) a := by unfold stOp; simp only [hi.1]; exact h
    obtain ⟨v, hy, h'⟩ := yieldsAt_of_stOp hi.1 hst
    exact tail_yields hi.1 hy (tail_still l is rest _ hi.2 h' hK)

theorem tail_of_head {md : Region.Mode} {n g : Nat} {L : Array Bool → Act → Prop} (hL : ∀ listed a t, L listed a → Tail P ops Q (Region.linearise.go md ops g t listed []) a w) :
    ∀ (f : Nat) (listed : Array Bool) (a : Act) (t : Nat), wpAnyL P md ops w n L f listed a → Tail P ops Q (Region.linearise.go md ops (f + g) t listed []) a w
  | 0, listed, a, t, h => by rw [Nat.zero_add]; exact hL _ _ _ h
  | f + 1, listed, a, t, h => by
    rw [show f + 1 + g = (f + g) + 1 by omega]
    obtain ⟨h0, h1⟩ := h
    simp only [Region.linearise.go]
    change Tail P ops Q (match (Region.ready md ops listed)[t % (Region.ready md ops listed).length]? with
      | some i => Region.linearise.go md ops (f + g) (t / (Region.ready md ops listed).length) (listed.setIfInBounds i true) [i]
      | none => [].reverse) a w
    have hpos : 0 < (Region.ready md ops listed).length := List.length_pos_iff.2 h0
    have hlt := Nat.mod_lt t hpos
    rw [List.getElem?_eq_getElem hlt]
    simp only []
    rw [linearise_go_acc, List.reverse_singleton, List.singleton_append]
    have hm : (Region.ready md ops listed)[t % (Region.ready md ops listed).length] ∈ Region.ready md ops listed := List.getElem_mem _
    obtain ⟨_, hst⟩ := h1 _ hm
    obtain ⟨_, oi, hoi, _⟩ := mem_ready.1 hm
    obtain ⟨v, hy, hK⟩ := yieldsAt_of_stOp hoi hst
    exact tail_yields hoi hy (tail_of_head hL f _ _ _ hK)

/-- A region that draws its order: all but its last operation only read; the last one waits for all of them. -/
theorem wp_region_still_last {id : Nat} {l : List Oper} (n : Nat) (hm : P.follows .mixedOrders = true) (hB : Region.lexTailB .any l.toArray n = true) (hn1 : l.length = n + 1)
    (h : wpStill P l.toArray w.drew (fun a' => Tail P l.toArray Q [n] a' w.drew) (l.take n) a) : (Code.region id l.toArray true).wp P Q a w := by
  simp only [Region.lexTailB, Bool.and_eq_true, decide_eq_true_eq] at hB
  obtain ⟨⟨⟨⟨hsel, hn⟩, hs⟩, hc⟩, hlex⟩ := hB
  have hg : l.toArray.size - n = 1 := by simp; omega
  rw [hg] at hlex
  have htl : (l.take n).length = n := by simp; omega
  have inv0 : HeadInv .any l.toArray n (Array.replicate l.toArray.size false) :=
    ⟨by simp, fun j oj _ hl => (by rw [getD_replicate_false] at hl; cases hl), fun t _ ht => getD_in (by simpa using ht) (getD_replicate_false _ _)⟩
  have H := wpAnyL_lex (md := .any) (g := 1) hsel hs hc hn (l.take n) 0 _ a (fun j hj => by
    have hj' : j < n := by rw [htl] at hj; exact hj
    simp [hj']) (by simpa using htl) inv0 (by rw [htl]; exact hlex) h
  intro b k cs
  have key := tail_of_head (Q := Q) (g := 1) (fun listed a' t hL => by
    obtain ⟨hq, ht⟩ := hL
    simp only [Region.seqB, Bool.and_eq_true, decide_eq_true_eq] at hq
    have e : Region.linearise.go .any l.toArray 1 t listed [] = [n] := by
      simp only [Region.linearise.go]
      change (match (Region.ready .any l.toArray listed)[t % (Region.ready .any l.toArray listed).length]? with
        | some i => Region.linearise.go .any l.toArray 0 (t / (Region.ready .any l.toArray listed).length) (listed.setIfInBounds i true) [i]
        | none => [].reverse) = [n]
      rw [hq.1]
      simp [Region.linearise.go, Nat.mod_one]
    rw [e]; exact ht) _ _ _ (w.tape w.drawn (.order b.fn id)) H b k cs
  obtain ⟨e, a', w', q, r⟩ := key
  refine ⟨e, a', w', q, .of_steps (.one step_region_draw) ?_⟩
  have hsz : (l.take n).length + 1 = l.toArray.size := by simp; omega
  rw [hsz] at r
  simp only [Region.schedule, hm, Bool.true_or, if_true, Region.linearise]
  exact r

theorem tail_nil (h : Q .normal a w) : Tail P ops Q [] a w := tail_of_ops h

theorem tail_last0 (ho : ops[i]? = some o) (hd : o.dst = none) (hw : Region.wanted o (yielded ops a.tmps) = true) (hc : Hands P o a w v w') (h : Q .normal a w') : Tail P ops Q [i] a w :=
  tail_comm ho hw hc (tail_nil (by rw [hd]; exact h))

/-- Reads, a communication, reads: in the order of the text. -/
theorem wp_region_comm {id : Nat} {l : List Oper} (n : Nat) (o : Oper) (hn : l[n]? = some o)
    (h : wpStill P l.toArray w (fun a => Region.wanted o (yielded l.toArray a.tmps) = true ∧ ∃ v w', Hands P o a w v w' ∧ wpStill P l.toArray w' (fun a' => Q .normal a' w') (l.drop (n + 1)) (a.put o.dst v)) (l.take n) a) :
    (Code.region id l.toArray false).wp P Q a w := by
  have hlt : n < l.length := (List.getElem?_eq_some_iff.1 hn).1
  refine wp_region_tail ?_
  have e : List.range l.toArray.size = List.range' 0 n ++ (n :: List.range' (n + 1) (l.length - (n + 1))) := by
    rw [List.size_toArray, List.range_eq_range', show l.length = n + (l.length - (n + 1) + 1) by omega, ← List.range'_append_1, List.range'_succ]
    simp; omega
  have hm : ∀ (m k : Nat), m + k ≤ l.length → (List.range' m k).map (l.toArray[·]?) = ((l.drop m).take k).map some := by
    intro m k hk
    apply List.ext_getElem?
    intro i
    simp only [List.getElem?_map, List.getElem?_take, List.getElem?_drop]
    by_cases hi : i < k
    · rw [List.getElem?_range' hi]
      simp [hi]
      rw [List.getElem?_eq_getElem (by omega)]
      simp
    · simp [hi]
  rw [e]
  refine tail_still (l.take n) _ _ a ?_ h ?_
  · have := hm 0 n (by omega); simpa using this
  · rintro a' ⟨hw, v, w', hh, hr⟩
    refine tail_comm (by simpa using hn) hw hh ?_
    have hr' := tail_still (ops := l.toArray) (Q := Q) (rest := []) (l.drop (n + 1)) (List.range' (n + 1) (l.length - (n + 1))) _ (by
      rw [hm _ _ (by omega)]
      rw [List.take_of_length_le (by simp)]) hr (fun a' h' => tail_nil h')
    simpa using hr'

theorem stepG_comm_any {main : Bool} {b : Frame} {k : List Item} {cs : List Frame} {cases : Array CommCase} {blocking : Bool} {shape : CommShape} (ho : ops[i]? = some o) (hw : Region.wanted o (yielded ops a.tmps) = true)
    (hr : (execOp a.eval o).run P w = .ok (.comm cases blocking shape) w') :
    ∃ es, stepG P main (G (b.at a (.inRegion ops (i :: rest) :: k)) cs) w = .comm (G (b.at a (.inRegion ops (i :: rest) :: k)) cs) cases blocking shape w' es := by
  rw [stepG_oper ho hw]
  simp only [stepG.apply, Sem.runT_eq, hr, if_true, GStep.after, G]
  exact ⟨_, rfl⟩

theorem hands_send {c cap s r : Nat} {buf : Array Value} {z : Value} {tm : Bool} (hr : (execOp a.eval o).run P w = .ok (.comm #[scase c v z] true .send) w) (hc : w.heap[c]? = some (.chan cap buf false s r tm)) (hroom : buf.size < cap) :
    Hands P o a w undef (w.setChan c cap (buf.push v) false (s + 1) r tm) := by
  intro b k cs ops i rest ho hw
  obtain ⟨es, h⟩ := stepG_comm_any (main := true) (b := b) (k := k) (cs := cs) (rest := rest) ho hw hr
  have := step_lone_send_room h hc hroom
  rw [Frame.finish_at, ho] at this
  exact this
theorem hands_recv {c cap s r : Nat} {buf : Array Value} {z : Value} {tm closed : Bool} (hr : (execOp a.eval o).run P w = .ok (.comm #[rcase c z] false .select) w) (hc : w.heap[c]? = some (.chan cap buf closed s r tm)) (hsome : 0 < buf.size) :
    Hands P o a w (.tuple #[goInt 0, .bool true, buf.getD 0 undef]) (w.setChan c cap (buf.extract 1 buf.size) closed s (r + 1) tm) := by
  intro b k cs ops i rest ho hw
  obtain ⟨es, h⟩ := stepG_comm_any (main := true) (b := b) (k := k) (cs := cs) (rest := rest) ho hw hr
  have := step_lone_select_recv_buf h hc hsome
  rw [Frame.finish_at, ho] at this
  exact this
theorem hands_default {c cap s r : Nat} {z : Value} {tm : Bool} (hr : (execOp a.eval o).run P w = .ok (.comm #[rcase c z] false .select) w) (hc : w.heap[c]? = some (.chan cap #[] false s r tm)) :
    Hands P o a w (.tuple #[goInt (-1), .bool false, z]) w := by
  intro b k cs ops i rest ho hw
  obtain ⟨es, h⟩ := stepG_comm_any (main := true) (b := b) (k := k) (cs := cs) (rest := rest) ho hw hr
  have := step_lone_select_default h hc
  rw [Frame.finish_at, ho] at this
  exact this
end
end Go.Proofs.Ytfgljkeohoffiaa
