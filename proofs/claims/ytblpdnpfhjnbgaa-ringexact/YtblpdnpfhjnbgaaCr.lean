/- A region that draws its order and only reads, in a round of a range over a function, in the wide fence. -/
import Derived.RangeFuncNested
import Derived.RangeFuncCalls
import Derived.Deep.QuietTactic
import Derived.OrdersIn
import Derived.Test.YtblpdnpfhjnbgaaRows
namespace Go.Proofs.Ytblpdnpfhjnbgaa
open Go.RowKit
section
variable {P : Program} {ops : Array Oper} {C : World → Prop} {md : Region.Mode} {l0 n : Nat}
theorem wpOpIn_round {Q' : Exit → Act → World → Prop} {i : Nat} {a : Act} {w : World} {K : Act → Prop} {K' : Act → World → Prop} (hd : ∀ o, ops[i]? = some o → ∀ c, o.op ≠ .defer c) (hC : C w) (h : ∀ a w', C w' → K a → K' a w') (hq : qOp P ops C i K a) :
    wpOpIn (Fence.wide.inRound l0) n P ops Q' i K' a w := by
  unfold wpOpIn
  cases ho : ops[i]? with
  | none => simp only [qOp, ho] at hq; exact h _ _ hC hq
  | some o =>
    obtain ⟨v, hy, hK⟩ := yieldsIn_of_qOp ho hq
    simp only []
    rcases hy with ⟨hw, hy⟩ | ⟨hw, rfl⟩
    · simp only [hw, if_true]
      refine ⟨fun _ _ => trivial, ?_⟩
      rw [Oper.semAt_eq _ _ _ (hd o ho)]
      have hy' := hy w hC
      unfold Oper.quietAt at hy'
      generalize (execOp a.eval o).run P w = r at hy'
      cases r with
      | ok nx w' =>
        cases nx <;> simp only [Oper.quietUpon] at hy'
        case value u => obtain ⟨rfl, rfl⟩ := hy'; exact h _ _ hC hK
        case skip => obtain ⟨rfl, rfl⟩ := hy'; exact h _ _ hC hK
        case enter f args =>
          obtain ⟨rfl, hc⟩ := hy'
          refine ⟨fun hh => by simp [Fence.wide] at hh, CallsIn.inRound l0 (callsIn_wide.2 (hc.mono ?_))⟩
          rintro e w'' ⟨rfl, hC'⟩
          exact h _ _ hC' hK
      | halt x w' => simp only [Oper.quietUpon] at hy'
    · simp only [hw, Bool.false_eq_true, if_false]
      exact ⟨fun _ _ => trivial, h _ _ hC hK⟩
theorem wpAnyIn_round {Q : Act → Prop} {Q' : Exit → Act → World → Prop} (hd : ∀ (i : Nat) (o : Oper), ops[i]? = some o → ∀ c, o.op ≠ .defer c) (hQ : ∀ a w, C w → Q a → Q' .normal a w) : ∀ (fuel : Nat) (listed : Array Bool) (a : Act) (w : World), C w →
    wpAnyQ P md ops C Q fuel listed a → wpAnyIn (Fence.wide.inRound l0) n P md ops Q' fuel listed a w
  | 0, _, _, _, hw, h => ⟨h.1, hQ _ _ hw h.2⟩
  | fuel + 1, _, _, _, hw, h => ⟨fun h0 => hQ _ _ hw (h.1 h0), fun i hi => wpOpIn_round (hd i) hw (fun a' w' hw' => wpAnyIn_round hd hQ fuel _ a' w' hw') (h.2 i hi)⟩
def isDefer : Op → Bool
  | .defer _ => true
  | _ => false
theorem wpIn_round_quiet {id : Nat} {Q : Exit → Act → World → Prop} {a : Act} {w : World} {l : List Oper} (hm : P.follows .mixedOrders = true) (hB : Region.lexB .any l.toArray = true) (hdf : (l.all fun o => !isDefer o.op) = true)
    (h : wpQuiet P l.toArray (fun w' => ∃ n, w' = w.drewN n) (fun a' => ∀ w', (∃ n, w' = w.drewN n) → Q .normal a' w') l a) : (Code.region id l.toArray true).wpIn (Fence.wide.inRound l0) n P Q a w := by
  have hd : ∀ (i : Nat) (o : Oper), l.toArray[i]? = some o → ∀ c, o.op ≠ .defer c := by
    intro i o ho c hc
    have hmem : o ∈ l := List.mem_of_getElem? (by simpa using ho)
    have := List.all_eq_true.1 hdf o hmem
    rw [hc] at this
    simp [isDefer] at this
  simp only [Region.lexB, Bool.and_eq_true] at hB
  refine wpIn_region_any hm (wpAnyIn_round (C := fun w' => ∃ n, w' = w.drewN n) (Q := fun a' => ∀ w', (∃ n, w' = w.drewN n) → Q .normal a' w') hd (fun _ w' hw' h => h w' hw') _ _ _ _ ⟨1, rfl⟩ ?_)
  have := wpAnyQ_lex (C := fun w' => ∃ n, w' = w.drewN n) (md := .any) hB.1 l 0 (Array.replicate l.toArray.size false) a (by simp) (by simpa using hB.2) h
  simpa using this
end
end Go.Proofs.Ytblpdnpfhjnbgaa
