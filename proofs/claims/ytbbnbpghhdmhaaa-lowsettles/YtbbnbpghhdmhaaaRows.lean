/-
  No cell of these rows narrows 'for every input' (looked for: loops, veiled, ifaces, maps, wideKeys, modest, calm, conditions, laid).
  DERIVED. THE GIVEN ROWS OF THIS SEAT. 3 by the template 'for every input the law returns true; each argument reads behind the call as it read before'; 0 by the template 'total and deterministic' (their statements: YtbbnbpghhdmhaaaTotals.lean).
  GIVEN WITH THE SEED: the statements are not yours to turn. If you find one false, say at which input.
  Laid BY PROGRAM, IN A SANDBOX (cutbox-rows.mjs): the forced cells as the released guide's own fill.sh prints them over the translation 000b696584251cc5… (all of the seat's roots in one cut). By AI agents, Wed Nov 11 2026. No macro, syntax, notation, axiom, sorry.
-/
import Derived.Test.YtbbnbpghhdmhaaaChecked
import GoSem.Claim
import GoSem.ClaimJoined
import GoSem.ClaimMapViews
import Derived.JoinedTies
import Derived.KernelRfl
namespace Go.Proofs.Ytbbnbpghhdmhaaa
/- THE CELL 'sum', in the pinned program and in every row, IS THE sha256 OF THE DUMP (.gsa) THAT YtbbnbpghhdmhaaaProg.lean LOADS. Nothing in Lean hashes anything: it is a label: what it is worth is what the hold of that sum in a sandbox is worth. -/
noncomputable def Try.pinned : Pinned := { name := "ytbbnbpghhdmhaaa", sum := "000b696584251cc511249606eced5050c2e3349d1b3ef26fcda1e2c13290691d", checked := Try.checked }
namespace Rows
def none {H : Type} : Left H := { results := [], args := [] }

/-- 'gimballaw12.LowExact': WHATEVER THE INPUT: true; the input reads as it did. -/
def lowExactSpec : ChangeSpec := { name := "lowExact", fn := fun _ => fun
  | [d] => { results := [.lit (.bool true)], args := [d] }
  | _ => none }
def lowExactRow : OpenClaim := { program := "ytbbnbpghhdmhaaa", sum := "000b696584251cc511249606eced5050c2e3349d1b3ef26fcda1e2c13290691d", func := "gimbal/gimballaw12.LowExact", spec := "lowExact", unfollowed := true, recurses := true, named := ["math/bits.divideError", "math/bits.overflowError"], apart := false }
def LowExactSaid : Prop := lowExactRow.holds Try.pinned (OpenSpec.ofChange lowExactSpec)

/-- ITS FALSE NEIGHBOUR: 'it returns false'. Refute it at one input. -/
def lowExactWrong : ChangeSpec := { name := "lowExact", fn := fun _ => fun
  | [d] => { results := [.lit (.bool false)], args := [d] }
  | _ => none }
def LowExactWrongFalsely : Prop := lowExactRow.holds Try.pinned (OpenSpec.ofChange lowExactWrong)

/-- 'gimballaw12.LowBetween': WHATEVER THE INPUT: true; the input reads as it did. -/
def lowBetweenSpec : ChangeSpec := { name := "lowBetween", fn := fun _ => fun
  | [d] => { results := [.lit (.bool true)], args := [d] }
  | _ => none }
def lowBetweenRow : OpenClaim := { program := "ytbbnbpghhdmhaaa", sum := "000b696584251cc511249606eced5050c2e3349d1b3ef26fcda1e2c13290691d", func := "gimbal/gimballaw12.LowBetween", spec := "lowBetween", unfollowed := true, recurses := true, named := ["math/bits.divideError", "math/bits.overflowError"], apart := false }
def LowBetweenSaid : Prop := lowBetweenRow.holds Try.pinned (OpenSpec.ofChange lowBetweenSpec)

/-- ITS FALSE NEIGHBOUR: 'it returns false'. Refute it at one input. -/
def lowBetweenWrong : ChangeSpec := { name := "lowBetween", fn := fun _ => fun
  | [d] => { results := [.lit (.bool false)], args := [d] }
  | _ => none }
def LowBetweenWrongFalsely : Prop := lowBetweenRow.holds Try.pinned (OpenSpec.ofChange lowBetweenWrong)

/-- 'gimballaw12.LowSettles': WHATEVER THE INPUT: true; the input reads as it did. -/
def lowSettlesSpec : ChangeSpec := { name := "lowSettles", fn := fun _ => fun
  | [d] => { results := [.lit (.bool true)], args := [d] }
  | _ => none }
def lowSettlesRow : OpenClaim := { program := "ytbbnbpghhdmhaaa", sum := "000b696584251cc511249606eced5050c2e3349d1b3ef26fcda1e2c13290691d", func := "gimbal/gimballaw12.LowSettles", spec := "lowSettles", unfollowed := true, recurses := true, named := ["math/bits.divideError", "math/bits.overflowError"], apart := false }
def LowSettlesSaid : Prop := lowSettlesRow.holds Try.pinned (OpenSpec.ofChange lowSettlesSpec)

/-- ITS FALSE NEIGHBOUR: 'it returns false'. Refute it at one input. -/
def lowSettlesWrong : ChangeSpec := { name := "lowSettles", fn := fun _ => fun
  | [d] => { results := [.lit (.bool false)], args := [d] }
  | _ => none }
def LowSettlesWrongFalsely : Prop := lowSettlesRow.holds Try.pinned (OpenSpec.ofChange lowSettlesWrong)

/- THE SECOND FORM. 'bulk': how many values and letters a reading holds, each counted each time it is reached (what is shared counts as often as it is met; a slice's spare places count too). A statement '..UptoSaid' is the law's where the arguments, and the package variables that the reading takes, are together of bulk at most 1048576: NARROWER than '..Said'. Prove '..Said' where nothing that the law and all that it calls make is longer than what came in: it says more and counts as full. Else prove '..UptoSaid'. A law counts once. -/
mutual
def uptoBulk {H : Type} : DataW H → Nat
  | .lit (.string bytes) => bytes.length + 1
  | .lit _ => 1
  | .nil => 1
  | .ptr d => uptoBulk d + 1
  | .slice elems spare => uptoBulkAll elems + uptoBulkAll spare + 1
  | .agg parts => uptoBulkAll parts + 1
  | .iface _ d => uptoBulk d + 1
  | .map entries => uptoBulkEntries entries + 1
  | .held _ => 1
def uptoBulkAll {H : Type} : List (DataW H) → Nat
  | [] => 0
  | d :: r => uptoBulk d + uptoBulkAll r
def uptoBulkEntries {H : Type} : List (Lit × DataW H) → Nat
  | [] => 0
  | x :: r => uptoBulkEntry x + uptoBulkEntries r
def uptoBulkEntry {H : Type} : Lit × DataW H → Nat
  | (.string bytes, d) => bytes.length + uptoBulk d + 1
  | (_, d) => uptoBulk d + 1
 end
def uptoSmall : (H : Type) → List (DataW H) → Bool := fun _ ds => decide (uptoBulkAll ds ≤ 1048576)
def OpenSpec.upto (s : _root_.Go.ChangeSpec) : _root_.Go.OpenSpec := { _root_.Go.OpenSpec.ofChange s with cond := some uptoSmall }

/-- 'gimballaw12.LowExact', WHERE WHAT IT READS IS OF BULK AT MOST 1048576: true; the input reads as it did. -/
def lowExactUptoRow : OpenClaim := { program := "ytbbnbpghhdmhaaa", sum := "000b696584251cc511249606eced5050c2e3349d1b3ef26fcda1e2c13290691d", func := "gimbal/gimballaw12.LowExact", spec := "lowExact", unfollowed := true, recurses := true, named := ["math/bits.divideError", "math/bits.overflowError"], apart := false, narrowed := true }
def LowExactUptoSaid : Prop := lowExactUptoRow.holds Try.pinned (OpenSpec.upto lowExactSpec)

/-- 'gimballaw12.LowBetween', WHERE WHAT IT READS IS OF BULK AT MOST 1048576: true; the input reads as it did. -/
def lowBetweenUptoRow : OpenClaim := { program := "ytbbnbpghhdmhaaa", sum := "000b696584251cc511249606eced5050c2e3349d1b3ef26fcda1e2c13290691d", func := "gimbal/gimballaw12.LowBetween", spec := "lowBetween", unfollowed := true, recurses := true, named := ["math/bits.divideError", "math/bits.overflowError"], apart := false, narrowed := true }
def LowBetweenUptoSaid : Prop := lowBetweenUptoRow.holds Try.pinned (OpenSpec.upto lowBetweenSpec)

/-- 'gimballaw12.LowSettles', WHERE WHAT IT READS IS OF BULK AT MOST 1048576: true; the input reads as it did. -/
def lowSettlesUptoRow : OpenClaim := { program := "ytbbnbpghhdmhaaa", sum := "000b696584251cc511249606eced5050c2e3349d1b3ef26fcda1e2c13290691d", func := "gimbal/gimballaw12.LowSettles", spec := "lowSettles", unfollowed := true, recurses := true, named := ["math/bits.divideError", "math/bits.overflowError"], apart := false, narrowed := true }
def LowSettlesUptoSaid : Prop := lowSettlesUptoRow.holds Try.pinned (OpenSpec.upto lowSettlesSpec)

end Rows
end Go.Proofs.Ytbbnbpghhdmhaaa
