/-
  No cell of these rows narrows 'for every input' (looked for: loops, veiled, ifaces, maps, wideKeys, modest, calm, conditions, laid).
  DERIVED. THE GIVEN ROWS OF THIS SEAT. 4 by the template 'for every input the law returns true; each argument reads behind the call as it read before'; 0 by the template 'total and deterministic' (their statements: YtnilhamcojjloaaTotals.lean).
  GIVEN WITH THE SEED: the statements are not yours to turn. If you find one false, say at which input.
  Laid BY PROGRAM, IN A SANDBOX (cutbox-rows.mjs): the forced cells as the released guide's own fill.sh prints them over the translation dd42736445c74ce9… (all of the seat's roots in one cut). By AI agents, Wed Nov 11 2026. No macro, syntax, notation, axiom, sorry.
-/
import Derived.Test.YtnilhamcojjloaaChecked
import GoSem.Claim
import GoSem.ClaimJoined
import GoSem.ClaimMapViews
import Derived.JoinedTies
import Derived.KernelRfl
namespace Go.Proofs.Ytnilhamcojjloaa
/- THE CELL 'sum', in the pinned program and in every row, IS THE sha256 OF THE DUMP (.gsa) THAT YtnilhamcojjloaaProg.lean LOADS. Nothing in Lean hashes anything: it is a label: what it is worth is what the hold of that sum in a sandbox is worth. -/
noncomputable def Try.pinned : Pinned := { name := "ytnilhamcojjloaa", sum := "dd42736445c74ce95f628545e90c9e94e9936abd8982477feeab789a21264aea", checked := Try.checked }
namespace Rows
def none {H : Type} : Left H := { results := [], args := [] }

/-- 'gimballaw10.CalExact': WHATEVER THE INPUT: true; the input reads as it did. -/
def calExactSpec : ChangeSpec := { name := "calExact", fn := fun _ => fun
  | [d] => { results := [.lit (.bool true)], args := [d] }
  | _ => none }
def calExactRow : OpenClaim := { program := "ytnilhamcojjloaa", sum := "dd42736445c74ce95f628545e90c9e94e9936abd8982477feeab789a21264aea", func := "gimbal/gimballaw10.CalExact", spec := "calExact", inPlace := ["math/bits.Add64", "math/bits.Sub64"], unfollowed := true, recurses := true, apart := false }
def CalExactSaid : Prop := calExactRow.holds Try.pinned (OpenSpec.ofChange calExactSpec)

/-- ITS FALSE NEIGHBOUR: 'it returns false'. Refute it at one input. -/
def calExactWrong : ChangeSpec := { name := "calExact", fn := fun _ => fun
  | [d] => { results := [.lit (.bool false)], args := [d] }
  | _ => none }
def CalExactWrongFalsely : Prop := calExactRow.holds Try.pinned (OpenSpec.ofChange calExactWrong)

/-- 'gimballaw10.CalPlain': WHATEVER THE INPUT: true; the input reads as it did. -/
def calPlainSpec : ChangeSpec := { name := "calPlain", fn := fun _ => fun
  | [d] => { results := [.lit (.bool true)], args := [d] }
  | _ => none }
def calPlainRow : OpenClaim := { program := "ytnilhamcojjloaa", sum := "dd42736445c74ce95f628545e90c9e94e9936abd8982477feeab789a21264aea", func := "gimbal/gimballaw10.CalPlain", spec := "calPlain", inPlace := ["math/bits.Add64", "math/bits.Sub64"], unfollowed := true, recurses := true, apart := false }
def CalPlainSaid : Prop := calPlainRow.holds Try.pinned (OpenSpec.ofChange calPlainSpec)

/-- ITS FALSE NEIGHBOUR: 'it returns false'. Refute it at one input. -/
def calPlainWrong : ChangeSpec := { name := "calPlain", fn := fun _ => fun
  | [d] => { results := [.lit (.bool false)], args := [d] }
  | _ => none }
def CalPlainWrongFalsely : Prop := calPlainRow.holds Try.pinned (OpenSpec.ofChange calPlainWrong)

/-- 'gimballaw10.CalHeat': WHATEVER THE INPUT: true; the input reads as it did. -/
def calHeatSpec : ChangeSpec := { name := "calHeat", fn := fun _ => fun
  | [d] => { results := [.lit (.bool true)], args := [d] }
  | _ => none }
def calHeatRow : OpenClaim := { program := "ytnilhamcojjloaa", sum := "dd42736445c74ce95f628545e90c9e94e9936abd8982477feeab789a21264aea", func := "gimbal/gimballaw10.CalHeat", spec := "calHeat", inPlace := ["math/bits.Add64", "math/bits.Sub64"], unfollowed := true, recurses := true, apart := false }
def CalHeatSaid : Prop := calHeatRow.holds Try.pinned (OpenSpec.ofChange calHeatSpec)

/-- ITS FALSE NEIGHBOUR: 'it returns false'. Refute it at one input. -/
def calHeatWrong : ChangeSpec := { name := "calHeat", fn := fun _ => fun
  | [d] => { results := [.lit (.bool false)], args := [d] }
  | _ => none }
def CalHeatWrongFalsely : Prop := calHeatRow.holds Try.pinned (OpenSpec.ofChange calHeatWrong)

/-- 'gimballaw10.CalRows': WHATEVER THE INPUT: true; the input reads as it did. -/
def calRowsSpec : ChangeSpec := { name := "calRows", fn := fun _ => fun
  | [d] => { results := [.lit (.bool true)], args := [d] }
  | _ => none }
def calRowsRow : OpenClaim := { program := "ytnilhamcojjloaa", sum := "dd42736445c74ce95f628545e90c9e94e9936abd8982477feeab789a21264aea", func := "gimbal/gimballaw10.CalRows", spec := "calRows", inPlace := ["math/bits.Add64", "math/bits.Sub64"], unfollowed := true, recurses := true, apart := false }
def CalRowsSaid : Prop := calRowsRow.holds Try.pinned (OpenSpec.ofChange calRowsSpec)

/-- ITS FALSE NEIGHBOUR: 'it returns false'. Refute it at one input. -/
def calRowsWrong : ChangeSpec := { name := "calRows", fn := fun _ => fun
  | [d] => { results := [.lit (.bool false)], args := [d] }
  | _ => none }
def CalRowsWrongFalsely : Prop := calRowsRow.holds Try.pinned (OpenSpec.ofChange calRowsWrong)

/- THE SECOND FORM. 'bulk': how many values and letters a reading holds, each counted each time it is reached (what is shared counts as often as it is met; a slice's spare places count too). A statement '..UptoSaid' is the law's where the arguments, and the package variables that the reading takes, are together of bulk at most 1048576: NARROWER than '..Said'. Prove '..Said' where nothing that the law and all that it calls make is longer than what came in: it says more and counts as full. Else prove '..UptoSaid'. A law counts once. -/
mutual
def uptoBulk {H : Type} : DataW H → Nat
  | .lit (.string bytes) => bytes.length + 1
  | .lit _ => 1
  | .nil => 1
  | .ptr d => uptoBulk d + 1
  | .slice elems spare => uptoBulkAll elems + uptoBulkAll spare + 1
  | .agg parts => uptoBulkAll parts + 1
  | .iface _ d => uptoBulk d + 1
  | .map entries => uptoBulkEntries entries + 1
  | .held _ => 1
def uptoBulkAll {H : Type} : List (DataW H) → Nat
  | [] => 0
  | d :: r => uptoBulk d + uptoBulkAll r
def uptoBulkEntries {H : Type} : List (Lit × DataW H) → Nat
  | [] => 0
  | x :: r => uptoBulkEntry x + uptoBulkEntries r
def uptoBulkEntry {H : Type} : Lit × DataW H → Nat
  | (.string bytes, d) => bytes.length + uptoBulk d + 1
  | (_, d) => uptoBulk d + 1
 end
def uptoSmall : (H : Type) → List (DataW H) → Bool := fun _ ds => decide (uptoBulkAll ds ≤ 1048576)
def OpenSpec.upto (s : _root_.Go.ChangeSpec) : _root_.Go.OpenSpec := { _root_.Go.OpenSpec.ofChange s with cond := some uptoSmall }

/-- 'gimballaw10.CalExact', WHERE WHAT IT READS IS OF BULK AT MOST 1048576: true; the input reads as it did. -/
def calExactUptoRow : OpenClaim := { program := "ytnilhamcojjloaa", sum := "dd42736445c74ce95f628545e90c9e94e9936abd8982477feeab789a21264aea", func := "gimbal/gimballaw10.CalExact", spec := "calExact", inPlace := ["math/bits.Add64", "math/bits.Sub64"], unfollowed := true, recurses := true, apart := false, narrowed := true }
def CalExactUptoSaid : Prop := calExactUptoRow.holds Try.pinned (OpenSpec.upto calExactSpec)

/-- 'gimballaw10.CalPlain', WHERE WHAT IT READS IS OF BULK AT MOST 1048576: true; the input reads as it did. -/
def calPlainUptoRow : OpenClaim := { program := "ytnilhamcojjloaa", sum := "dd42736445c74ce95f628545e90c9e94e9936abd8982477feeab789a21264aea", func := "gimbal/gimballaw10.CalPlain", spec := "calPlain", inPlace := ["math/bits.Add64", "math/bits.Sub64"], unfollowed := true, recurses := true, apart := false, narrowed := true }
def CalPlainUptoSaid : Prop := calPlainUptoRow.holds Try.pinned (OpenSpec.upto calPlainSpec)

/-- 'gimballaw10.CalHeat', WHERE WHAT IT READS IS OF BULK AT MOST 1048576: true; the input reads as it did. -/
def calHeatUptoRow : OpenClaim := { program := "ytnilhamcojjloaa", sum := "dd42736445c74ce95f628545e90c9e94e9936abd8982477feeab789a21264aea", func := "gimbal/gimballaw10.CalHeat", spec := "calHeat", inPlace := ["math/bits.Add64", "math/bits.Sub64"], unfollowed := true, recurses := true, apart := false, narrowed := true }
def CalHeatUptoSaid : Prop := calHeatUptoRow.holds Try.pinned (OpenSpec.upto calHeatSpec)

/-- 'gimballaw10.CalRows', WHERE WHAT IT READS IS OF BULK AT MOST 1048576: true; the input reads as it did. -/
def calRowsUptoRow : OpenClaim := { program := "ytnilhamcojjloaa", sum := "dd42736445c74ce95f628545e90c9e94e9936abd8982477feeab789a21264aea", func := "gimbal/gimballaw10.CalRows", spec := "calRows", inPlace := ["math/bits.Add64", "math/bits.Sub64"], unfollowed := true, recurses := true, apart := false, narrowed := true }
def CalRowsUptoSaid : Prop := calRowsUptoRow.holds Try.pinned (OpenSpec.upto calRowsSpec)

end Rows
end Go.Proofs.Ytnilhamcojjloaa
