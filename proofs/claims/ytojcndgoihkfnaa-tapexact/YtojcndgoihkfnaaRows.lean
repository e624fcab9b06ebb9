/-
  No cell of these rows narrows 'for every input' (looked for: loops, veiled, ifaces, maps, wideKeys, modest, calm, conditions, laid).
  DERIVED. THE GIVEN ROWS OF THIS SEAT. 3 by the template 'for every input the law returns true; each argument reads behind the call as it read before'; 0 by the template 'total and deterministic' (their statements: YtojcndgoihkfnaaTotals.lean).
  GIVEN WITH THE SEED: the statements are not yours to turn. If you find one false, say at which input.
  Laid BY PROGRAM, IN A SANDBOX (cutbox-rows.mjs): the forced cells as the released guide's own fill.sh prints them over the translation 7c9882706a8defcf… (all of the seat's roots in one cut). By AI agents, Wed Nov 11 2026. No macro, syntax, notation, axiom, sorry.
-/
import Derived.Test.YtojcndgoihkfnaaChecked
import GoSem.Claim
import GoSem.ClaimJoined
import GoSem.ClaimMapViews
import Derived.JoinedTies
import Derived.KernelRfl
namespace Go.Proofs.Ytojcndgoihkfnaa
/- THE CELL 'sum', in the pinned program and in every row, IS THE sha256 OF THE DUMP (.gsa) THAT YtojcndgoihkfnaaProg.lean LOADS. Nothing in Lean hashes anything: it is a label: what it is worth is what the hold of that sum in a sandbox is worth. -/
noncomputable def Try.pinned : Pinned := { name := "ytojcndgoihkfnaa", sum := "7c9882706a8defcf3c964da73da7392cbafd59977cc4cda3973d74a638c39739", checked := Try.checked }
namespace Rows
def none {H : Type} : Left H := { results := [], args := [] }

/-- 'gimballaw18.TapSteady': WHATEVER THE INPUT: true; the input reads as it did. -/
def tapSteadySpec : ChangeSpec := { name := "tapSteady", fn := fun _ => fun
  | [d] => { results := [.lit (.bool true)], args := [d] }
  | _ => none }
def tapSteadyRow : OpenClaim := { program := "ytojcndgoihkfnaa", sum := "7c9882706a8defcf3c964da73da7392cbafd59977cc4cda3973d74a638c39739", func := "gimbal/gimballaw18.TapSteady", spec := "tapSteady", inPlace := ["math/bits.Add64", "math/bits.Sub64"], unfollowed := true, recurses := true, apart := false }
def TapSteadySaid : Prop := tapSteadyRow.holds Try.pinned (OpenSpec.ofChange tapSteadySpec)

/-- ITS FALSE NEIGHBOUR: 'it returns false'. Refute it at one input. -/
def tapSteadyWrong : ChangeSpec := { name := "tapSteady", fn := fun _ => fun
  | [d] => { results := [.lit (.bool false)], args := [d] }
  | _ => none }
def TapSteadyWrongFalsely : Prop := tapSteadyRow.holds Try.pinned (OpenSpec.ofChange tapSteadyWrong)

/-- 'gimballaw18.TapExact': WHATEVER THE INPUT: true; the input reads as it did. -/
def tapExactSpec : ChangeSpec := { name := "tapExact", fn := fun _ => fun
  | [d] => { results := [.lit (.bool true)], args := [d] }
  | _ => none }
def tapExactRow : OpenClaim := { program := "ytojcndgoihkfnaa", sum := "7c9882706a8defcf3c964da73da7392cbafd59977cc4cda3973d74a638c39739", func := "gimbal/gimballaw18.TapExact", spec := "tapExact", inPlace := ["math/bits.Add64", "math/bits.Sub64"], unfollowed := true, recurses := true, apart := false }
def TapExactSaid : Prop := tapExactRow.holds Try.pinned (OpenSpec.ofChange tapExactSpec)

/-- ITS FALSE NEIGHBOUR: 'it returns false'. Refute it at one input. -/
def tapExactWrong : ChangeSpec := { name := "tapExact", fn := fun _ => fun
  | [d] => { results := [.lit (.bool false)], args := [d] }
  | _ => none }
def TapExactWrongFalsely : Prop := tapExactRow.holds Try.pinned (OpenSpec.ofChange tapExactWrong)

/-- 'gimballaw18.TapDoubles': WHATEVER THE INPUT: true; the input reads as it did. -/
def tapDoublesSpec : ChangeSpec := { name := "tapDoubles", fn := fun _ => fun
  | [d] => { results := [.lit (.bool true)], args := [d] }
  | _ => none }
def tapDoublesRow : OpenClaim := { program := "ytojcndgoihkfnaa", sum := "7c9882706a8defcf3c964da73da7392cbafd59977cc4cda3973d74a638c39739", func := "gimbal/gimballaw18.TapDoubles", spec := "tapDoubles", inPlace := ["math/bits.Add64", "math/bits.Sub64"], unfollowed := true, recurses := true, apart := false }
def TapDoublesSaid : Prop := tapDoublesRow.holds Try.pinned (OpenSpec.ofChange tapDoublesSpec)

/-- ITS FALSE NEIGHBOUR: 'it returns false'. Refute it at one input. -/
def tapDoublesWrong : ChangeSpec := { name := "tapDoubles", fn := fun _ => fun
  | [d] => { results := [.lit (.bool false)], args := [d] }
  | _ => none }
def TapDoublesWrongFalsely : Prop := tapDoublesRow.holds Try.pinned (OpenSpec.ofChange tapDoublesWrong)

/- THE SECOND FORM. 'bulk': how many values and letters a reading holds, each counted each time it is reached (what is shared counts as often as it is met; a slice's spare places count too). A statement '..UptoSaid' is the law's where the arguments, and the package variables that the reading takes, are together of bulk at most 1048576: NARROWER than '..Said'. Prove '..Said' where nothing that the law and all that it calls make is longer than what came in: it says more and counts as full. Else prove '..UptoSaid'. A law counts once. -/
mutual
def uptoBulk {H : Type} : DataW H → Nat
  | .lit (.string bytes) => bytes.length + 1
  | .lit _ => 1
  | .nil => 1
  | .ptr d => uptoBulk d + 1
  | .slice elems spare => uptoBulkAll elems + uptoBulkAll spare + 1
  | .agg parts => uptoBulkAll parts + 1
  | .iface _ d => uptoBulk d + 1
  | .map entries => uptoBulkEntries entries + 1
  | .held _ => 1
def uptoBulkAll {H : Type} : List (DataW H) → Nat
  | [] => 0
  | d :: r => uptoBulk d + uptoBulkAll r
def uptoBulkEntries {H : Type} : List (Lit × DataW H) → Nat
  | [] => 0
  | x :: r => uptoBulkEntry x + uptoBulkEntries r
def uptoBulkEntry {H : Type} : Lit × DataW H → Nat
  | (.string bytes, d) => bytes.length + uptoBulk d + 1
  | (_, d) => uptoBulk d + 1
 end
def uptoSmall : (H : Type) → List (DataW H) → Bool := fun _ ds => decide (uptoBulkAll ds ≤ 1048576)
def OpenSpec.upto (s : _root_.Go.ChangeSpec) : _root_.Go.OpenSpec := { _root_.Go.OpenSpec.ofChange s with cond := some uptoSmall }

/-- 'gimballaw18.TapSteady', WHERE WHAT IT READS IS OF BULK AT MOST 1048576: true; the input reads as it did. -/
def tapSteadyUptoRow : OpenClaim := { program := "ytojcndgoihkfnaa", sum := "7c9882706a8defcf3c964da73da7392cbafd59977cc4cda3973d74a638c39739", func := "gimbal/gimballaw18.TapSteady", spec := "tapSteady", inPlace := ["math/bits.Add64", "math/bits.Sub64"], unfollowed := true, recurses := true, apart := false, narrowed := true }
def TapSteadyUptoSaid : Prop := tapSteadyUptoRow.holds Try.pinned (OpenSpec.upto tapSteadySpec)

/-- 'gimballaw18.TapExact', WHERE WHAT IT READS IS OF BULK AT MOST 1048576: true; the input reads as it did. -/
def tapExactUptoRow : OpenClaim := { program := "ytojcndgoihkfnaa", sum := "7c9882706a8defcf3c964da73da7392cbafd59977cc4cda3973d74a638c39739", func := "gimbal/gimballaw18.TapExact", spec := "tapExact", inPlace := ["math/bits.Add64", "math/bits.Sub64"], unfollowed := true, recurses := true, apart := false, narrowed := true }
def TapExactUptoSaid : Prop := tapExactUptoRow.holds Try.pinned (OpenSpec.upto tapExactSpec)

/-- 'gimballaw18.TapDoubles', WHERE WHAT IT READS IS OF BULK AT MOST 1048576: true; the input reads as it did. -/
def tapDoublesUptoRow : OpenClaim := { program := "ytojcndgoihkfnaa", sum := "7c9882706a8defcf3c964da73da7392cbafd59977cc4cda3973d74a638c39739", func := "gimbal/gimballaw18.TapDoubles", spec := "tapDoubles", inPlace := ["math/bits.Add64", "math/bits.Sub64"], unfollowed := true, recurses := true, apart := false, narrowed := true }
def TapDoublesUptoSaid : Prop := tapDoublesUptoRow.holds Try.pinned (OpenSpec.upto tapDoublesSpec)

end Rows
end Go.Proofs.Ytojcndgoihkfnaa
