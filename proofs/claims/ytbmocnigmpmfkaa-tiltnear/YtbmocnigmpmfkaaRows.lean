/-
  No cell of these rows narrows 'for every input' (looked for: loops, veiled, ifaces, maps, wideKeys, modest, calm, conditions, laid).
  DERIVED. THE GIVEN ROWS OF THIS SEAT. 3 by the template 'for every input the law returns true; each argument reads behind the call as it read before'; 0 by the template 'total and deterministic' (their statements: YtbmocnigmpmfkaaTotals.lean).
  GIVEN WITH THE SEED: the statements are not yours to turn. If you find one false, say at which input.
  Laid BY PROGRAM, IN A SANDBOX (cutbox-rows.mjs): the forced cells as the released guide's own fill.sh prints them over the translation 46dd6fdc9e26953d… (all of the seat's roots in one cut). By AI agents, Wed Nov 11 2026. No macro, syntax, notation, axiom, sorry.
-/
import Derived.Test.YtbmocnigmpmfkaaChecked
import GoSem.Claim
import GoSem.ClaimJoined
import GoSem.ClaimMapViews
import Derived.JoinedTies
import Derived.KernelRfl
namespace Go.Proofs.Ytbmocnigmpmfkaa
/- THE CELL 'sum', in the pinned program and in every row, IS THE sha256 OF THE DUMP (.gsa) THAT YtbmocnigmpmfkaaProg.lean LOADS. Nothing in Lean hashes anything: it is a label: what it is worth is what the hold of that sum in a sandbox is worth. -/
noncomputable def Try.pinned : Pinned := { name := "ytbmocnigmpmfkaa", sum := "46dd6fdc9e26953d213ca9efa68cfddc4e2f3ddb287d1e99a1cf5cbac794dafc", checked := Try.checked }
namespace Rows
def none {H : Type} : Left H := { results := [], args := [] }

/-- 'gimballaw19.TiltNear': WHATEVER THE INPUT: true; the input reads as it did. -/
def tiltNearSpec : ChangeSpec := { name := "tiltNear", fn := fun _ => fun
  | [d] => { results := [.lit (.bool true)], args := [d] }
  | _ => none }
def tiltNearRow : OpenClaim := { program := "ytbmocnigmpmfkaa", sum := "46dd6fdc9e26953d213ca9efa68cfddc4e2f3ddb287d1e99a1cf5cbac794dafc", func := "gimbal/gimballaw19.TiltNear", spec := "tiltNear", inPlace := ["math/bits.Add64", "math/bits.Sub64"], unfollowed := true, recurses := true, apart := false }
def TiltNearSaid : Prop := tiltNearRow.holds Try.pinned (OpenSpec.ofChange tiltNearSpec)

/-- ITS FALSE NEIGHBOUR: 'it returns false'. Refute it at one input. -/
def tiltNearWrong : ChangeSpec := { name := "tiltNear", fn := fun _ => fun
  | [d] => { results := [.lit (.bool false)], args := [d] }
  | _ => none }
def TiltNearWrongFalsely : Prop := tiltNearRow.holds Try.pinned (OpenSpec.ofChange tiltNearWrong)

/-- 'gimballaw19.TiltExact': WHATEVER THE INPUT: true; the input reads as it did. -/
def tiltExactSpec : ChangeSpec := { name := "tiltExact", fn := fun _ => fun
  | [d] => { results := [.lit (.bool true)], args := [d] }
  | _ => none }
def tiltExactRow : OpenClaim := { program := "ytbmocnigmpmfkaa", sum := "46dd6fdc9e26953d213ca9efa68cfddc4e2f3ddb287d1e99a1cf5cbac794dafc", func := "gimbal/gimballaw19.TiltExact", spec := "tiltExact", inPlace := ["math/bits.Add64", "math/bits.Sub64"], unfollowed := true, recurses := true, apart := false }
def TiltExactSaid : Prop := tiltExactRow.holds Try.pinned (OpenSpec.ofChange tiltExactSpec)

/-- ITS FALSE NEIGHBOUR: 'it returns false'. Refute it at one input. -/
def tiltExactWrong : ChangeSpec := { name := "tiltExact", fn := fun _ => fun
  | [d] => { results := [.lit (.bool false)], args := [d] }
  | _ => none }
def TiltExactWrongFalsely : Prop := tiltExactRow.holds Try.pinned (OpenSpec.ofChange tiltExactWrong)

/-- 'gimballaw19.TiltAway': WHATEVER THE INPUT: true; the input reads as it did. -/
def tiltAwaySpec : ChangeSpec := { name := "tiltAway", fn := fun _ => fun
  | [d] => { results := [.lit (.bool true)], args := [d] }
  | _ => none }
def tiltAwayRow : OpenClaim := { program := "ytbmocnigmpmfkaa", sum := "46dd6fdc9e26953d213ca9efa68cfddc4e2f3ddb287d1e99a1cf5cbac794dafc", func := "gimbal/gimballaw19.TiltAway", spec := "tiltAway", inPlace := ["math/bits.Add64", "math/bits.Sub64"], unfollowed := true, recurses := true, apart := false }
def TiltAwaySaid : Prop := tiltAwayRow.holds Try.pinned (OpenSpec.ofChange tiltAwaySpec)

/-- ITS FALSE NEIGHBOUR: 'it returns false'. Refute it at one input. -/
def tiltAwayWrong : ChangeSpec := { name := "tiltAway", fn := fun _ => fun
  | [d] => { results := [.lit (.bool false)], args := [d] }
  | _ => none }
def TiltAwayWrongFalsely : Prop := tiltAwayRow.holds Try.pinned (OpenSpec.ofChange tiltAwayWrong)

/- THE SECOND FORM. 'bulk': how many values and letters a reading holds, each counted each time it is reached (what is shared counts as often as it is met; a slice's spare places count too). A statement '..UptoSaid' is the law's where the arguments, and the package variables that the reading takes, are together of bulk at most 1048576: NARROWER than '..Said'. Prove '..Said' where nothing that the law and all that it calls make is longer than what came in: it says more and counts as full. Else prove '..UptoSaid'. A law counts once. -/
mutual
def uptoBulk {H : Type} : DataW H → Nat
  | .lit (.string bytes) => bytes.length + 1
  | .lit _ => 1
  | .nil => 1
  | .ptr d => uptoBulk d + 1
  | .slice elems spare => uptoBulkAll elems + uptoBulkAll spare + 1
  | .agg parts => uptoBulkAll parts + 1
  | .iface _ d => uptoBulk d + 1
  | .map entries => uptoBulkEntries entries + 1
  | .held _ => 1
def uptoBulkAll {H : Type} : List (DataW H) → Nat
  | [] => 0
  | d :: r => uptoBulk d + uptoBulkAll r
def uptoBulkEntries {H : Type} : List (Lit × DataW H) → Nat
  | [] => 0
  | x :: r => uptoBulkEntry x + uptoBulkEntries r
def uptoBulkEntry {H : Type} : Lit × DataW H → Nat
  | (.string bytes, d) => bytes.length + uptoBulk d + 1
  | (_, d) => uptoBulk d + 1
 end
def uptoSmall : (H : Type) → List (DataW H) → Bool := fun _ ds => decide (uptoBulkAll ds ≤ 1048576)
def OpenSpec.upto (s : _root_.Go.ChangeSpec) : _root_.Go.OpenSpec := { _root_.Go.OpenSpec.ofChange s with cond := some uptoSmall }

/-- 'gimballaw19.TiltNear', WHERE WHAT IT READS IS OF BULK AT MOST 1048576: true; the input reads as it did. -/
def tiltNearUptoRow : OpenClaim := { program := "ytbmocnigmpmfkaa", sum := "46dd6fdc9e26953d213ca9efa68cfddc4e2f3ddb287d1e99a1cf5cbac794dafc", func := "gimbal/gimballaw19.TiltNear", spec := "tiltNear", inPlace := ["math/bits.Add64", "math/bits.Sub64"], unfollowed := true, recurses := true, apart := false, narrowed := true }
def TiltNearUptoSaid : Prop := tiltNearUptoRow.holds Try.pinned (OpenSpec.upto tiltNearSpec)

/-- 'gimballaw19.TiltExact', WHERE WHAT IT READS IS OF BULK AT MOST 1048576: true; the input reads as it did. -/
def tiltExactUptoRow : OpenClaim := { program := "ytbmocnigmpmfkaa", sum := "46dd6fdc9e26953d213ca9efa68cfddc4e2f3ddb287d1e99a1cf5cbac794dafc", func := "gimbal/gimballaw19.TiltExact", spec := "tiltExact", inPlace := ["math/bits.Add64", "math/bits.Sub64"], unfollowed := true, recurses := true, apart := false, narrowed := true }
def TiltExactUptoSaid : Prop := tiltExactUptoRow.holds Try.pinned (OpenSpec.upto tiltExactSpec)

/-- 'gimballaw19.TiltAway', WHERE WHAT IT READS IS OF BULK AT MOST 1048576: true; the input reads as it did. -/
def tiltAwayUptoRow : OpenClaim := { program := "ytbmocnigmpmfkaa", sum := "46dd6fdc9e26953d213ca9efa68cfddc4e2f3ddb287d1e99a1cf5cbac794dafc", func := "gimbal/gimballaw19.TiltAway", spec := "tiltAway", inPlace := ["math/bits.Add64", "math/bits.Sub64"], unfollowed := true, recurses := true, apart := false, narrowed := true }
def TiltAwayUptoSaid : Prop := tiltAwayUptoRow.holds Try.pinned (OpenSpec.upto tiltAwaySpec)

end Rows
end Go.Proofs.Ytbmocnigmpmfkaa
