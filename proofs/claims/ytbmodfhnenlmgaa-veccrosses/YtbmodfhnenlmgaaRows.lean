/-
  No cell of these rows narrows 'for every input' (looked for: loops, veiled, ifaces, maps, wideKeys, modest, calm, conditions, laid).
  DERIVED. THE GIVEN ROWS OF THIS SEAT. 3 by the template 'for every input the law returns true; each argument reads behind the call as it read before'; 0 by the template 'total and deterministic' (their statements: YtbmodfhnenlmgaaTotals.lean).
  GIVEN WITH THE SEED: the statements are not yours to turn. If you find one false, say at which input.
  Laid BY PROGRAM, IN A SANDBOX (cutbox-rows.mjs): the forced cells as the released guide's own fill.sh prints them over the translation b74eed223bdbfb51… (all of the seat's roots in one cut). By AI agents, Wed Nov 11 2026. No macro, syntax, notation, axiom, sorry.
-/
import Derived.Test.YtbmodfhnenlmgaaChecked
import GoSem.Claim
import GoSem.ClaimJoined
import GoSem.ClaimMapViews
import Derived.JoinedTies
import Derived.KernelRfl
namespace Go.Proofs.Ytbmodfhnenlmgaa
/- THE CELL 'sum', in the pinned program and in every row, IS THE sha256 OF THE DUMP (.gsa) THAT YtbmodfhnenlmgaaProg.lean LOADS. Nothing in Lean hashes anything: it is a label: what it is worth is what the hold of that sum in a sandbox is worth. -/
noncomputable def Try.pinned : Pinned := { name := "ytbmodfhnenlmgaa", sum := "b74eed223bdbfb51183403aff7f026a717fd4c0503fcdfe1486253e00b8b04a2", checked := Try.checked }
namespace Rows
def none {H : Type} : Left H := { results := [], args := [] }

/-- 'gimballaw3.VecSums': WHATEVER THE INPUT: true; the input reads as it did. -/
def vecSumsSpec : ChangeSpec := { name := "vecSums", fn := fun _ => fun
  | [d] => { results := [.lit (.bool true)], args := [d] }
  | _ => none }
def vecSumsRow : OpenClaim := { program := "ytbmodfhnenlmgaa", sum := "b74eed223bdbfb51183403aff7f026a717fd4c0503fcdfe1486253e00b8b04a2", func := "gimbal/gimballaw3.VecSums", spec := "vecSums", inPlace := ["math/bits.Add64", "math/bits.Sub64"], unfollowed := true, recurses := true, apart := false }
def VecSumsSaid : Prop := vecSumsRow.holds Try.pinned (OpenSpec.ofChange vecSumsSpec)

/-- ITS FALSE NEIGHBOUR: 'it returns false'. Refute it at one input. -/
def vecSumsWrong : ChangeSpec := { name := "vecSums", fn := fun _ => fun
  | [d] => { results := [.lit (.bool false)], args := [d] }
  | _ => none }
def VecSumsWrongFalsely : Prop := vecSumsRow.holds Try.pinned (OpenSpec.ofChange vecSumsWrong)

/-- 'gimballaw3.VecCrosses': WHATEVER THE INPUT: true; the input reads as it did. -/
def vecCrossesSpec : ChangeSpec := { name := "vecCrosses", fn := fun _ => fun
  | [d] => { results := [.lit (.bool true)], args := [d] }
  | _ => none }
def vecCrossesRow : OpenClaim := { program := "ytbmodfhnenlmgaa", sum := "b74eed223bdbfb51183403aff7f026a717fd4c0503fcdfe1486253e00b8b04a2", func := "gimbal/gimballaw3.VecCrosses", spec := "vecCrosses", inPlace := ["math/bits.Add64", "math/bits.Sub64"], unfollowed := true, recurses := true, apart := false }
def VecCrossesSaid : Prop := vecCrossesRow.holds Try.pinned (OpenSpec.ofChange vecCrossesSpec)

/-- ITS FALSE NEIGHBOUR: 'it returns false'. Refute it at one input. -/
def vecCrossesWrong : ChangeSpec := { name := "vecCrosses", fn := fun _ => fun
  | [d] => { results := [.lit (.bool false)], args := [d] }
  | _ => none }
def VecCrossesWrongFalsely : Prop := vecCrossesRow.holds Try.pinned (OpenSpec.ofChange vecCrossesWrong)

/-- 'gimballaw3.VecImages': WHATEVER THE INPUT: true; the input reads as it did. -/
def vecImagesSpec : ChangeSpec := { name := "vecImages", fn := fun _ => fun
  | [d] => { results := [.lit (.bool true)], args := [d] }
  | _ => none }
def vecImagesRow : OpenClaim := { program := "ytbmodfhnenlmgaa", sum := "b74eed223bdbfb51183403aff7f026a717fd4c0503fcdfe1486253e00b8b04a2", func := "gimbal/gimballaw3.VecImages", spec := "vecImages", inPlace := ["math/bits.Add64", "math/bits.Sub64"], unfollowed := true, recurses := true, named := ["math/bits.divideError", "math/bits.overflowError"], apart := false }
def VecImagesSaid : Prop := vecImagesRow.holds Try.pinned (OpenSpec.ofChange vecImagesSpec)

/-- ITS FALSE NEIGHBOUR: 'it returns false'. Refute it at one input. -/
def vecImagesWrong : ChangeSpec := { name := "vecImages", fn := fun _ => fun
  | [d] => { results := [.lit (.bool false)], args := [d] }
  | _ => none }
def VecImagesWrongFalsely : Prop := vecImagesRow.holds Try.pinned (OpenSpec.ofChange vecImagesWrong)

/- THE SECOND FORM. 'bulk': how many values and letters a reading holds, each counted each time it is reached (what is shared counts as often as it is met; a slice's spare places count too). A statement '..UptoSaid' is the law's where the arguments, and the package variables that the reading takes, are together of bulk at most 1048576: NARROWER than '..Said'. Prove '..Said' where nothing that the law and all that it calls make is longer than what came in: it says more and counts as full. Else prove '..UptoSaid'. A law counts once. -/
mutual
def uptoBulk {H : Type} : DataW H → Nat
  | .lit (.string bytes) => bytes.length + 1
  | .lit _ => 1
  | .nil => 1
  | .ptr d => uptoBulk d + 1
  | .slice elems spare => uptoBulkAll elems + uptoBulkAll spare + 1
  | .agg parts => uptoBulkAll parts + 1
  | .iface _ d => uptoBulk d + 1
  | .map entries => uptoBulkEntries entries + 1
  | .held _ => 1
def uptoBulkAll {H : Type} : List (DataW H) → Nat
  | [] => 0
  | d :: r => uptoBulk d + uptoBulkAll r
def uptoBulkEntries {H : Type} : List (Lit × DataW H) → Nat
  | [] => 0
  | x :: r => uptoBulkEntry x + uptoBulkEntries r
def uptoBulkEntry {H : Type} : Lit × DataW H → Nat
  | (.string bytes, d) => bytes.length + uptoBulk d + 1
  | (_, d) => uptoBulk d + 1
 end
def uptoSmall : (H : Type) → List (DataW H) → Bool := fun _ ds => decide (uptoBulkAll ds ≤ 1048576)
def OpenSpec.upto (s : _root_.Go.ChangeSpec) : _root_.Go.OpenSpec := { _root_.Go.OpenSpec.ofChange s with cond := some uptoSmall }

/-- 'gimballaw3.VecSums', WHERE WHAT IT READS IS OF BULK AT MOST 1048576: true; the input reads as it did. -/
def vecSumsUptoRow : OpenClaim := { program := "ytbmodfhnenlmgaa", sum := "b74eed223bdbfb51183403aff7f026a717fd4c0503fcdfe1486253e00b8b04a2", func := "gimbal/gimballaw3.VecSums", spec := "vecSums", inPlace := ["math/bits.Add64", "math/bits.Sub64"], unfollowed := true, recurses := true, apart := false, narrowed := true }
def VecSumsUptoSaid : Prop := vecSumsUptoRow.holds Try.pinned (OpenSpec.upto vecSumsSpec)

/-- 'gimballaw3.VecCrosses', WHERE WHAT IT READS IS OF BULK AT MOST 1048576: true; the input reads as it did. -/
def vecCrossesUptoRow : OpenClaim := { program := "ytbmodfhnenlmgaa", sum := "b74eed223bdbfb51183403aff7f026a717fd4c0503fcdfe1486253e00b8b04a2", func := "gimbal/gimballaw3.VecCrosses", spec := "vecCrosses", inPlace := ["math/bits.Add64", "math/bits.Sub64"], unfollowed := true, recurses := true, apart := false, narrowed := true }
def VecCrossesUptoSaid : Prop := vecCrossesUptoRow.holds Try.pinned (OpenSpec.upto vecCrossesSpec)

/-- 'gimballaw3.VecImages', WHERE WHAT IT READS IS OF BULK AT MOST 1048576: true; the input reads as it did. -/
def vecImagesUptoRow : OpenClaim := { program := "ytbmodfhnenlmgaa", sum := "b74eed223bdbfb51183403aff7f026a717fd4c0503fcdfe1486253e00b8b04a2", func := "gimbal/gimballaw3.VecImages", spec := "vecImages", inPlace := ["math/bits.Add64", "math/bits.Sub64"], unfollowed := true, recurses := true, named := ["math/bits.divideError", "math/bits.overflowError"], apart := false, narrowed := true }
def VecImagesUptoSaid : Prop := vecImagesUptoRow.holds Try.pinned (OpenSpec.upto vecImagesSpec)

end Rows
end Go.Proofs.Ytbmodfhnenlmgaa
