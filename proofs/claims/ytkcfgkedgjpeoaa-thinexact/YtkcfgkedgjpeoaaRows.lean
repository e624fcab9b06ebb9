/-
  No cell of these rows narrows 'for every input' (looked for: loops, veiled, ifaces, maps, wideKeys, modest, calm, conditions, laid).
  DERIVED. THE GIVEN ROWS OF THIS SEAT. 3 by the template 'for every input the law returns true; each argument reads behind the call as it read before'; 0 by the template 'total and deterministic' (their statements: YtkcfgkedgjpeoaaTotals.lean).
  GIVEN WITH THE SEED: the statements are not yours to turn. If you find one false, say at which input.
  Laid BY PROGRAM, IN A SANDBOX (cutbox-rows.mjs): the forced cells as the released guide's own fill.sh prints them over the translation ae908d68d00be80f… (all of the seat's roots in one cut). By AI agents, Wed Nov 11 2026. No macro, syntax, notation, axiom, sorry.
-/
import Derived.Test.YtkcfgkedgjpeoaaChecked
import GoSem.Claim
import GoSem.ClaimJoined
import GoSem.ClaimMapViews
import Derived.JoinedTies
import Derived.KernelRfl
namespace Go.Proofs.Ytkcfgkedgjpeoaa
/- THE CELL 'sum', in the pinned program and in every row, IS THE sha256 OF THE DUMP (.gsa) THAT YtkcfgkedgjpeoaaProg.lean LOADS. Nothing in Lean hashes anything: it is a label: what it is worth is what the hold of that sum in a sandbox is worth. -/
noncomputable def Try.pinned : Pinned := { name := "ytkcfgkedgjpeoaa", sum := "ae908d68d00be80f25ac655336473e2695b8ca43aefa0469d6ab1cae3d4ef3eb", checked := Try.checked }
namespace Rows
def none {H : Type} : Left H := { results := [], args := [] }

/-- 'gimballaw14.ThinExact': WHATEVER THE INPUT: true; the input reads as it did. -/
def thinExactSpec : ChangeSpec := { name := "thinExact", fn := fun _ => fun
  | [d] => { results := [.lit (.bool true)], args := [d] }
  | _ => none }
def thinExactRow : OpenClaim := { program := "ytkcfgkedgjpeoaa", sum := "ae908d68d00be80f25ac655336473e2695b8ca43aefa0469d6ab1cae3d4ef3eb", func := "gimbal/gimballaw14.ThinExact", spec := "thinExact", unfollowed := true, recurses := true, named := ["math/bits.divideError", "math/bits.overflowError"], apart := false }
def ThinExactSaid : Prop := thinExactRow.holds Try.pinned (OpenSpec.ofChange thinExactSpec)

/-- ITS FALSE NEIGHBOUR: 'it returns false'. Refute it at one input. -/
def thinExactWrong : ChangeSpec := { name := "thinExact", fn := fun _ => fun
  | [d] => { results := [.lit (.bool false)], args := [d] }
  | _ => none }
def ThinExactWrongFalsely : Prop := thinExactRow.holds Try.pinned (OpenSpec.ofChange thinExactWrong)

/-- 'gimballaw14.ThinMeans': WHATEVER THE INPUT: true; the input reads as it did. -/
def thinMeansSpec : ChangeSpec := { name := "thinMeans", fn := fun _ => fun
  | [d] => { results := [.lit (.bool true)], args := [d] }
  | _ => none }
def thinMeansRow : OpenClaim := { program := "ytkcfgkedgjpeoaa", sum := "ae908d68d00be80f25ac655336473e2695b8ca43aefa0469d6ab1cae3d4ef3eb", func := "gimbal/gimballaw14.ThinMeans", spec := "thinMeans", unfollowed := true, recurses := true, named := ["math/bits.divideError", "math/bits.overflowError"], apart := false }
def ThinMeansSaid : Prop := thinMeansRow.holds Try.pinned (OpenSpec.ofChange thinMeansSpec)

/-- ITS FALSE NEIGHBOUR: 'it returns false'. Refute it at one input. -/
def thinMeansWrong : ChangeSpec := { name := "thinMeans", fn := fun _ => fun
  | [d] => { results := [.lit (.bool false)], args := [d] }
  | _ => none }
def ThinMeansWrongFalsely : Prop := thinMeansRow.holds Try.pinned (OpenSpec.ofChange thinMeansWrong)

/-- 'gimballaw14.ThinOnes': WHATEVER THE INPUT: true; the input reads as it did. -/
def thinOnesSpec : ChangeSpec := { name := "thinOnes", fn := fun _ => fun
  | [d] => { results := [.lit (.bool true)], args := [d] }
  | _ => none }
def thinOnesRow : OpenClaim := { program := "ytkcfgkedgjpeoaa", sum := "ae908d68d00be80f25ac655336473e2695b8ca43aefa0469d6ab1cae3d4ef3eb", func := "gimbal/gimballaw14.ThinOnes", spec := "thinOnes", unfollowed := true, recurses := true, named := ["math/bits.divideError", "math/bits.overflowError"], apart := false }
def ThinOnesSaid : Prop := thinOnesRow.holds Try.pinned (OpenSpec.ofChange thinOnesSpec)

/-- ITS FALSE NEIGHBOUR: 'it returns false'. Refute it at one input. -/
def thinOnesWrong : ChangeSpec := { name := "thinOnes", fn := fun _ => fun
  | [d] => { results := [.lit (.bool false)], args := [d] }
  | _ => none }
def ThinOnesWrongFalsely : Prop := thinOnesRow.holds Try.pinned (OpenSpec.ofChange thinOnesWrong)

/- THE SECOND FORM. 'bulk': how many values and letters a reading holds, each counted each time it is reached (what is shared counts as often as it is met; a slice's spare places count too). A statement '..UptoSaid' is the law's where the arguments, and the package variables that the reading takes, are together of bulk at most 1048576: NARROWER than '..Said'. Prove '..Said' where nothing that the law and all that it calls make is longer than what came in: it says more and counts as full. Else prove '..UptoSaid'. A law counts once. -/
mutual
def uptoBulk {H : Type} : DataW H → Nat
  | .lit (.string bytes) => bytes.length + 1
  | .lit _ => 1
  | .nil => 1
  | .ptr d => uptoBulk d + 1
  | .slice elems spare => uptoBulkAll elems + uptoBulkAll spare + 1
  | .agg parts => uptoBulkAll parts + 1
  | .iface _ d => uptoBulk d + 1
  | .map entries => uptoBulkEntries entries + 1
  | .held _ => 1
def uptoBulkAll {H : Type} : List (DataW H) → Nat
  | [] => 0
  | d :: r => uptoBulk d + uptoBulkAll r
def uptoBulkEntries {H : Type} : List (Lit × DataW H) → Nat
  | [] => 0
  | x :: r => uptoBulkEntry x + uptoBulkEntries r
def uptoBulkEntry {H : Type} : Lit × DataW H → Nat
  | (.string bytes, d) => bytes.length + uptoBulk d + 1
  | (_, d) => uptoBulk d + 1
 end
def uptoSmall : (H : Type) → List (DataW H) → Bool := fun _ ds => decide (uptoBulkAll ds ≤ 1048576)
def OpenSpec.upto (s : _root_.Go.ChangeSpec) : _root_.Go.OpenSpec := { _root_.Go.OpenSpec.ofChange s with cond := some uptoSmall }

/-- 'gimballaw14.ThinExact', WHERE WHAT IT READS IS OF BULK AT MOST 1048576: true; the input reads as it did. -/
def thinExactUptoRow : OpenClaim := { program := "ytkcfgkedgjpeoaa", sum := "ae908d68d00be80f25ac655336473e2695b8ca43aefa0469d6ab1cae3d4ef3eb", func := "gimbal/gimballaw14.ThinExact", spec := "thinExact", unfollowed := true, recurses := true, named := ["math/bits.divideError", "math/bits.overflowError"], apart := false, narrowed := true }
def ThinExactUptoSaid : Prop := thinExactUptoRow.holds Try.pinned (OpenSpec.upto thinExactSpec)

/-- 'gimballaw14.ThinMeans', WHERE WHAT IT READS IS OF BULK AT MOST 1048576: true; the input reads as it did. -/
def thinMeansUptoRow : OpenClaim := { program := "ytkcfgkedgjpeoaa", sum := "ae908d68d00be80f25ac655336473e2695b8ca43aefa0469d6ab1cae3d4ef3eb", func := "gimbal/gimballaw14.ThinMeans", spec := "thinMeans", unfollowed := true, recurses := true, named := ["math/bits.divideError", "math/bits.overflowError"], apart := false, narrowed := true }
def ThinMeansUptoSaid : Prop := thinMeansUptoRow.holds Try.pinned (OpenSpec.upto thinMeansSpec)

/-- 'gimballaw14.ThinOnes', WHERE WHAT IT READS IS OF BULK AT MOST 1048576: true; the input reads as it did. -/
def thinOnesUptoRow : OpenClaim := { program := "ytkcfgkedgjpeoaa", sum := "ae908d68d00be80f25ac655336473e2695b8ca43aefa0469d6ab1cae3d4ef3eb", func := "gimbal/gimballaw14.ThinOnes", spec := "thinOnes", unfollowed := true, recurses := true, named := ["math/bits.divideError", "math/bits.overflowError"], apart := false, narrowed := true }
def ThinOnesUptoSaid : Prop := thinOnesUptoRow.holds Try.pinned (OpenSpec.upto thinOnesSpec)

end Rows
end Go.Proofs.Ytkcfgkedgjpeoaa
