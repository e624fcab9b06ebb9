/-
  No cell of these rows narrows 'for every input' (looked for: loops, veiled, ifaces, maps, wideKeys, modest, calm, conditions, laid).
  DERIVED. THE GIVEN ROWS OF THIS SEAT. 3 by the template 'for every input the law returns true; each argument reads behind the call as it read before'; 0 by the template 'total and deterministic' (their statements: YtcbelhalckehcaaTotals.lean).
  GIVEN WITH THE SEED: the statements are not yours to turn. If you find one false, say at which input.
  Laid BY PROGRAM, IN A SANDBOX (cutbox-rows.mjs): the forced cells as the released guide's own fill.sh prints them over the translation a29ff4dc6eb817e1… (all of the seat's roots in one cut). By AI agents, Wed Nov 11 2026. No macro, syntax, notation, axiom, sorry.
-/
import Derived.Test.YtcbelhalckehcaaChecked
import GoSem.Claim
import GoSem.ClaimJoined
import GoSem.ClaimMapViews
import Derived.JoinedTies
import Derived.KernelRfl
namespace Go.Proofs.Ytcbelhalckehcaa
/- THE CELL 'sum', in the pinned program and in every row, IS THE sha256 OF THE DUMP (.gsa) THAT YtcbelhalckehcaaProg.lean LOADS. Nothing in Lean hashes anything: it is a label: what it is worth is what the hold of that sum in a sandbox is worth. -/
noncomputable def Try.pinned : Pinned := { name := "ytcbelhalckehcaa", sum := "a29ff4dc6eb817e13822103a21e0fa55e03c07ce31c6a63abe2fa35c1586d0fe", checked := Try.checked }
namespace Rows
def none {H : Type} : Left H := { results := [], args := [] }

/-- 'gimballaw11.LearnExact': WHATEVER THE INPUT: true; the input reads as it did. -/
def learnExactSpec : ChangeSpec := { name := "learnExact", fn := fun _ => fun
  | [d] => { results := [.lit (.bool true)], args := [d] }
  | _ => none }
def learnExactRow : OpenClaim := { program := "ytcbelhalckehcaa", sum := "a29ff4dc6eb817e13822103a21e0fa55e03c07ce31c6a63abe2fa35c1586d0fe", func := "gimbal/gimballaw11.LearnExact", spec := "learnExact", unfollowed := true, recurses := true, named := ["math/bits.divideError", "math/bits.overflowError"], apart := false }
def LearnExactSaid : Prop := learnExactRow.holds Try.pinned (OpenSpec.ofChange learnExactSpec)

/-- ITS FALSE NEIGHBOUR: 'it returns false'. Refute it at one input. -/
def learnExactWrong : ChangeSpec := { name := "learnExact", fn := fun _ => fun
  | [d] => { results := [.lit (.bool false)], args := [d] }
  | _ => none }
def LearnExactWrongFalsely : Prop := learnExactRow.holds Try.pinned (OpenSpec.ofChange learnExactWrong)

/-- 'gimballaw11.LearnRests': WHATEVER THE INPUT: true; the input reads as it did. -/
def learnRestsSpec : ChangeSpec := { name := "learnRests", fn := fun _ => fun
  | [d] => { results := [.lit (.bool true)], args := [d] }
  | _ => none }
def learnRestsRow : OpenClaim := { program := "ytcbelhalckehcaa", sum := "a29ff4dc6eb817e13822103a21e0fa55e03c07ce31c6a63abe2fa35c1586d0fe", func := "gimbal/gimballaw11.LearnRests", spec := "learnRests", unfollowed := true, recurses := true, named := ["math/bits.divideError", "math/bits.overflowError"], apart := false }
def LearnRestsSaid : Prop := learnRestsRow.holds Try.pinned (OpenSpec.ofChange learnRestsSpec)

/-- ITS FALSE NEIGHBOUR: 'it returns false'. Refute it at one input. -/
def learnRestsWrong : ChangeSpec := { name := "learnRests", fn := fun _ => fun
  | [d] => { results := [.lit (.bool false)], args := [d] }
  | _ => none }
def LearnRestsWrongFalsely : Prop := learnRestsRow.holds Try.pinned (OpenSpec.ofChange learnRestsWrong)

/-- 'gimballaw11.LearnSame': WHATEVER THE INPUT: true; the input reads as it did. -/
def learnSameSpec : ChangeSpec := { name := "learnSame", fn := fun _ => fun
  | [d] => { results := [.lit (.bool true)], args := [d] }
  | _ => none }
def learnSameRow : OpenClaim := { program := "ytcbelhalckehcaa", sum := "a29ff4dc6eb817e13822103a21e0fa55e03c07ce31c6a63abe2fa35c1586d0fe", func := "gimbal/gimballaw11.LearnSame", spec := "learnSame", unfollowed := true, recurses := true, named := ["math/bits.divideError", "math/bits.overflowError"], apart := false }
def LearnSameSaid : Prop := learnSameRow.holds Try.pinned (OpenSpec.ofChange learnSameSpec)

/-- ITS FALSE NEIGHBOUR: 'it returns false'. Refute it at one input. -/
def learnSameWrong : ChangeSpec := { name := "learnSame", fn := fun _ => fun
  | [d] => { results := [.lit (.bool false)], args := [d] }
  | _ => none }
def LearnSameWrongFalsely : Prop := learnSameRow.holds Try.pinned (OpenSpec.ofChange learnSameWrong)

/- THE SECOND FORM. 'bulk': how many values and letters a reading holds, each counted each time it is reached (what is shared counts as often as it is met; a slice's spare places count too). A statement '..UptoSaid' is the law's where the arguments, and the package variables that the reading takes, are together of bulk at most 1048576: NARROWER than '..Said'. Prove '..Said' where nothing that the law and all that it calls make is longer than what came in: it says more and counts as full. Else prove '..UptoSaid'. A law counts once. -/
mutual
def uptoBulk {H : Type} : DataW H → Nat
  | .lit (.string bytes) => bytes.length + 1
  | .lit _ => 1
  | .nil => 1
  | .ptr d => uptoBulk d + 1
  | .slice elems spare => uptoBulkAll elems + uptoBulkAll spare + 1
  | .agg parts => uptoBulkAll parts + 1
  | .iface _ d => uptoBulk d + 1
  | .map entries => uptoBulkEntries entries + 1
  | .held _ => 1
def uptoBulkAll {H : Type} : List (DataW H) → Nat
  | [] => 0
  | d :: r => uptoBulk d + uptoBulkAll r
def uptoBulkEntries {H : Type} : List (Lit × DataW H) → Nat
  | [] => 0
  | x :: r => uptoBulkEntry x + uptoBulkEntries r
def uptoBulkEntry {H : Type} : Lit × DataW H → Nat
  | (.string bytes, d) => bytes.length + uptoBulk d + 1
  | (_, d) => uptoBulk d + 1
 end
def uptoSmall : (H : Type) → List (DataW H) → Bool := fun _ ds => decide (uptoBulkAll ds ≤ 1048576)
def OpenSpec.upto (s : _root_.Go.ChangeSpec) : _root_.Go.OpenSpec := { _root_.Go.OpenSpec.ofChange s with cond := some uptoSmall }

/-- 'gimballaw11.LearnExact', WHERE WHAT IT READS IS OF BULK AT MOST 1048576: true; the input reads as it did. -/
def learnExactUptoRow : OpenClaim := { program := "ytcbelhalckehcaa", sum := "a29ff4dc6eb817e13822103a21e0fa55e03c07ce31c6a63abe2fa35c1586d0fe", func := "gimbal/gimballaw11.LearnExact", spec := "learnExact", unfollowed := true, recurses := true, named := ["math/bits.divideError", "math/bits.overflowError"], apart := false, narrowed := true }
def LearnExactUptoSaid : Prop := learnExactUptoRow.holds Try.pinned (OpenSpec.upto learnExactSpec)

/-- 'gimballaw11.LearnRests', WHERE WHAT IT READS IS OF BULK AT MOST 1048576: true; the input reads as it did. -/
def learnRestsUptoRow : OpenClaim := { program := "ytcbelhalckehcaa", sum := "a29ff4dc6eb817e13822103a21e0fa55e03c07ce31c6a63abe2fa35c1586d0fe", func := "gimbal/gimballaw11.LearnRests", spec := "learnRests", unfollowed := true, recurses := true, named := ["math/bits.divideError", "math/bits.overflowError"], apart := false, narrowed := true }
def LearnRestsUptoSaid : Prop := learnRestsUptoRow.holds Try.pinned (OpenSpec.upto learnRestsSpec)

/-- 'gimballaw11.LearnSame', WHERE WHAT IT READS IS OF BULK AT MOST 1048576: true; the input reads as it did. -/
def learnSameUptoRow : OpenClaim := { program := "ytcbelhalckehcaa", sum := "a29ff4dc6eb817e13822103a21e0fa55e03c07ce31c6a63abe2fa35c1586d0fe", func := "gimbal/gimballaw11.LearnSame", spec := "learnSame", unfollowed := true, recurses := true, named := ["math/bits.divideError", "math/bits.overflowError"], apart := false, narrowed := true }
def LearnSameUptoSaid : Prop := learnSameUptoRow.holds Try.pinned (OpenSpec.upto learnSameSpec)

end Rows
end Go.Proofs.Ytcbelhalckehcaa
