/-
  No cell of these rows narrows 'for every input' (looked for: loops, veiled, ifaces, maps, wideKeys, modest, calm, conditions, laid).
  DERIVED. THE GIVEN ROWS OF THIS SEAT. 4 by the template 'for every input the law returns true; each argument reads behind the call as it read before'; 0 by the template 'total and deterministic' (their statements: YtmbdcgijjpcppaaGreatTotals.lean).
  GIVEN WITH THE SEED: the statements are not yours to turn. If you find one false, say at which input.
  Laid BY PROGRAM, IN A SANDBOX (cutbox-rows.mjs): the forced cells as the released guide's own fill.sh prints them over the translation d675a46caa266c8a… (all of the seat's roots in one cut). By AI agents, Wed Nov 11 2026. No macro, syntax, notation, axiom, sorry.
-/
import Derived.Test.YtmbdcgijjpcppaaGreatChecked
import GoSem.Claim
import GoSem.ClaimJoined
import GoSem.ClaimMapViews
import Derived.JoinedTies
import Derived.KernelRfl
namespace Go.Proofs.YtmbdcgijjpcppaaGreat
/- THE CELL 'sum', in the pinned program and in every row, IS THE sha256 OF THE DUMP (.gsa) THAT YtmbdcgijjpcppaaGreatProg.lean LOADS. Nothing in Lean hashes anything: it is a label: what it is worth is what the hold of that sum in a sandbox is worth. -/
noncomputable def Tryz.pinned : Pinned := { name := "ytmbdcgijjpcppaagreat", sum := "d675a46caa266c8a75bb73f0e5358de21490b8a8a9e3828013f211fa8cb3ceda", checked := Tryz.checked }
namespace Rows
def none {H : Type} : Left H := { results := [], args := [] }

/-- 'gimballaw15.FuseExact': WHATEVER THE INPUT: true; the input reads as it did. -/
def fuseExactSpec : ChangeSpec := { name := "fuseExact", fn := fun _ => fun
  | [d] => { results := [.lit (.bool true)], args := [d] }
  | _ => none }
def fuseExactRow : OpenClaim := { program := "ytmbdcgijjpcppaagreat", sum := "d675a46caa266c8a75bb73f0e5358de21490b8a8a9e3828013f211fa8cb3ceda", func := "gimbal/gimballaw15.FuseExact", spec := "fuseExact", inPlace := ["math/bits.Add64", "math/bits.Sub64"], unfollowed := true, recurses := true, named := ["math/bits.divideError", "math/bits.overflowError"], apart := false }
def FuseExactSaid : Prop := fuseExactRow.holds Tryz.pinned (OpenSpec.ofChange fuseExactSpec)

/-- ITS FALSE NEIGHBOUR: 'it returns false'. Refute it at one input. -/
def fuseExactWrong : ChangeSpec := { name := "fuseExact", fn := fun _ => fun
  | [d] => { results := [.lit (.bool false)], args := [d] }
  | _ => none }
def FuseExactWrongFalsely : Prop := fuseExactRow.holds Tryz.pinned (OpenSpec.ofChange fuseExactWrong)

/-- 'gimballaw15.FuseStays': WHATEVER THE INPUT: true; the input reads as it did. -/
def fuseStaysSpec : ChangeSpec := { name := "fuseStays", fn := fun _ => fun
  | [d] => { results := [.lit (.bool true)], args := [d] }
  | _ => none }
def fuseStaysRow : OpenClaim := { program := "ytmbdcgijjpcppaagreat", sum := "d675a46caa266c8a75bb73f0e5358de21490b8a8a9e3828013f211fa8cb3ceda", func := "gimbal/gimballaw15.FuseStays", spec := "fuseStays", inPlace := ["math/bits.Add64", "math/bits.Sub64"], unfollowed := true, recurses := true, named := ["math/bits.divideError", "math/bits.overflowError"], apart := false }
def FuseStaysSaid : Prop := fuseStaysRow.holds Tryz.pinned (OpenSpec.ofChange fuseStaysSpec)

/-- ITS FALSE NEIGHBOUR: 'it returns false'. Refute it at one input. -/
def fuseStaysWrong : ChangeSpec := { name := "fuseStays", fn := fun _ => fun
  | [d] => { results := [.lit (.bool false)], args := [d] }
  | _ => none }
def FuseStaysWrongFalsely : Prop := fuseStaysRow.holds Tryz.pinned (OpenSpec.ofChange fuseStaysWrong)

/-- 'gimballaw15.FuseSpins': WHATEVER THE INPUT: true; the input reads as it did. -/
def fuseSpinsSpec : ChangeSpec := { name := "fuseSpins", fn := fun _ => fun
  | [d] => { results := [.lit (.bool true)], args := [d] }
  | _ => none }
def fuseSpinsRow : OpenClaim := { program := "ytmbdcgijjpcppaagreat", sum := "d675a46caa266c8a75bb73f0e5358de21490b8a8a9e3828013f211fa8cb3ceda", func := "gimbal/gimballaw15.FuseSpins", spec := "fuseSpins", inPlace := ["math/bits.Add64", "math/bits.Sub64"], unfollowed := true, recurses := true, named := ["math/bits.divideError", "math/bits.overflowError"], apart := false }
def FuseSpinsSaid : Prop := fuseSpinsRow.holds Tryz.pinned (OpenSpec.ofChange fuseSpinsSpec)

/-- ITS FALSE NEIGHBOUR: 'it returns false'. Refute it at one input. -/
def fuseSpinsWrong : ChangeSpec := { name := "fuseSpins", fn := fun _ => fun
  | [d] => { results := [.lit (.bool false)], args := [d] }
  | _ => none }
def FuseSpinsWrongFalsely : Prop := fuseSpinsRow.holds Tryz.pinned (OpenSpec.ofChange fuseSpinsWrong)

/-- 'gimballaw15.FuseSigns': WHATEVER THE INPUT: true; the input reads as it did. -/
def fuseSignsSpec : ChangeSpec := { name := "fuseSigns", fn := fun _ => fun
  | [d] => { results := [.lit (.bool true)], args := [d] }
  | _ => none }
def fuseSignsRow : OpenClaim := { program := "ytmbdcgijjpcppaagreat", sum := "d675a46caa266c8a75bb73f0e5358de21490b8a8a9e3828013f211fa8cb3ceda", func := "gimbal/gimballaw15.FuseSigns", spec := "fuseSigns", inPlace := ["math/bits.Add64", "math/bits.Sub64"], unfollowed := true, recurses := true, named := ["math/bits.divideError", "math/bits.overflowError"], apart := false }
def FuseSignsSaid : Prop := fuseSignsRow.holds Tryz.pinned (OpenSpec.ofChange fuseSignsSpec)

/-- ITS FALSE NEIGHBOUR: 'it returns false'. Refute it at one input. -/
def fuseSignsWrong : ChangeSpec := { name := "fuseSigns", fn := fun _ => fun
  | [d] => { results := [.lit (.bool false)], args := [d] }
  | _ => none }
def FuseSignsWrongFalsely : Prop := fuseSignsRow.holds Tryz.pinned (OpenSpec.ofChange fuseSignsWrong)

/- THE SECOND FORM. 'bulk': how many values and letters a reading holds, each counted each time it is reached (what is shared counts as often as it is met; a slice's spare places count too). A statement '..UptoSaid' is the law's where the arguments, and the package variables that the reading takes, are together of bulk at most 1048576: NARROWER than '..Said'. Prove '..Said' where nothing that the law and all that it calls make is longer than what came in: it says more and counts as full. Else prove '..UptoSaid'. A law counts once. -/
mutual
def uptoBulk {H : Type} : DataW H → Nat
  | .lit (.string bytes) => bytes.length + 1
  | .lit _ => 1
  | .nil => 1
  | .ptr d => uptoBulk d + 1
  | .slice elems spare => uptoBulkAll elems + uptoBulkAll spare + 1
  | .agg parts => uptoBulkAll parts + 1
  | .iface _ d => uptoBulk d + 1
  | .map entries => uptoBulkEntries entries + 1
  | .held _ => 1
def uptoBulkAll {H : Type} : List (DataW H) → Nat
  | [] => 0
  | d :: r => uptoBulk d + uptoBulkAll r
def uptoBulkEntries {H : Type} : List (Lit × DataW H) → Nat
  | [] => 0
  | x :: r => uptoBulkEntry x + uptoBulkEntries r
def uptoBulkEntry {H : Type} : Lit × DataW H → Nat
  | (.string bytes, d) => bytes.length + uptoBulk d + 1
  | (_, d) => uptoBulk d + 1
 end
def uptoSmall : (H : Type) → List (DataW H) → Bool := fun _ ds => decide (uptoBulkAll ds ≤ 1048576)
def OpenSpec.upto (s : _root_.Go.ChangeSpec) : _root_.Go.OpenSpec := { _root_.Go.OpenSpec.ofChange s with cond := some uptoSmall }

/-- 'gimballaw15.FuseExact', WHERE WHAT IT READS IS OF BULK AT MOST 1048576: true; the input reads as it did. -/
def fuseExactUptoRow : OpenClaim := { program := "ytmbdcgijjpcppaagreat", sum := "d675a46caa266c8a75bb73f0e5358de21490b8a8a9e3828013f211fa8cb3ceda", func := "gimbal/gimballaw15.FuseExact", spec := "fuseExact", inPlace := ["math/bits.Add64", "math/bits.Sub64"], unfollowed := true, recurses := true, named := ["math/bits.divideError", "math/bits.overflowError"], apart := false, narrowed := true }
def FuseExactUptoSaid : Prop := fuseExactUptoRow.holds Tryz.pinned (OpenSpec.upto fuseExactSpec)

/-- 'gimballaw15.FuseStays', WHERE WHAT IT READS IS OF BULK AT MOST 1048576: true; the input reads as it did. -/
def fuseStaysUptoRow : OpenClaim := { program := "ytmbdcgijjpcppaagreat", sum := "d675a46caa266c8a75bb73f0e5358de21490b8a8a9e3828013f211fa8cb3ceda", func := "gimbal/gimballaw15.FuseStays", spec := "fuseStays", inPlace := ["math/bits.Add64", "math/bits.Sub64"], unfollowed := true, recurses := true, named := ["math/bits.divideError", "math/bits.overflowError"], apart := false, narrowed := true }
def FuseStaysUptoSaid : Prop := fuseStaysUptoRow.holds Tryz.pinned (OpenSpec.upto fuseStaysSpec)

/-- 'gimballaw15.FuseSpins', WHERE WHAT IT READS IS OF BULK AT MOST 1048576: true; the input reads as it did. -/
def fuseSpinsUptoRow : OpenClaim := { program := "ytmbdcgijjpcppaagreat", sum := "d675a46caa266c8a75bb73f0e5358de21490b8a8a9e3828013f211fa8cb3ceda", func := "gimbal/gimballaw15.FuseSpins", spec := "fuseSpins", inPlace := ["math/bits.Add64", "math/bits.Sub64"], unfollowed := true, recurses := true, named := ["math/bits.divideError", "math/bits.overflowError"], apart := false, narrowed := true }
def FuseSpinsUptoSaid : Prop := fuseSpinsUptoRow.holds Tryz.pinned (OpenSpec.upto fuseSpinsSpec)

/-- 'gimballaw15.FuseSigns', WHERE WHAT IT READS IS OF BULK AT MOST 1048576: true; the input reads as it did. -/
def fuseSignsUptoRow : OpenClaim := { program := "ytmbdcgijjpcppaagreat", sum := "d675a46caa266c8a75bb73f0e5358de21490b8a8a9e3828013f211fa8cb3ceda", func := "gimbal/gimballaw15.FuseSigns", spec := "fuseSigns", inPlace := ["math/bits.Add64", "math/bits.Sub64"], unfollowed := true, recurses := true, named := ["math/bits.divideError", "math/bits.overflowError"], apart := false, narrowed := true }
def FuseSignsUptoSaid : Prop := fuseSignsUptoRow.holds Tryz.pinned (OpenSpec.upto fuseSignsSpec)

end Rows
end Go.Proofs.YtmbdcgijjpcppaaGreat
