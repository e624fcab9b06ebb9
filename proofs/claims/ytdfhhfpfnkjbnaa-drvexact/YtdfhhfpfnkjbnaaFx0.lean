/- DrvExact: the parts of its code. -/
import Derived.Test.YtdfhhfpfnkjbnaaFh
namespace Go.Proofs.Ytdfhhfpfnkjbnaa
open Go.RowKit Go.Conc
theorem lt_meas9 {n i : Nat} (h : i < n) : n - (intOf (.int .i64 ((i + 1 : Nat) : Int))).toNat < n - (intOf (.int .i64 (i : Int))).toNat := by
  simp [intOf]
  omega
/-- parts of the code -/
def rgt : List Unit → Code → Code
  | [], c => c
  | _ :: l, .seq _ b => rgt l b
  | _ :: _, c => c
def lft : Code → Code
  | .seq a _ => a
  | c => c
def inn1 : Code → Code
  | .block _ c => c
  | .loop c => c
  | c => c
end Go.Proofs.Ytdfhhfpfnkjbnaa
