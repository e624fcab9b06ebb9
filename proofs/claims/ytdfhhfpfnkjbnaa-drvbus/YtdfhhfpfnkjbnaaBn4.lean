/- DrvBus: words; the parts of its code. -/
import Derived.Test.YtdfhhfpfnkjbnaaBn2d
import Derived.Test.YtdfhhfpfnkjbnaaDi
namespace Go.Proofs.Ytdfhhfpfnkjbnaa
open Go.RowKit Go.Conc
theorem frs_none (w : World) (a : Option Addr) : FRs w a [] := fun i hi => by simp at hi
theorem mrs_one {w : World} {a : Option Addr} {L : List Raw} {c b : Nat} (h : LR w a L) (hl : L.length ≤ 300) (hm : M3 w b 0 ⟨16, 49, L⟩ a c) : MRs w (some ⟨b, 0, none⟩) [⟨16, 49, L⟩] := fun i hi => by
  have e : i = 0 := by simp at hi; exact hi
  subst e
  exact ⟨b, 0, a, c, rfl, hm, h, by show L.length ≤ maxLen; unfold maxLen; omega⟩
theorem okM_raws {L : List Raw} (h : (okMs [⟨16, 49, L⟩] && okFs []) = true) : ∀ r ∈ L, okR r = true := by
  have h1 := (Bool.and_eq_true _ _ ▸ h).1
  have h2 : (okUp [⟨16, 49, L⟩] 0 && (okM (gm [⟨16, 49, L⟩] 0) && (fnd (dvs [⟨16, 49, L⟩]) 0 (gm [⟨16, 49, L⟩] 0).addr).isNone)) = true := (Bool.and_eq_true _ _ ▸ h1).2
  simp only [Bool.and_eq_true] at h2
  have h3 : okM ⟨16, 49, L⟩ = true := h2.2.1
  unfold okM at h3
  simp only [Bool.and_eq_true] at h3
  exact List.all_eq_true.1 h3.2.2
theorem set_first (per : Nat) : setD (newD 16 49) true per = ⟨16, 49, true, per, 1, 0, false, 0, 0⟩ := by
  unfold setD
  have e : stepTo (newD 16 49).st true ((per : Int) != (newD 16 49).per) = 1 := by
    unfold stepTo toV
    rw [if_pos rfl]
    split <;> rfl
  rw [e, if_neg (by decide)]
  rfl
theorem lt_meas {n j : Nat} (h : j < n) (hw : wrap64 ((j : Int) + 1) = (j : Int) + 1) : n - (intOf (.int .i64 (wrap64 ((j : Int) + 1)))).toNat < n - (intOf (.int .i64 (j : Int))).toNat := by
  rw [hw]
  simp [intOf]
  omega
/-- parts of the code -/
def rgt : List Unit → Code → Code
  | [], c => c
  | _ :: l, .seq _ b => rgt l b
  | _ :: _, c => c
def lft : Code → Code
  | .seq a _ => a
  | c => c
def inn1 : Code → Code
  | .block _ c => c
  | .loop c => c
  | c => c
end Go.Proofs.Ytdfhhfpfnkjbnaa
