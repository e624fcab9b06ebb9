/- Wishes and answers, as they came in; what is wanted, reckoned. -/
import Derived.Test.YtdfhhfpfnkjbnaaDi
namespace Go.Proofs.Ytdfhhfpfnkjbnaa
open Go.RowKit Go.Conc
/-- an Ask -/
structure Ask where
  d : Dr
  want : Bool
  per : Int
  st : Int
  data : List Int
def gk (L : List Ask) (i : Nat) : Ask := L.getD i ⟨zeroD, false, 0, 0, []⟩
/-- its thirteen cells -/
def AK (w : World) (b o : Nat) (x : Ask) (a : Option Addr) (c : Nat) : Prop :=
  D9 w b o x.d ∧ w.cell? ⟨b, o + 9, none⟩ = some (.bool x.want) ∧ w.cell? ⟨b, o + 10, none⟩ = some (.int .i64 x.per) ∧ w.cell? ⟨b, o + 11, none⟩ = some (.int .i64 x.st) ∧ w.cell? ⟨b, o + 12, none⟩ = some (.slice a x.data.length c)
theorem AK.ext {w w' : World} {b o : Nat} {x : Ask} {a : Option Addr} {c : Nat} (h : AK w b o x a c) (e : Ext w w') : AK w' b o x a c :=
  ⟨h.1.ext e, e.keepc h.2.1, e.keepc h.2.2.1, e.keepc h.2.2.2.1, e.keepc h.2.2.2.2⟩
/-- asks, one behind the other -/
def AKs (w : World) (a : Option Addr) (L : List Ask) : Prop :=
  ∀ i, i < L.length → ∃ b off da dc, a = some ⟨b, off, none⟩ ∧ AK w b (off + i * 13) (gk L i) da dc ∧ RdY w 0 da (gk L i).data ∧ (gk L i).data.length ≤ maxLen ∧ (∀ x ∈ (gk L i).data, 0 ≤ x ∧ x ≤ 255) ∧ (gk L i).data.length ≤ dc ∧ -9223372036854775808 ≤ (gk L i).per ∧ (gk L i).per ≤ 9223372036854775807
theorem AKs.ext {w w' : World} {a : Option Addr} {L : List Ask} (h : AKs w a L) (x : Ext w w') : AKs w' a L := fun i hi => by
  obtain ⟨b, off, da, dc, e, h1, h2, h3⟩ := h i hi
  exact ⟨b, off, da, dc, e, h1.ext x, h2.ext x, h3⟩
theorem setdr_good (d : Dr) (want : Bool) (per : Int) (h1 : okD d = true) (h2 : inn per 1 250 = true) (w : World) : Calls Try.prog 14 #[drv d, .bool want, .int .i64 per] w fun e w' => e = .returned (.tuple #[drv (setD d want per), .int .i64 0]) ∧ Ext w w' := by
  have h := setdr_any d want per w
  rw [if_pos (by simp [h1, h2])] at h
  exact h
theorem setdr_bad (d : Dr) (want : Bool) (per : Int) (h1 : okD d = false ∨ inn per 1 250 = false) (w : World) : Calls Try.prog 14 #[drv d, .bool want, .int .i64 per] w fun e w' => e = .returned (.tuple #[drv zeroD, .int .i64 1]) ∧ Ext w w' := by
  have h := setdr_any d want per w
  rw [if_neg (by rcases h1 with h1 | h1 <;> simp [h1])] at h
  exact h
theorem eqD (d : Dr) (w : World) : (Op.equalIn 10000 24 (drv d) (drv d)).run Try.prog w = .ok true w := by
  simp [go_sem]
theorem inn9 {s : Int} (h : inn s 0 8 = true) : s = 0 ∨ s = 1 ∨ s = 2 ∨ s = 3 ∨ s = 4 ∨ s = 5 ∨ s = 6 ∨ s = 7 ∨ s = 8 := by
  have := inn_iff.1 h
  omega
theorem setD_keep (d : Dr) (want : Bool) (per : Int) : (setD d want per).addr = d.addr ∧ (setD d want per).id = d.id ∧ (setD d want per).want = want ∧ (setD d want per).per = per ∧ (setD d want per).tried = d.tried ∧ (setD d want per).bad = d.bad ∧ (setD d want per).st = stepTo d.st want (per != d.per) := by
  unfold setD
  split
  · rename_i h
    exact ⟨rfl, rfl, rfl, rfl, rfl, rfl, h.symm⟩
  · exact ⟨rfl, rfl, rfl, rfl, rfl, rfl, rfl⟩
theorem stepTo_in {s : Int} (h : inn s 0 8 = true) (want b : Bool) : inn (stepTo s want b) 0 8 = true ∧ stepTo (stepTo s want b) want false = stepTo s want b ∧ (stepTo s want b = 5 → stepTo s want b = s) := by
  rcases inn9 h with rfl | rfl | rfl | rfl | rfl | rfl | rfl | rfl | rfl <;> cases want <;> cases b <;> exact ⟨rfl, rfl, by decide⟩
theorem setD_same (q : Dr) (want : Bool) (per : Int) (h : stepTo q.st want (per != q.per) = q.st) : setD q want per = { q with want := want, per := per } := if_pos h
theorem setD_idem (d : Dr) (h : inn d.st 0 8 = true) (want : Bool) (per : Int) : setD (setD d want per) want per = setD d want per := by
  obtain ⟨e1, e2, e3, e4, e5, e6, e7⟩ := setD_keep d want per
  have hs := stepTo_in h want (per != d.per)
  have e : stepTo (setD d want per).st want (per != (setD d want per).per) = (setD d want per).st := by
    rw [e4, e7, show (per != per) = false by simp]
    exact hs.2.1
  rw [setD_same _ _ _ e]
  have e9 : { setD d want per with want := want, per := per } = setD d want per := by
    generalize setD d want per = q at *
    obtain ⟨a, b, c, d', e', f, g, i, j⟩ := q
    simp only at e3 e4
    subst e3; subst e4
    rfl
  exact e9
theorem setD_ok (d : Dr) (h : okD d = true) (want : Bool) (per : Int) (hp : inn per 1 250 = true) : okD (setD d want per) = true := by
  obtain ⟨h1, h2, h3, h4, h5, h6, h7⟩ := okD_iff.1 h
  obtain ⟨e1, e2, e3, e4, e5, e6, e7⟩ := setD_keep d want per
  have hs := stepTo_in (okD_st h) want (per != d.per)
  have hb := inn_iff.1 hp
  refine okD_iff.2 ⟨by rw [e1]; exact h1, by rw [e2]; exact h2, by rw [e4]; exact hb, by rw [e7]; exact inn_iff.1 hs.1, ?_, ?_, by rw [e6]; exact h7⟩
  · unfold setD
    split
    · exact h5
    · exact ⟨Int.le_refl _, by show (0 : Int) ≤ 2; omega⟩
  · unfold setD
    split
    · exact h6
    · rename_i hn
      show okL _ = true
      unfold okL enterD
      dsimp only
      rw [if_neg (fun e5 => hn (hs.2.2 e5))]
      rfl
end Go.Proofs.Ytdfhhfpfnkjbnaa
