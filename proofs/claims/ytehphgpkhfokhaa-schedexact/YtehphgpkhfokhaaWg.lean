/- SchedExact: what the loop over the reference's runs keeps. -/
import Derived.Test.YtehphgpkhfokhaaWe
namespace Go.Proofs.Ytehphgpkhfokhaa
open Go.RowKit Go.Conc
/-- the script as it lies at P -/
def Pc (w : World) (P : Nat) (N : Int) (at_ al : Option Addr) (lt ct ll cl : Nat) : Prop :=
  w.cell? ⟨P, 0, none⟩ = some (.int .i64 N) ∧ w.cell? ⟨P, 1, none⟩ = some (.slice at_ lt ct) ∧ w.cell? ⟨P, 2, none⟩ = some (.slice al ll cl)
theorem Pc.keep {F : Nat → Prop} {w w' : World} {P : Nat} {N : Int} {at_ al : Option Addr} {lt ct ll cl : Nat} (h : Pc w P N at_ al lt ct ll cl) (k : Keep F w w') (hP : F P) : Pc w' P N at_ al lt ct ll cl :=
  ⟨k _ _ _ hP h.1, k _ _ _ hP h.2.1, k _ _ _ hP h.2.2⟩
theorem Pc.ext {w w' : World} {P : Nat} {N : Int} {at_ al : Option Addr} {lt ct ll cl : Nat} (h : Pc w P N at_ al lt ct ll cl) (x : Ext w w') : Pc w' P N at_ al lt ct ll cl := ⟨x.keepc h.1, x.keepc h.2.1, x.keepc h.2.2⟩
/-- what lies beside the two tables: the script, the act, the number of runs, the answer -/
structure Sd (F : Nat → Prop) (wr : World) (P X K : Nat) (N : Int) (at_ al : Option Addr) (lt ct ll cl mo : Nat) (R : List Int × St × Nat) (lv : Value) (BL : Nat) : Prop where
  pc : Pc wr P N at_ al lt ct ll cl
  cx : wr.cell? ⟨X, 1, none⟩ = some (.int .i64 (mo : Nat))
  ck : wr.cell? ⟨K, 0, none⟩ = some (.int .i64 (R.2.2 : Nat))
  lr : wr.ownsRow BL Ei 1 lv R.1.length (nums R.1)
  fP : F P
  fX : F X
  fK : F K
  fl : ∀ g, lv.ownBlock = some g → F g
section
variable {F : Nat → Prop} {w wr w' : World} {t q P X K : Nat} {N : Int} {at_ al : Option Addr} {lt ct ll cl mo : Nat} {R : List Int × St × Nat} {lv : Value} {BL B : Nat} {told : Told} {m m' : Nat} {s1 r r' : St} {x : Value} {l : List Int}
theorem Sd.keep (h : Sd F wr P X K N at_ al lt ct ll cl mo R lv BL) (k : KeepB F wr w') : Sd F w' P X K N at_ al lt ct ll cl mo R lv BL :=
  ⟨h.pc.keep k.keep h.fP, k.keep _ _ _ h.fX h.cx, k.keep _ _ _ h.fK h.ck, row_keepB h.lr (fun g hg => k.2 g (h.fl g hg)), h.fP, h.fX, h.fK, h.fl⟩
theorem Sd.ext (h : Sd F wr P X K N at_ al lt ct ll cl mo R lv BL) (y : Ext wr w') : Sd F w' P X K N at_ al lt ct ll cl mo R lv BL :=
  ⟨h.pc.ext y, y.keepc h.cx, y.keepc h.ck, row_ext h.lr y, h.fP, h.fX, h.fK, h.fl⟩
/-- the runs so far -/
structure Rr (told : Told) (R : List Int × St × Nat) (mo m m' : Nat) (r' : St) (l : List Int) : Prop where
  mm : m' = m + l.length
  ss : r'.S.length ≤ 64 + l.length
  rr : R = (l ++ (runs told (mo - l.length) m' r').1, (runs told (mo - l.length) m' r').2)
theorem Rr.none (h : Rr told R mo m m' r' l) (hlo : lo r'.A = none) : R.1 = l ∧ R.2.1 = r' ∧ R.2.2 = m' := by
  have := h.rr
  rw [runs_none hlo] at this
  rw [this]; simp
theorem Rr.full (h : Rr told R mo m m' r' l) (hl : ¬ l.length < mo) : R.1 = l ∧ R.2.1 = r' ∧ R.2.2 = m' := by
  have := h.rr
  rw [show mo - l.length = 0 by omega] at this
  rw [this]; simp [runs]
theorem Rr.step (h : Rr told R mo m m' r' l) (hl : l.length < mo) {i : Nat} (hlo : lo r'.A = some i) : Rr told R mo m (m' + 1) (stepR told m' i r') (l ++ [(i : Int)]) := by
  have e : (l ++ [(i : Int)]).length = l.length + 1 := by simp
  refine ⟨by rw [e, h.mm]; omega, ?_, ?_⟩
  · rw [e]
    have h1 := heeded_S { r' with A := r'.A.set i false } i (told m' i).1 (told m' i).2
    have h2 := h.ss
    unfold stepR
    simp only at h1
    omega
  · have h1 := h.rr
    rw [show mo - l.length = (mo - (l.length + 1)) + 1 by omega, runs_some hlo] at h1
    rw [h1, e]
    simp
end
end Go.Proofs.Ytehphgpkhfokhaa
