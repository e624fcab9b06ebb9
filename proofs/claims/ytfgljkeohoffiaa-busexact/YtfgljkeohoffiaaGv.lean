/- A script; a bus beside it. -/
import Derived.Test.YtfgljkeohoffiaaGu
namespace Go.Proofs.Ytfgljkeohoffiaa
open Go.RowKit Go.Conc
/-- an Act -/
structure Ac where
  do_ : Int
  addr : Int
  reg : Int
  wr : List Nat
  rd : Int
  n : Int
def ga (L : List Ac) (i : Nat) : Ac := L.getD i ⟨0, 0, 0, [], 0, 0⟩
def A6 (w : World) (b o : Nat) (x : Ac) (wa : Option Addr) (wc : Nat) : Prop :=
  w.cell? ⟨b, o, none⟩ = some (.int .i64 x.do_) ∧ w.cell? ⟨b, o + 1, none⟩ = some (.int .i64 x.addr) ∧ w.cell? ⟨b, o + 2, none⟩ = some (.int .i64 x.reg) ∧ w.cell? ⟨b, o + 3, none⟩ = some (.slice wa x.wr.length wc) ∧ w.cell? ⟨b, o + 4, none⟩ = some (.int .i64 x.rd) ∧ w.cell? ⟨b, o + 5, none⟩ = some (.int .i64 x.n)
theorem A6.ext {w w' : World} {b o : Nat} {x : Ac} {wa : Option Addr} {wc : Nat} (h : A6 w b o x wa wc) (e : Ext w w') : A6 w' b o x wa wc :=
  ⟨e.keepc h.1, e.keepc h.2.1, e.keepc h.2.2.1, e.keepc h.2.2.2.1, e.keepc h.2.2.2.2.1, e.keepc h.2.2.2.2.2⟩
/-- acts, one behind the other -/
def ARs (w : World) (a : Option Addr) (L : List Ac) : Prop :=
  ∀ i, i < L.length → ∃ b off wa wc, a = some ⟨b, off, none⟩ ∧ A6 w b (off + i * 6) (ga L i) wa wc ∧ BR w wa (ga L i).wr ∧ (ga L i).wr.length ≤ maxLen ∧ -9223372036854775808 ≤ (ga L i).n ∧ (ga L i).n ≤ 9223372036854775807 ∧ (0 < (ga L i).wr.length → ∀ k off, wa = some ⟨k, off, none⟩ → k < w.heap.size)
theorem ARs.ext {w w' : World} {a : Option Addr} {L : List Ac} (h : ARs w a L) (x : Ext w w') : ARs w' a L := fun i hi => by
  obtain ⟨b, off, wa, wc, e, h1, h2, h3, h4, h5, h6⟩ := h i hi
  exact ⟨b, off, wa, wc, e, h1.ext x, h2.ext x, h3, h4, h5, fun h0 k off e => by have := h6 h0 k off e; have := x.size; omega⟩
/-- the bus at y, which was not there in w0 -/
structure Rg (w0 wr : World) (y : BA) (s : Bs) : Prop where
  x : Ext w0 wr
  b : IsBus wr y s
  f : ∀ k, FB y k → w0.heap.size ≤ k
theorem Rg.ext {w0 wr w' : World} {y : BA} {s : Bs} (h : Rg w0 wr y s) (x : Ext wr w') : Rg w0 w' y s := ⟨h.x.trans x, h.b.ext x, h.f⟩
theorem Rg.bd {w0 wr w' : World} {y : BA} {s s' : Bs} (h : Rg w0 wr y s) (d : Bd y s' wr w') : Rg w0 w' y s' := ⟨d.2.below h.x h.f, d.1, h.f⟩
theorem Rg.do {w0 wr : World} {y : BA} {s : Bs} (h : Rg w0 wr y s) (addr : Int) (reg : Nat) (a : Option Addr) (l : List Nat) (c n : Nat) (hl : l.length ≤ maxLen) (ho : okT addr reg l.length n = true) (hb : BR wr a l) (ha : ∀ k off, 0 < l.length → a = some ⟨k, off, none⟩ → ¬ FB y k) (hi : ∀ k, 0 ≤ ((flt s.F k).getD noF).idx) :
    Calls Try.prog 16 #[.pointer (some ⟨y.b, 0, none⟩), txv addr reg a l.length c n] wr fun e w' => ∃ a' c', e = .returned (.tuple #[ansV (doB s addr reg l n).1 (.slice a' (doB s addr reg l n).2.1.length c'), .int .i64 0]) ∧ (RdB w' (.slice a' (doB s addr reg l n).2.1.length c') (doB s addr reg l n).2.1 ∧ Rg w0 w' y (doB s addr reg l n).2.2) := by
  refine (do_ok wr h.b addr reg a l c n hl ho hb ha hi).mono ?_
  rintro e w' ⟨v, rfl, o, d⟩
  obtain ⟨a', c', rfl⟩ := row_form o
  exact ⟨a', c', rfl, rdb_row o, h.bd d⟩
theorem take_one {M : List Md} (h : 0 < M.length) : M.take 1 = [gm M 0] := by
  cases M with
  | nil => simp at h
  | cons m l => rfl
theorem MRs.one {w : World} {a : Option Addr} {M : List Md} (h : MRs w a M) (h0 : 0 < M.length) : MRs w a [gm M 0] := fun i hi => by
  have e : i = 0 := by simp at hi; omega
  subst e
  exact h 0 h0
/-- no fault ever -/
theorem no_flt (s : Bs) (h : s.F = []) : s.flt = noF ∧ ∀ k, 0 ≤ ((flt s.F k).getD noF).idx := by
  unfold Bs.flt
  rw [h]
  exact ⟨rfl, fun k => Int.le_refl _⟩
theorem do_plain (s : Bs) (h : s.F = []) {addr : Int} {i : Nat} (hf : fnd s.D s.n addr = some i) (reg : Nat) (l : List Nat) (n : Nat) :
    doB s addr reg l n = (1, (s.D i).tells reg l n, { s with cnt := wrap64 (s.cnt + 1), D := upd s.D i ((s.D i).does reg l n) }) := by
  unfold doB
  rw [hf]
  simp only [(no_flt s h).1, noF, corr]
  rfl
end Go.Proofs.Ytfgljkeohoffiaa
