/- A ring of pairs: the list that it holds. -/
import Derived.Test.YtblpdnpfhjnbgaaRp3
namespace Go.Proofs.Ytblpdnpfhjnbgaa
open Go.RowKit Go.Conc
/-- pairs as values -/
def prs (l : List (Int × ByteArray)) : List Value := l.map fun e => pr e.1 e.2
theorem prs_len (l : List (Int × ByteArray)) : (prs l).length = l.length := by simp [prs]
/-- A holds the cells of the pairs of A' -/
def Flat (A A' : Array Value) : Prop := A.size = A'.size * 2 ∧ ∀ i, i < A'.size → ∃ n x, A'[i]? = some (pr n x) ∧ A[i * 2]? = some (.int .i64 n) ∧ A[i * 2 + 1]? = some (.string x)
theorem Flat.set {A A' : Array Value} (h : Flat A A') {q : Nat} (hq : q < A'.size) (n : Int) (x : ByteArray) : Flat ((A.setIfInBounds (q * 2) (.int .i64 n)).setIfInBounds (q * 2 + 1) (.string x)) (A'.setIfInBounds q (pr n x)) := by
  obtain ⟨h1, h2⟩ := h
  refine ⟨by simp [h1], fun i hi => ?_⟩
  simp at hi
  by_cases e : i = q
  · subst e
    refine ⟨n, x, Array.getElem?_setIfInBounds_self_of_lt hq, ?_, Array.getElem?_setIfInBounds_self_of_lt (by simp; omega)⟩
    rw [Array.getElem?_setIfInBounds_ne (by omega), Array.getElem?_setIfInBounds_self_of_lt (by omega)]
  · obtain ⟨m, y, a1, a2, a3⟩ := h2 i hi
    refine ⟨m, y, ?_, ?_, ?_⟩
    · rw [Array.getElem?_setIfInBounds_ne (fun k => e k.symm)]; exact a1
    · rw [Array.getElem?_setIfInBounds_ne (by omega), Array.getElem?_setIfInBounds_ne (by omega)]; exact a2
    · rw [Array.getElem?_setIfInBounds_ne (by omega), Array.getElem?_setIfInBounds_ne (by omega)]; exact a3
theorem Flat.at {A A' : Array Value} (h : Flat A A') {q : Nat} {n : Int} {x : ByteArray} (hq : A'[q]? = some (pr n x)) : A[q * 2]? = some (.int .i64 n) ∧ A[q * 2 + 1]? = some (.string x) := by
  have hlt : q < A'.size := (Array.getElem?_eq_some_iff.1 hq).1
  obtain ⟨m, y, a1, a2, a3⟩ := h.2 q hlt
  rw [hq] at a1
  simp only [Option.some.injEq, Value.agg.injEq, Array.mk.injEq, List.cons.injEq, Value.int.injEq, Value.string.injEq, true_and, and_true] at a1
  obtain ⟨rfl, rfl⟩ := a1
  exact ⟨a2, a3⟩
/-- The ring of pairs at p holds l. -/
def Rp (w : World) (p d c cap : Nat) (l : List (Int × ByteArray)) : Prop :=
  ∃ first A A' buf s r, RS w Tp Ep p d c cap first A buf s r ∧ Flat A A' ∧ Holds cap first A' buf (prs l) ∧ p ≠ d ∧ p ≠ c ∧ d ≠ c
section
variable {p d c cap : Nat} {l : List (Int × ByteArray)}
theorem Rp.ext {w w' : World} (h : Rp w p d c cap l) (hx : Ext w w') : Rp w' p d c cap l := by
  obtain ⟨first, A, A', buf, s, r, h, hf, hh, hd⟩ := h
  exact ⟨first, A, A', buf, s, r, h.ext hx, hf, hh, hd⟩
theorem Rp.le {w : World} (h : Rp w p d c cap l) : l.length ≤ cap ∧ 1 ≤ cap ∧ cap ≤ 256 := by
  obtain ⟨first, A, A', buf, s, r, h, hf, hh, hd⟩ := h
  exact ⟨by have := hh.2.2.2.2.1; rw [prs_len] at this; omega, hh.1, hh.2.1⟩
theorem Rp.lt {w : World} (h : Rp w p d c cap l) : p < w.heap.size ∧ d < w.heap.size ∧ c < w.heap.size := by
  obtain ⟨first, A, A', buf, s, r, h, hf, hh, hd⟩ := h
  exact h.lt
theorem Rp.drewN {w : World} (h : Rp w p d c cap l) (n : Nat) : Rp (w.drewN n) p d c cap l := h
theorem len_l_p (w : World) (h : Rp w p d c cap l) :
    Calls Try.prog 15 #[.pointer (some ⟨p, 0, none⟩)] w fun e w' => e = .returned (.int .i64 l.length) ∧ Quiet w w' := by
  obtain ⟨first, A, A', buf, s, r, h, hf, hh, hd⟩ := h
  have := hh.2.2.2.2.1
  rw [prs_len] at this
  exact len_p w h this hh.2.1
theorem cap_l_p (w : World) (h : Rp w p d c cap l) :
    Calls Try.prog 16 #[.pointer (some ⟨p, 0, none⟩)] w fun e w' => e = .returned (.int .i64 cap) ∧ w' = w := by
  obtain ⟨first, A, A', buf, s, r, h, hf, hh, hd⟩ := h
  exact cap_p w h
theorem at_in_l_p (w : World) (h : Rp w p d c cap l) (k : Nat) {n : Int} {x : ByteArray} (hk : l[k]? = some (n, x)) :
    Calls Try.prog 11 #[.pointer (some ⟨p, 0, none⟩), .int .i64 k] w fun e w' => e = .returned (.tuple #[pr n x, .bool true]) ∧ Ext w w' := by
  obtain ⟨first, A, A', buf, s, r, h, hf, hh, hd⟩ := h
  have hlt : k < l.length := (List.getElem?_eq_some_iff.1 hk).1
  have hv := hh.2.2.2.2.2.2 k (by rw [prs_len]; exact hlt)
  rw [show (prs l)[k]? = some (pr n x) by simp [prs, hk]] at hv
  obtain ⟨a1, a2⟩ := hf.at hv
  have hs := hh.2.2.2.2.1
  rw [prs_len] at hs
  exact at_in_p w h k hh.2.2.1 hh.2.1 hs hlt a1 a2
theorem at_out_l_p (w : World) (h : Rp w p d c cap l) (i : Int) (hi : i < 0 ∨ (l.length : Int) ≤ i) :
    Calls Try.prog 11 #[.pointer (some ⟨p, 0, none⟩), .int .i64 i] w fun e w' => e = .returned (.tuple #[pr 0 ⟨#[]⟩, .bool false]) ∧ Ext w w' := by
  obtain ⟨first, A, A', buf, s, r, h, hf, hh, hd⟩ := h
  have hs := hh.2.2.2.2.1
  rw [prs_len] at hs
  exact at_out_p w h i hh.2.1 hs hi
theorem pop_nil_p (w : World) (h : Rp w p d c cap []) :
    Calls Try.prog 10 #[.pointer (some ⟨p, 0, none⟩)] w fun e w' => e = .returned (.tuple #[pr 0 ⟨#[]⟩, .bool false]) ∧ Rp w' p d c cap [] ∧ Turn p d c w w' := by
  have h' := h
  obtain ⟨first, A, A', buf, s, r, h, hf, hh, hd⟩ := h
  refine (pop_none_p w h hh.2.1 (by have := hh.2.2.2.2.1; simpa [prs] using this)).mono ?_
  rintro e w' ⟨rfl, hx⟩
  exact ⟨rfl, h'.ext hx, Turn.of_ext hx⟩
theorem pop_cons_p {n : Int} {x : ByteArray} (w : World) (h : Rp w p d c cap ((n, x) :: l)) :
    Calls Try.prog 10 #[.pointer (some ⟨p, 0, none⟩)] w fun e w' => e = .returned (.tuple #[pr n x, .bool true]) ∧ Rp w' p d c cap l ∧ Turn p d c w w' := by
  obtain ⟨first, A, A', buf, s, r, h, hf, hh, hpd, hpc, hdc⟩ := h
  have hh0 : Holds cap first A' buf (pr n x :: prs l) := hh
  obtain ⟨hv, hh'⟩ := hh0.pop (pr 0 ⟨#[]⟩)
  obtain ⟨a1, a2⟩ := hf.at hv
  have hs := hh.2.2.2.2.1
  rw [prs_len] at hs
  refine (pop_some_p w h hpd hpc hdc hh.2.2.1 hh.2.1 (len := l.length) hs a1 a2).mono ?_
  rintro e w' ⟨rfl, hr, ht⟩
  have hA : first < A'.size := by have h1 := hh.2.2.1; have h2 := hh.2.2.2.1; omega
  exact ⟨rfl, ⟨_, _, _, _, _, _, hr, hf.set hA 0 ⟨#[]⟩, hh', hpd, hpc, hdc⟩, ht⟩
theorem lay_l_p (w : World) (h : Rp w p d c cap l) (n : Int) (x : ByteArray) :
    Calls Try.prog 31 #[.pointer (some ⟨p, 0, none⟩), pr n x] w fun e w' =>
      e = .returned (.bool (decide (l.length < cap))) ∧ Rp w' p d c cap (if l.length < cap then l ++ [(n, x)] else l) ∧ Turn p d c w w' := by
  have h0 := h
  obtain ⟨first, A, A', buf, s, r, h, hf, hh, hpd, hpc, hdc⟩ := h
  by_cases hl : l.length < cap
  · obtain ⟨hq, hlt, hh'⟩ := hh.push (by rw [prs_len]; exact hl) (pr n x)
    rw [prs_len] at hq hlt hh'
    have hA : (first + l.length) % cap < A'.size := by have h2 := hh.2.2.2.1; omega
    obtain ⟨m, y, _, a2, a3⟩ := hf.2 _ hA
    refine (lay_free_p w h hpd hpc hdc n x hq hlt a2 a3).mono ?_
    rintro e w' ⟨rfl, hr, ht⟩
    rw [if_pos hl, decide_eq_true hl]
    have e1 : prs l ++ [pr n x] = prs (l ++ [(n, x)]) := by simp [prs]
    rw [e1] at hh'
    exact ⟨rfl, ⟨_, _, _, _, _, _, hr, hf.set hA n x, hh', hpd, hpc, hdc⟩, ht⟩
  · have hb : buf = #[] := by
      have := hh.2.2.2.2.1
      rw [prs_len] at this
      exact Array.eq_empty_of_size_eq_zero (by omega)
    subst hb
    refine (lay_full_p w h n x).mono ?_
    rintro e w' ⟨rfl, hx⟩
    rw [if_neg hl, decide_eq_false hl]
    exact ⟨rfl, h0.ext hx, Turn.of_ext hx⟩
end
end Go.Proofs.Ytblpdnpfhjnbgaa
