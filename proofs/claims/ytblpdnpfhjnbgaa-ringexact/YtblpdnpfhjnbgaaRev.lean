/- RingExact: what its variables hold. -/
import Derived.Test.YtblpdnpfhjnbgaaRg
namespace Go.Proofs.Ytblpdnpfhjnbgaa
open Go.RowKit Go.Conc Go.Shelf
/-- what the law's variables hold: the script, the ring and the list beside it -/
structure Ev (w W : World) (B p d c n len cap : Nat) (a al : Option Addr) (D N : Nat → Int) (S : Nat → ByteArray) (L : List (Int × ByteArray)) : Prop where
  s0 : W.cell? ⟨B, 0, none⟩ = some (.int .i64 n)
  s1 : W.cell? ⟨B, 1, none⟩ = some (.slice a len cap)
  ac : Acts W a len D N S
  r : Rp W p d c n L
  sl : Sl W al L
  x : Ext w W
  w1 : w.heap.size ≤ p ∧ w.heap.size ≤ d ∧ w.heap.size ≤ c
  n1 : B ≠ p ∧ B ≠ d ∧ B ≠ c
  n4 : ∀ b off, a = some ⟨b, off, none⟩ → 0 < len → b ≠ p ∧ b ≠ d ∧ b ≠ c
  n5 : ∀ b off, al = some ⟨b, off, none⟩ → 0 < L.length → b ≠ p ∧ b ≠ d ∧ b ≠ c
section
variable {w W W' : World} {B p d c n len cap : Nat} {a al : Option Addr} {D N : Nat → Int} {S : Nat → ByteArray} {L : List (Int × ByteArray)}
theorem Sl.turn (h : Sl W al L) (t : Turn p d c W W') (n5 : ∀ b off, al = some ⟨b, off, none⟩ → 0 < L.length → b ≠ p ∧ b ≠ d ∧ b ≠ c) : Sl W' al L := by
  intro i e he
  obtain ⟨b, off, ea, h1, h2⟩ := h i e he
  have hpos : 0 < L.length := by have := (List.getElem?_eq_some_iff.1 he).1; omega
  have nb := n5 b off ea hpos
  exact ⟨b, off, ea, t.keepc nb h1, t.keepc nb h2⟩
/-- a call that turned the ring alone: the list beside stands as it was -/
theorem Ev.turn (h : Ev w W B p d c n len cap a al D N S L) (t : Turn p d c W W') : W'.cell? ⟨B, 0, none⟩ = some (.int .i64 n) ∧ W'.cell? ⟨B, 1, none⟩ = some (.slice a len cap) ∧ Acts W' a len D N S ∧ Sl W' al L ∧ Ext w W' := by
  refine ⟨t.keepc h.n1 h.s0, t.keepc h.n1 h.s1, ?_, h.sl.turn t h.n5, t.below h.x (Nat.le_refl _) h.w1.1 h.w1.2.1 h.w1.2.2⟩
  intro i hi
  obtain ⟨b, off, ea, a1, a2, a3, a4⟩ := h.ac i hi
  have nb := h.n4 b off ea (by omega)
  exact ⟨b, off, ea, t.keepc nb a1, t.keepc nb a2, t.keepc nb a3, a4⟩
theorem Ev.same (h : Ev w W B p d c n len cap a al D N S L) (t : Turn p d c W W') (hr : Rp W' p d c n L) : Ev w W' B p d c n len cap a al D N S L := by
  obtain ⟨t1, t2, t3, t4, t5⟩ := h.turn t
  exact ⟨t1, t2, t3, hr, t4, t5, h.w1, h.n1, h.n4, h.n5⟩
theorem Ev.ext (h : Ev w W B p d c n len cap a al D N S L) (hx : Ext W W') : Ev w W' B p d c n len cap a al D N S L := h.same (Turn.of_ext hx) (h.r.ext hx)
/-- the first one is gone from both -/
theorem Ev.pop {e : Int × ByteArray} {b off : Nat} (h : Ev w W B p d c n len cap a (some ⟨b, off, none⟩) D N S (e :: L)) (t : Turn p d c W W') (hr : Rp W' p d c n L) : Ev w W' B p d c n len cap a (some ⟨b, off + 2, none⟩) D N S L := by
  obtain ⟨t1, t2, t3, t4, t5⟩ := h.turn t
  refine ⟨t1, t2, t3, hr, ?_, t5, h.w1, h.n1, h.n4, fun b' off' ea _ => ?_⟩
  · intro i e' he
    obtain ⟨b', off', ea, h1, h2⟩ := t4 (i + 1) e' (by simpa using he)
    simp only [Option.some.injEq, Addr.mk.injEq, and_true] at ea
    obtain ⟨rfl, rfl⟩ := ea
    exact ⟨_, _, rfl, by rw [show off + 2 + i * 2 = off + (i + 1) * 2 by omega]; exact h1, by rw [show off + 2 + i * 2 + 1 = off + (i + 1) * 2 + 1 by omega]; exact h2⟩
  · simp only [Option.some.injEq, Addr.mk.injEq, and_true] at ea
    exact h.n5 b off rfl (by simp) |> fun k => by obtain ⟨rfl, _⟩ := ea; exact k
/-- both are empty -/
theorem Ev.clear (h : Ev w W B p d c n len cap a al D N S L) (t : Turn p d c W W') (hr : Rp W' p d c n []) (al' : Option Addr) : Ev w W' B p d c n len cap a al' D N S [] := by
  obtain ⟨t1, t2, t3, t4, t5⟩ := h.turn t
  exact ⟨t1, t2, t3, hr, fun i e he => by simp at he, t5, h.w1, h.n1, h.n4, fun _ _ _ hp => by simp at hp⟩
end
end Go.Proofs.Ytblpdnpfhjnbgaa
