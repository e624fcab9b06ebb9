/- RingExact: the list beside, made anew by two appends. -/
import Derived.Test.YtblpdnpfhjnbgaaRev
import Derived.Deep.AppendLies
import Derived.Deep.RegionLaw
import Derived.Deep.OwnRows
import Derived.Laws.OwnMore
namespace Go.Proofs.Ytblpdnpfhjnbgaa
open Go.RowKit Go.Conc Go.Shelf
theorem Try.infoPr : (Try.prog.info? Ep).map (fun i => (i.zero, i.size, i.bytes)) = some (some (.agg #[.int .i64 0, .string ⟨#[]⟩]), 2, 24) := by kernel_rfl
theorem info_parts {P : Program} {e : TypeId} {z : Value} {n m : Nat} (h : (P.info? e).map (fun i => (i.zero, i.size, i.bytes)) = some (some z, n, m)) : ∃ i, P.info? e = some i ∧ i.zero = some z ∧ i.size = n ∧ i.bytes = m := by
  cases hp : P.info? e with
  | none => rw [hp] at h; simp at h
  | some i =>
    rw [hp] at h
    simp only [Option.map_some, Option.some.injEq, Prod.mk.injEq] at h
    exact ⟨i, rfl, h.1, h.2.1, h.2.2⟩
theorem Ext.keepc' {w w' : World} (h : Ext w w') {a : Addr} {v : Value} (hc : w.cell? a = some v) : w'.cell? a = some v := by
  rw [Below.cell (p := a) h (World.block_lt_of_cell? w a hc)]; exact hc
/-- the cells of pairs -/
def flatP : List (Int × ByteArray) → List Value
  | [] => []
  | t :: l => .int .i64 t.1 :: .string t.2 :: flatP l
theorem flatP_len : ∀ xs : List (Int × ByteArray), (flatP xs).length = xs.length * 2
  | [] => rfl
  | t :: l => by simp [flatP, flatP_len l]; omega
theorem flatP_app : ∀ xs ys : List (Int × ByteArray), flatP (xs ++ ys) = flatP xs ++ flatP ys
  | [], ys => rfl
  | t :: l, ys => by simp [flatP, flatP_app l ys]
theorem flatP_at : ∀ (xs : List (Int × ByteArray)) (k : Nat) (e : Int × ByteArray), xs[k]? = some e → (flatP xs)[k * 2]? = some (.int .i64 e.1) ∧ (flatP xs)[k * 2 + 1]? = some (.string e.2)
  | [], k, e, h => by simp at h
  | t :: l, 0, e, h => by simp at h; subst h; simp [flatP]
  | t :: l, k + 1, e, h => by
    have := flatP_at l k e (by simpa using h)
    rw [show (k + 1) * 2 = k * 2 + 1 + 1 by omega]
    simpa [flatP] using this
theorem flatP_one (xs : List (Int × ByteArray)) : ∀ u ∈ flatP xs, u.oneCell' = true := by
  induction xs with
  | nil => intro u hu; simp [flatP] at hu
  | cons t l ih =>
    intro u hu
    simp only [flatP, List.mem_cons] at hu
    rcases hu with rfl | rfl | hu
    · rfl
    · rfl
    · exact ih u hu
theorem addp (b o n : Nat) : (⟨b, o, none⟩ : Addr).add n = ⟨b, o + n, none⟩ := by
  unfold Addr.add
  split
  · subst_vars; rfl
  · rfl
/-- a slice of pairs, cell by cell -/
theorem Sl.news {w : World} {b off : Nat} : ∀ {L : List (Int × ByteArray)}, Sl w (some ⟨b, off, none⟩) L → ∀ j u, (flatP L)[j]? = some u → w.cell? ((⟨b, off, none⟩ : Addr).add j) = some u := by
  intro L h j u hu
  rw [addp]
  have hl : j < L.length * 2 := by rw [← flatP_len]; exact (List.getElem?_eq_some_iff.1 hu).1
  obtain ⟨e, he⟩ : ∃ e, L[j / 2]? = some e := ⟨_, List.getElem?_eq_getElem (by omega)⟩
  obtain ⟨b', off', ea, h1, h2⟩ := h (j / 2) e he
  simp only [Option.some.injEq, Addr.mk.injEq, and_true] at ea
  obtain ⟨rfl, rfl⟩ := ea
  obtain ⟨f1, f2⟩ := flatP_at L (j / 2) e he
  rcases Nat.mod_two_eq_zero_or_one j with hm | hm
  · have ej : j = j / 2 * 2 := by omega
    have hu' : (flatP L)[j / 2 * 2]? = some u := by rw [← ej]; exact hu
    rw [f1] at hu'
    rw [← hu', show off + j = off + j / 2 * 2 by omega]; exact h1
  · have ej : j = j / 2 * 2 + 1 := by omega
    have hu' : (flatP L)[j / 2 * 2 + 1]? = some u := by rw [← ej]; exact hu
    rw [f2] at hu'
    rw [← hu', show off + j = off + j / 2 * 2 + 1 by omega]; exact h2
theorem row_sl {w : World} {B g n cap : Nat} {L : List (Int × ByteArray)} (h : w.ownsRow B Ep 2 (.slice (some ⟨g, 0, none⟩) n cap) n (flatP L)) : Sl w (some ⟨g, 0, none⟩) L := by
  intro i e he
  obtain ⟨f1, f2⟩ := flatP_at L i e he
  have c1 := h.cells rfl _ _ f1
  have c2 := h.cells rfl _ _ f2
  rw [addp] at c1 c2
  exact ⟨g, 0, rfl, c1, by rw [Nat.add_assoc]; exact c2⟩
theorem row_grown {w w' : World} {v : Value} {B : Nat} {e : TypeId} {s n : Nat} {xs : List Value} (hg : w.grownBy w' v.ownBlock) (h : w.ownsRow B e s v n xs) {a : World} (hx : Ext a w) (hB : a.heap.size ≤ B) : Ext a w' :=
  Below.trans hx ⟨hg.os, hg.tape, hg.output, hg.size, fun k hk => hg.block k (Nat.lt_of_lt_of_le hk hx.size) (fun e => by have := (h.lt k e.symm).1; omega)⟩
theorem pair_new (w : World) (u v : Value) (T : TypeId) : ∀ j x, [u, v][j]? = some x → (w.alloc (.cells #[u, v] T)).cell? ((⟨w.heap.size, 0, none⟩ : Addr).add j) = some x := by
  intro j y h
  match j with
  | 0 => simp at h; subst h; simp [go_sem, Addr.add]
  | 1 => simp at h; subst h; simp [go_sem, Addr.add]
  | j + 2 => simp at h
/-- cells that an append leaves alone -/
theorem news_far {w w' : World} {b : Nat} {v : Value} {xs : List Value} (hg : w.grownBy w' v.ownBlock) (h : ∀ j u, xs[j]? = some u → w.cell? ((⟨b, 0, none⟩ : Addr).add j) = some u) (hb : v.ownBlock ≠ some b) : ∀ j u, xs[j]? = some u → w'.cell? ((⟨b, 0, none⟩ : Addr).add j) = some u := by
  intro j u hu
  have hc := h j u hu
  rw [addp] at hc ⊢
  have hlt := World.block_lt_of_cell? w ⟨b, 0 + j, none⟩ hc
  rw [hg.cell_far ⟨b, 0 + j, none⟩ hlt (fun e => hb e.symm)]
  exact hc
section
variable {w W W' : World} {B p d c n len cap g cp m : Nat} {a al : Option Addr} {D N : Nat → Int} {S : Nat → ByteArray} {L L' : List (Int × ByteArray)}
theorem Ev.anew (h : Ev w W B p d c n len cap a al D N S L) (t : Turn p d c W W') (hr : Rp W' p d c n L') (hs : Sl W' (some ⟨g, 0, none⟩) L') (hg : g ≠ p ∧ g ≠ d ∧ g ≠ c) : Ev w W' B p d c n len cap a (some ⟨g, 0, none⟩) D N S L' := by
  obtain ⟨t1, t2, t3, t4, t5⟩ := h.turn t
  exact ⟨t1, t2, t3, hr, hs, t5, h.w1, h.n1, h.n4, fun b off e _ => by simp only [Option.some.injEq, Addr.mk.injEq, and_true] at e; rw [← e.1]; exact hg⟩
/-- behind both appends -/
theorem Ev.pushed {W7 : World} {x : Int × ByteArray} (h : Ev w W B p d c n len cap a al D N S L) (t : Turn p d c W W7) (hr : Rp W7 p d c n (L' ++ [x])) (hx : Ext W7 W') (ho : W'.ownsRow W7.heap.size Ep 2 (.slice (some ⟨g, 0, none⟩) m cp) m (flatP L' ++ [.int .i64 x.1, .string x.2])) (hm : m = (L' ++ [x]).length) : (L' ++ [x]).length ≤ cp ∧ Ev w W' B p d c n len cap a (some ⟨g, 0, none⟩) D N S (L' ++ [x]) := by
  have ho' : W'.ownsRow W7.heap.size Ep 2 (.slice (some ⟨g, 0, none⟩) m cp) m (flatP (L' ++ [x])) := by rw [flatP_app]; exact ho
  obtain ⟨lp, ld, lc⟩ := hr.lt
  have hg : W7.heap.size ≤ g := (ho.lt g rfl).1
  refine ⟨?_, h.anew (t.trans (Turn.of_ext hx)) (hr.ext hx) (row_sl ho') (by omega)⟩
  rw [← hm]
  rcases ho.2 with ⟨e, _⟩ | ⟨g', cp', cur, e, _, _, hc, _⟩
  · cases e
  · simp only [Value.slice.injEq] at e
    omega
end
end Go.Proofs.Ytblpdnpfhjnbgaa
