/- The reference's Median. -/
import Derived.Test.YtfooakbcgjebfaaMdr
import Derived.Deep.RegionHeldLaw
namespace Go.Proofs.Ytfooakbcgjebfaa
open Go.RowKit Go.Conc Go.Shelf Go.Lib
abbrev Ei : TypeId := 2
def ivs (l : List Int) : List Value := l.map fun x => .int .i64 x
theorem infoI : ∃ i, Try.prog.info? 2 = some i ∧ i.bytes = 8 ∧ i.size = 1 ∧ i.zero = some (.int .i64 0) := by
  have h1 : (Try.prog.info? 2).map (·.bytes) = some 8 := by kernel_rfl
  have h2 : (Try.prog.info? 2).map (·.size) = some 1 := by kernel_rfl
  have h3 : (Try.prog.info? 2).bind (·.zero) = some (.int .i64 0) := by kernel_rfl
  cases h : Try.prog.info? 2 with
  | none => rw [h] at h1; simp at h1
  | some i =>
    rw [h] at h1 h2 h3
    exact ⟨i, rfl, by simpa using h1, by simpa using h2, by simpa using h3⟩
theorem vrow_low {w : World} {B B' n s : Nat} {e : TypeId} {v : Value} {xs : List Value} (h : w.ownsRow B' e s v n xs) (hb : B ≤ B') : w.ownsRow B e s v n xs := by
  refine ⟨h.1, ?_⟩
  rcases h.2 with e | ⟨g', cap', cur, hv, hb2, hr⟩
  · exact .inl e
  · exact .inr ⟨g', cap', cur, hv, Nat.le_trans hb hb2, hr⟩
theorem irow_cells {w : World} {B n : Nat} {g cap : Nat} {xs : List Value} (h : w.ownsRow B Ei 1 (.slice (some ⟨g, 0, none⟩) n cap) n xs) : ∀ j u, xs[j]? = some u → w.cell? ⟨g, j, none⟩ = some u := by
  rcases h.2 with ⟨e, _⟩ | ⟨g', cap', cur, hv, hb, hg, h1, _, h3, h4⟩
  · cases e
  · cases hv
    intro j u hu
    have hj := (List.getElem?_eq_some_iff.1 hu).1
    rw [h.1] at hj
    simp only [World.cell?, hg]
    rw [← h4, List.getElem?_take, if_pos hj] at hu
    simpa using hu
theorem il_own {w : World} {B i cc : Nat} {r : Option Addr} {ls : List Int} (h : w.ownsRow B Ei 1 (.slice r i cc) i (ivs ls)) (hl : ls.length = i) : IL w r ls := by
  rcases h.2 with ⟨e1, e2⟩ | ⟨g, cap', cur, e1, _⟩
  · have : ls = [] := List.eq_nil_of_length_eq_zero (by omega)
    subst this
    exact fun i x hi => by simp at hi
  · cases e1
    refine fun i x hi => ⟨g, 0, rfl, ?_⟩
    rw [Nat.zero_add]
    exact irow_cells h i _ (by simp [ivs, hi])
theorem news3_ext {w w' : World} {r : Vc} (x : Ext (w.alloc (cells3 r)) w') : ∀ j u, [(.int .i64 r.x : Value), .int .i64 r.y, .int .i64 r.z][j]? = some u → w'.cell? ((⟨w.heap.size, 0, none⟩ : Addr).add j) = some u := fun j u hu => by
  have := news3 w r j u hu
  have e : (⟨w.heap.size, 0, none⟩ : Addr).add j = ⟨w.heap.size, j, none⟩ := by simp only [Addr.add]; split <;> simp_all
  rw [e] at this ⊢
  exact x.keepc this
theorem news1 (w : World) (r : Int) : ∀ j u, [(.int .i64 r : Value)][j]? = some u → (w.alloc (.cells #[.int .i64 r] Ei)).cell? ((⟨w.heap.size, 0, none⟩ : Addr).add j) = some u := by
  intro j u hu
  match j with
  | 0 => simpa [Addr.add, go_sem] using hu
  | j + 1 => simp at hu
theorem news1_one (r : Int) : ∀ u ∈ [(.int .i64 r : Value)], u.oneCell' = true := by
  intro u hu
  simp at hu
  subst hu
  rfl
/-- three rows of numbers that grow side by side -/
structure R3 (w0 wr : World) (na nb nc : Nat) (A B C : List Int) (a b c : Value) : Prop where
  oa : wr.ownsRow w0.heap.size Ei 1 a na (ivs A)
  ob : wr.ownsRow w0.heap.size Ei 1 b nb (ivs B)
  oc : wr.ownsRow w0.heap.size Ei 1 c nc (ivs C)
  ab : ∀ k, a.ownBlock = some k → b.ownBlock = some k → False
  ac : ∀ k, a.ownBlock = some k → c.ownBlock = some k → False
  bc : ∀ k, b.ownBlock = some k → c.ownBlock = some k → False
  ex : Ext w0 wr
theorem R3.rot {w0 wr : World} {na nb nc : Nat} {A B C : List Int} {a b c : Value} (h : R3 w0 wr na nb nc A B C a b c) : R3 w0 wr nb nc na B C A b c a :=
  ⟨h.ob, h.oc, h.oa, h.bc, fun k h1 h2 => h.ab k h2 h1, fun k h1 h2 => h.ac k h2 h1, h.ex⟩
theorem R3.ext {w0 wr w' : World} {na nb nc : Nat} {A B C : List Int} {a b c : Value} (h : R3 w0 wr na nb nc A B C a b c) (x : Ext wr w') : R3 w0 w' na nb nc A B C a b c :=
  ⟨vrow_ext h.oa x, vrow_ext h.ob x, vrow_ext h.oc x, h.ab, h.ac, h.bc, h.ex.trans x⟩
theorem R3.grow {w0 wr w' : World} {na nb nc : Nat} {A B C : List Int} {a b c : Value} (h : R3 w0 wr na nb nc A B C a b c) {x : Int} {g cap : Nat} (ho : w'.ownsRow w0.heap.size Ei 1 (.slice (some ⟨g, 0, none⟩) (na + 1) cap) (na + 1) (ivs A ++ [.int .i64 x])) (hg : wr.grownBy w' a.ownBlock) (hb : a.ownBlock = some g ∨ g = wr.heap.size) :
    R3 w0 w' (na + 1) nb nc (A ++ [x]) B C (.slice (some ⟨g, 0, none⟩) (na + 1) cap) b c := by
  have tt : Tn (fun k => a.ownBlock = some k) wr w' := (Tn.refl _ wr).grown hg (fun k e => .inl e)
  refine ⟨by simpa [ivs] using ho, vrow_tn h.ob tt (fun k _ hk e => h.ab k e hk), vrow_tn h.oc tt (fun k _ hk e => h.ac k e hk), fun k h1 h2 => ?_, fun k h1 h2 => ?_, h.bc, tt.below h.ex (fun i e => (h.oa.lt i e).1)⟩
  · simp only [Value.ownBlock, Option.some.injEq] at h1
    subst h1
    rcases hb with e | e
    · exact h.ab _ e h2
    · have := (h.ob.lt _ h2).2
      omega
  · simp only [Value.ownBlock, Option.some.injEq] at h1
    subst h1
    rcases hb with e | e
    · exact h.ac _ e h2
    · have := (h.oc.lt _ h2).2
      omega
theorem r3_nil (w : World) : R3 w w 0 0 0 [] [] [] (.slice none 0 0) (.slice none 0 0) (.slice none 0 0) :=
  ⟨World.ownsRow_nil _ _ _ _, World.ownsRow_nil _ _ _ _, World.ownsRow_nil _ _ _ _, fun k h => by simp [Value.ownBlock] at h, fun k h => by simp [Value.ownBlock] at h, fun k h => by simp [Value.ownBlock] at h, Ext.refl _⟩
theorem map_snoc {ls : List Vc} {k : Nat} {v : Vc} (f : Vc → Int) (hv : ls[k]? = some v) : (ls.take (k + 1)).map f = (ls.take k).map f ++ [f v] := by rw [take_snoc hv]; simp
theorem push_shortL {n : Nat} {ls : List Vc} {x : Vc} (h : ls.length < n) : pushL n ls x = ls ++ [x] := by unfold pushL; rw [if_pos h]
theorem push_fullL {n : Nat} {ls : List Vc} {x : Vc} (h : ¬ ls.length < n) (h0 : 0 < ls.length) : pushL n ls x = (ls ++ [x]).drop 1 := by
  unfold pushL; rw [if_neg h]
  cases ls with
  | nil => simp at h0
  | cons a t => simp
theorem VL.slice {w : World} {g cc d : Nat} {ls : List Vc} (h : VL w (some ⟨g, 0, none⟩) ls) (hc : ls.length ≤ cc) : VL w (if cc = d then some ⟨g, 0, none⟩ else some ⟨g, d * 3, none⟩) (ls.drop d) := by
  have := h.cut (d := d) hc
  intro i x hi
  obtain ⟨b, off, e, c3⟩ := this i x hi
  refine ⟨b, off, ?_, c3⟩
  rw [← e]
  split <;> simp [Addr.add]
end Go.Proofs.Ytfooakbcgjebfaa
