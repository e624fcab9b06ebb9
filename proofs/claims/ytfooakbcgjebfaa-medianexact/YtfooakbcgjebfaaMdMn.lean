/- MedianMiddle: its numbers. -/
import Derived.Test.YtfooakbcgjebfaaMdq
import Derived.Test.YtfooakbcgjebfaaMdO
namespace Go.Proofs.Ytfooakbcgjebfaa
open Go.RowKit Go.Conc Go.Shelf Go.Lib
theorem cnt_lt {m : Int} : ∀ {s : List Int} {i : Nat}, s.Pairwise (fun a b => a ≤ b) → s[i]? = some m → s.countP (fun a => decide (a < m)) ≤ i
  | [], i, _, h => by simp at h
  | a :: t, 0, hs, h => by
    simp only [List.getElem?_cons_zero, Option.some.injEq] at h
    subst h
    have h1 : (a :: t).countP (fun b => decide (b < a)) = 0 := by
      rw [List.countP_eq_zero]
      intro b hb
      rcases List.mem_cons.1 hb with rfl | hb
      · simp
      · have := (List.pairwise_cons.1 hs).1 b hb
        simp only [decide_eq_true_eq]
        omega
    omega
  | a :: t, i + 1, hs, h => by
    have ih := cnt_lt (List.pairwise_cons.1 hs).2 (by simpa using h : t[i]? = some m)
    rw [List.countP_cons]
    split <;> omega
theorem cnt_gt {m : Int} : ∀ {s : List Int} {i : Nat}, s.Pairwise (fun a b => a ≤ b) → s[i]? = some m → s.countP (fun a => decide (m < a)) + i + 1 ≤ s.length
  | [], i, _, h => by simp at h
  | a :: t, 0, hs, h => by
    simp only [List.getElem?_cons_zero, Option.some.injEq] at h
    subst h
    rw [List.countP_cons, if_neg (by simp)]
    have := List.countP_le_length (p := fun b => decide (a < b)) (l := t)
    simp only [List.length_cons]
    omega
  | a :: t, i + 1, hs, h => by
    have h' : t[i]? = some m := by simpa using h
    have ih := cnt_gt (List.pairwise_cons.1 hs).2 h'
    have ha := (List.pairwise_cons.1 hs).1 m (List.mem_of_getElem? h')
    rw [List.countP_cons, if_neg (by simp only [decide_eq_true_eq]; omega)]
    simp only [List.length_cons]
    omega
theorem med_at {l : List Int} (h : 0 < l.length) : (l.mergeSort leI)[(l.length - 1) / 2]? = some (med l) := by
  have hl : (l.mergeSort leI).length = l.length := (List.mergeSort_perm l leI).length_eq
  unfold med
  rw [List.getElem?_eq_getElem (by omega)]
  rfl
theorem med_low {l : List Int} (h : 0 < l.length) : l.countP (fun a => decide (a < med l)) ≤ (l.length - 1) / 2 := by
  rw [← (List.mergeSort_perm l leI).countP_eq]
  exact cnt_lt ((List.pairwise_mergeSort leI_trans leI_total l).imp (fun h => by simpa [leI] using h)) (med_at h)
theorem med_high {l : List Int} (h : 0 < l.length) : l.countP (fun a => decide (med l < a)) + (l.length - 1) / 2 + 1 ≤ l.length := by
  have hl : (l.mergeSort leI).length = l.length := (List.mergeSort_perm l leI).length_eq
  rw [← (List.mergeSort_perm l leI).countP_eq]
  have := cnt_gt ((List.pairwise_mergeSort leI_trans leI_total l).imp (fun h => by simpa [leI] using h)) (med_at h)
  omega
theorem med_same {l : List Int} (h : 0 < l.length) : 0 < l.countP (fun a => decide (a = med l)) := by
  rw [List.countP_pos_iff]
  exact ⟨med l, (List.mergeSort_perm l leI).mem_iff.1 (List.mem_of_getElem? (med_at h)), by simp⟩
/-- how many of the first k are below, above, at the middle -/
def cLo (l : List Vc) (m : Int) (k : Nat) : Nat := (l.take k).countP (fun v => decide (v.y < m))
def cHi (l : List Vc) (m : Int) (k : Nat) : Nat := (l.take k).countP (fun v => decide (m < v.y))
def cEq (l : List Vc) (m : Int) (k : Nat) : Nat := (l.take k).countP (fun v => decide (v.y = m))
theorem cnt_step {l : List Vc} {k : Nat} {v : Vc} {p : Vc → Bool} (h : l[k]? = some v) : (l.take (k + 1)).countP p = (l.take k).countP p + if p v = true then 1 else 0 := by
  rw [take_snoc h, List.countP_append, List.countP_singleton]
theorem c_le (l : List Vc) (p : Vc → Bool) (k : Nat) (h : l.length ≤ 7) : (l.take k).countP p ≤ 7 := by
  have h1 := List.countP_le_length (p := p) (l := l.take k)
  have h2 := List.length_take_le' k l
  omega
theorem cnt_ends {l : List Vc} {m : Vc} (hm : medv l = m) (h : 0 < l.length) : cLo l m.y l.length ≤ (l.length - 1) / 2 ∧ cHi l m.y l.length + (l.length - 1) / 2 + 1 ≤ l.length ∧ 0 < cEq l m.y l.length := by
  subst hm
  have hl : 0 < (l.map fun v => v.y).length := by simpa using h
  have h1 := med_low hl
  have h2 := med_high hl
  have h3 := med_same hl
  simp only [List.countP_map, List.length_map] at h1 h2 h3
  unfold cLo cHi cEq medv
  rw [List.take_length]
  exact ⟨h1, h2, h3⟩
theorem medv_perm {l s : List Vc} (hp : s.Perm l) : medv s = medv l := by
  unfold medv
  rw [med_perm (hp.map _), med_perm (hp.map _), med_perm (hp.map _)]
/-- the others, backwards, and the first one behind -/
theorem back_all {l : List Vc} {v : Vc} (h : l[0]? = some v) : l.reverse.take (l.length - 1) ++ [v] = l.reverse := by
  cases l with
  | nil => simp at h
  | cons a t =>
    simp only [List.getElem?_cons_zero, Option.some.injEq] at h
    subst h
    simp [List.reverse_cons]
theorem back_step {l : List Vc} {j : Nat} {v : Vc} (h : l[j]? = some v) (hj : j < l.length) : l.reverse.take (l.length - 1 - j + 1) = l.reverse.take (l.length - 1 - j) ++ [v] := by
  apply take_snoc
  rw [List.getElem?_reverse (by omega)]
  rw [show l.length - 1 - (l.length - 1 - j) = j by omega]
  exact h
theorem run_cut (la : Option Addr) (len lc : Nat) (d : Nat) (hd : d ≤ len) (w : World) : (Instr.sliceAt 23 (.slice la len lc) (some (.int .i64 (d : Int))) none none).run Try.prog w = .ok (.slice (if lc = d then la else la.map (·.add (d * 3))) (len - d) (lc - d)) w := by
  have hu := Try.underlying23
  have he : Try.prog.elem 23 = Erw := by kernel_rfl
  rw [run_sliceAt_slice _ _ _ _ _ _ (by rw [he]; exact hu), run_slice_l _ _ _ _ _ (by rw [he]; exact hu) _ _ (by omega) (by omega), he]
  simp [go_sem]
theorem VL.cut {w : World} {la : Option Addr} {lc d : Nat} {ls : List Vc} (h : VL w la ls) (hc : ls.length ≤ lc) : VL w (if lc = d then la else la.map (·.add (d * 3))) (ls.drop d) := by
  intro i x hi
  rw [List.getElem?_drop] at hi
  obtain ⟨b', off', e, c3⟩ := h (d + i) x hi
  subst e
  have := (List.getElem?_eq_some_iff.1 hi).1
  refine ⟨b', off' + d * 3, by rw [if_neg (by omega)]; simp [Addr.add], ?_⟩
  rw [show off' + d * 3 + i * 3 = off' + (d + i) * 3 by omega]
  exact c3
theorem VL.tn {own : Nat → Prop} {w w' : World} {g o : Nat} {ls : List Vc} (h : VL w (some ⟨g, o, none⟩) ls) (t : Tn own w w') (hg : ¬ own g) : VL w' (some ⟨g, o, none⟩) ls := fun i x hi => by
  obtain ⟨b, off, e, c0, c1, c2⟩ := h i x hi
  cases e
  exact ⟨g, o, rfl, t.keepc hg c0, t.keepc hg c1, t.keepc hg c2⟩
theorem put3_tn (w : World) (b o : Nat) (r : Vc) : Tn (fun k => k = b) w (put3 w b o r) := (((Tn.refl (fun k => k = b) w).set (.inl rfl) _ _).set (.inl rfl) _ _).set (.inl rfl) _ _
/-- what holds behind the first Take -/
def Mid (w : World) (V M g go : Nat) (la : Option Addr) (lc : Nat) (q : Ask) (m : Vc) (ms : List Vc) (w' : World) : Prop :=
  Ext w w' ∧ P5 w' V la lc q ∧ P3 w' M m ∧ VL w' (some ⟨g, go, none⟩) ms
theorem Mid.ext {w w' w2 : World} {V M g go : Nat} {la : Option Addr} {lc : Nat} {q : Ask} {m : Vc} {ms : List Vc} (h : Mid w V M g go la lc q m ms w') (x : Ext w' w2) : Mid w V M g go la lc q m ms w2 := ⟨h.1.trans x, h.2.1.ext x, h.2.2.1.ext x, h.2.2.2.ext x⟩
/-- the variable was made ahead of the call -/
theorem mid_a {w w1 w2 : World} {V g go : Nat} {la : Option Addr} {lc : Nat} {q : Ask} {m : Vc} {ms : List Vc} (X1 : Ext w w1) (p : P5 w1 V la lc q) (hv : VL w2 (some ⟨g, go, none⟩) ms) (hg : w1.heap.size + 1 ≤ g) (x2 : Ext (w1.alloc cells0) w2) : Mid w V w1.heap.size g go la lc q m ms (put3 w2 w1.heap.size 0 m) := by
  have x1 : Ext w1 (w1.alloc cells0) := (Ext.refl w1).alloc _
  have hV := p.lt
  refine ⟨(X1.trans (x1.trans x2)).put3 X1.size 0 m, (p.ext (x1.trans x2)).tn (put3_tn _ _ _ _) (by omega), ((p3_at (r := nought) rfl).ext x2).set m, hv.tn (put3_tn _ _ _ _) (by omega)⟩
/-- the variable is made behind the call -/
theorem mid_b {w w1 w2 : World} {V g go : Nat} {la : Option Addr} {lc : Nat} {q : Ask} {m : Vc} {ms : List Vc} (X1 : Ext w w1) (p : P5 w1 V la lc q) (hv : VL w2 (some ⟨g, go, none⟩) ms) (x2 : Ext w1 w2) : Mid w V w2.heap.size g go la lc q m ms (w2.alloc (cells3 m)) := by
  have x3 : Ext w2 (w2.alloc (cells3 m)) := (Ext.refl w2).alloc _
  exact ⟨(X1.trans x2).alloc _, p.ext (x2.trans x3), p3_at rfl, hv.ext x3⟩
theorem vl_own {w : World} {B i cc : Nat} {r : Option Addr} {ls : List Vc} (h : w.ownsRow B Erw 3 (.slice r i cc) i (vcs ls)) (hl : ls.length = i) : VL w r ls := by
  rcases h.2 with ⟨e1, e2⟩ | ⟨g, cap', cur, e1, _⟩
  · have : ls = [] := List.eq_nil_of_length_eq_zero (by omega)
    subst this
    exact VL.nil _ _
  · cases e1
    exact vl_row (fun j u hu => by rw [Nat.zero_add]; exact row_cells h j u hu)
/-- two variables that hold the same -/
def Twin (w : World) (M M2 : Nat) (m : Vc) (w' : World) : Prop := Ext w w' ∧ P3 w' M m ∧ P3 w' M2 m
theorem twin_a {w w1 w2 : World} {M : Nat} {m : Vc} (X1 : Ext w w1) (p : P3 w1 M m) (x2 : Ext (w1.alloc cells0) w2) : Twin w M w1.heap.size m (put3 w2 w1.heap.size 0 m) := by
  have x1 : Ext w1 (w1.alloc cells0) := (Ext.refl w1).alloc _
  have hM := p.lt
  exact ⟨(X1.trans (x1.trans x2)).put3 X1.size 0 m, (p.ext (x1.trans x2)).tn (put3_tn _ _ _ _) (by omega), ((p3_at (r := nought) rfl).ext x2).set m⟩
theorem twin_b {w w1 w2 : World} {M : Nat} {m : Vc} (X1 : Ext w w1) (p : P3 w1 M m) (x2 : Ext w1 w2) : Twin w M w2.heap.size m (w2.alloc (cells3 m)) :=
  ⟨(X1.trans x2).alloc _, (p.ext x2).alloc _, p3_at rfl⟩
end Go.Proofs.Ytfooakbcgjebfaa
