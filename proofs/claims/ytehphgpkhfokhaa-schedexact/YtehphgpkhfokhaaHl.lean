/- Wheels of timers: a heap, and the list in order that it stands for. -/
import Derived.Test.YtehphgpkhfokhaaHp
namespace Go.Proofs.Ytehphgpkhfokhaa
def gt (xs : List Tm) : Nat → Tm := fun k => xs.getD k (0, 0, 0)
theorem gt_some {xs : List Tm} {k : Nat} {x : Tm} (h : xs[k]? = some x) : gt xs k = x := by simp [gt, h]
theorem gt_at {xs : List Tm} {k : Nat} (h : k < xs.length) : xs[k]? = some (gt xs k) := by simp [gt, h]
/-- two of a list changed places -/
def swl (xs : List Tm) (i j : Nat) : List Tm := (xs.set i (gt xs j)).set j (gt xs i)
theorem swl_len (xs : List Tm) (i j : Nat) : (swl xs i j).length = xs.length := by simp [swl]
theorem swl_gt {xs : List Tm} {i j : Nat} (hi : i < xs.length) (hj : j < xs.length) : gt (swl xs i j) = sw (gt xs) i j := by
  funext k
  simp only [gt, swl, sw, List.getD_eq_getElem?_getD, List.getElem?_set, List.length_set]
  by_cases e : k = j
  · subst e
    by_cases e2 : k = i
    · subst e2; simp [hj]
    · simp [hj, e2]
  · by_cases e2 : k = i
    · subst e2; simp [hi, Ne.symm e]
    · simp [e, e2, Ne.symm e, Ne.symm e2]
theorem swl_perm {xs : List Tm} {i j : Nat} (hi : i < xs.length) (hj : j < xs.length) : (swl xs i j).Perm xs := by
  have h := (Array.swap_perm (xs := xs.toArray) (i := i) (j := j) (by simpa using hi) (by simpa using hj))
  have h2 := Array.perm_iff_toList_perm.1 h
  rw [Array.toList_swap] at h2
  have e1 : xs.toArray[j]'(by simpa using hj) = gt xs j := by simp [gt, hj]
  have e2 : xs.toArray[i]'(by simpa using hi) = gt xs i := by simp [gt, hi]
  rw [e1, e2] at h2
  exact h2
/-- the last one put at place i -/
def dl (xs : List Tm) (i : Nat) : List Tm := (xs.set i (gt xs (xs.length - 1))).take (xs.length - 1)
theorem dl_len (xs : List Tm) (i : Nat) : (dl xs i).length = xs.length - 1 := by simp [dl]
theorem set_perm {ys : List Tm} {i : Nat} (hi : i < ys.length) (z : Tm) : (z :: ys).Perm (gt ys i :: ys.set i z) := by
  have e1 : ys = ys.take i ++ gt ys i :: ys.drop (i + 1) := by
    have h := List.set_eq_take_append_cons_drop (l := ys) (i := i) (a := gt ys i)
    rw [if_pos hi] at h
    rw [← h]
    have := gt_at hi
    apply List.ext_getElem?
    intro k
    rw [List.getElem?_set]
    split
    · rename_i e; subst e; simpa [hi] using this
    · rfl
  have e2 := List.set_eq_take_append_cons_drop (l := ys) (i := i) (a := z)
  rw [if_pos hi] at e2
  rw [e2]
  have h3 : (z :: ys).Perm (z :: gt ys i :: (ys.take i ++ ys.drop (i + 1))) := by
    refine List.Perm.cons z ?_
    have := List.perm_middle (a := gt ys i) (l₁ := ys.take i) (l₂ := ys.drop (i + 1))
    rw [← e1] at this
    exact this
  refine h3.trans ((List.Perm.swap _ _ _).trans (List.Perm.cons _ ?_))
  exact (List.perm_middle (a := z) (l₁ := ys.take i) (l₂ := ys.drop (i + 1))).symm
theorem dl_perm {xs : List Tm} {i : Nat} (hi : i < xs.length) : xs.Perm (gt xs i :: dl xs i) := by
  have hne : xs ≠ [] := by intro e; subst e; simp at hi
  have ex := (List.dropLast_concat_getLast hne).symm
  obtain ⟨ys, z, hxs⟩ : ∃ ys z, xs = ys ++ [z] := ⟨_, _, ex⟩
  subst hxs
  have hl : gt (ys ++ [z]) ((ys ++ [z]).length - 1) = z := by simp [gt]
  unfold dl
  rw [hl]
  simp only [List.length_append, List.length_cons, List.length_nil, Nat.add_sub_cancel] at hi ⊢
  by_cases e : i < ys.length
  · have e1 : gt (ys ++ [z]) i = gt ys i := by simp [gt, List.getElem?_append_left e]
    rw [e1, List.set_append_left _ _ e, List.take_append_of_le_length (by simp), List.take_of_length_le (by simp)]
    exact (List.perm_append_singleton z ys).trans (set_perm e z)
  · have e0 : i = ys.length := by omega
    subst e0
    have e1 : gt (ys ++ [z]) ys.length = z := by simp [gt]
    rw [e1, List.set_append_right _ _ (by omega), List.take_append_of_le_length (by simp), List.take_of_length_le (by simp)]
    exact List.perm_append_singleton z ys
theorem dl_gt {xs : List Tm} {i : Nat} (hi : i < xs.length) {k : Nat} (hk : k < xs.length - 1) : gt (dl xs i) k = if k = i then gt xs (xs.length - 1) else gt xs k := by
  have : (dl xs i)[k]? = (xs.set i (gt xs (xs.length - 1)))[k]? := by unfold dl; rw [List.getElem?_take]; simp [hk]
  simp only [gt, List.getD_eq_getElem?_getD] at *
  rw [this, List.getElem?_set]
  by_cases e : k = i
  · subst e; simp [hi]
  · simp [e, Ne.symm e]
theorem hole_congr {f g : Nat → Tm} {n i : Nat} (h : Hole f n i) (e : ∀ k, k < n → g k = f k) : Hole g n i := by
  refine ⟨fun j hj a b hjn hp => ?_, fun hi c hc hp hcn hq => ?_⟩
  · rw [e _ hjn, e _ hp]; exact h.1 j hj a b hjn hp
  · rw [e _ hcn, e _ hq]; exact h.2 hi c hc hp hcn hq
theorem heap_congr {f g : Nat → Tm} {n : Nat} (h : Heap f n) (e : ∀ k, k < n → g k = f k) : Heap g n := fun j hj hjn hp => by
  rw [e _ hjn, e _ hp]; exact h j hj hjn hp
theorem dl_hole {xs : List Tm} {i : Nat} (h : Heap (gt xs) xs.length) (hi : i < xs.length - 1) : Hole (gt (dl xs i)) (dl xs i).length i := by
  rw [dl_len]
  refine hole_congr (heap_hole h (gt xs (xs.length - 1)) (Nat.sub_le _ _)) (fun k hk => ?_)
  rw [dl_gt (by omega) hk]
theorem dl_heap {xs : List Tm} {i : Nat} (h : Heap (gt xs) xs.length) (hi : i < xs.length) (he : ¬ i < xs.length - 1) : Heap (gt (dl xs i)) (dl xs i).length := by
  rw [dl_len]
  refine heap_congr (heap_less h (Nat.sub_le _ 1)) (fun k hk => ?_)
  rw [dl_gt hi hk, if_neg (by omega)]
theorem push_hole {xs : List Tm} (h : Heap (gt xs) xs.length) (x : Tm) : Hole (gt (xs ++ [x])) (xs ++ [x]).length xs.length := by
  rw [List.length_append, List.length_singleton]
  exact heap_push h (fun k hk => by simp [gt, List.getElem?_append_left hk])
/-- The heap xs holds the timers of S, which stand in order; T turns were counted. -/
def Hw (xs S : List Tm) (T : Int) : Prop :=
  Heap (gt xs) xs.length ∧ xs.Perm S ∧ S.Pairwise lt ∧ (S.map (·.1)).Nodup ∧ (0 ≤ T ∧ (S.length : Int) ≤ T) ∧ ∀ t ∈ S, (0 ≤ t.1 ∧ t.1 < 64) ∧ (0 ≤ t.2.1 ∧ t.2.1 ≤ 1099511627776) ∧ (0 ≤ t.2.2 ∧ t.2.2 ≤ T)
theorem hw_nil : Hw [] [] 0 := ⟨fun j hj h => by simp at h, List.Perm.refl _, List.Pairwise.nil, List.nodup_nil, by simp, fun t ht => by simp at ht⟩
theorem Hw.len {xs S : List Tm} {T : Int} (h : Hw xs S T) : xs.length = S.length := h.2.1.length_eq
theorem Hw.of_mem {xs S : List Tm} {T : Int} (h : Hw xs S T) {k : Nat} (hk : k < xs.length) : gt xs k ∈ S := by
  have := gt_at hk
  exact h.2.1.mem_iff.1 (List.mem_of_getElem? this)
theorem Hw.head {xs S : List Tm} {s : Tm} {T : Int} (h : Hw xs (s :: S) T) : 0 < xs.length ∧ gt xs 0 = s := by
  obtain ⟨h1, h2, h3, _⟩ := h
  have hl := h2.length_eq
  have hpos : 0 < xs.length := by rw [hl]; simp
  refine ⟨hpos, ?_⟩
  have hm : gt xs 0 ∈ s :: S := h2.mem_iff.1 (List.mem_of_getElem? (gt_at hpos))
  rcases List.mem_cons.1 hm with e | e
  · exact e
  · have hlt := (List.pairwise_cons.1 h3).1 _ e
    have hs : s ∈ xs := h2.mem_iff.2 List.mem_cons_self
    obtain ⟨k, hk, hk2⟩ := List.getElem_of_mem hs
    have := heap_min h1 k hk
    rw [gt_some (x := s) (by rw [List.getElem?_eq_getElem hk, hk2])] at this
    exact absurd hlt this
/-- what stands behind a drop: any heap of the rest -/
theorem Hw.drop {xs S ys : List Tm} {i : Nat} {T : Int} (h : Hw xs S T) (hi : i < xs.length) (hy : Heap (gt ys) ys.length) (hp : ys.Perm (dl xs i)) : Hw ys (S.filter (fun t => t.1 ≠ (gt xs i).1)) T := by
  obtain ⟨h1, h2, h3, h4, h5, h6⟩ := h
  have hxs : xs.Perm (gt xs i :: ys) := (dl_perm hi).trans (List.Perm.cons _ hp.symm)
  have hnd : ((gt xs i :: ys).map (·.1)).Nodup := ((h2.symm.trans hxs).map (·.1)).nodup_iff.1 h4
  have hys : (gt xs i :: ys).filter (fun t => t.1 ≠ (gt xs i).1) = ys := by
    rw [List.filter_cons]
    simp only [ne_eq, not_true_eq_false, decide_false, if_false, Bool.false_eq_true]
    rw [List.filter_eq_self]
    intro t ht
    rw [List.map_cons, List.nodup_cons] at hnd
    have : t.1 ∈ ys.map (·.1) := List.mem_map_of_mem ht
    simp only [decide_eq_true_eq]
    intro e
    rw [e] at this
    exact hnd.1 this
  refine ⟨hy, ?_, h3.sublist List.filter_sublist, h4.sublist (List.Sublist.map _ List.filter_sublist), ⟨h5.1, by have := List.length_filter_le (fun t => decide (t.1 ≠ (gt xs i).1)) S; omega⟩, fun t ht => h6 t (List.mem_filter.1 ht).1⟩
  have := (h2.symm.trans hxs).filter (fun t => t.1 ≠ (gt xs i).1)
  rw [hys] at this
  exact this.symm
theorem Hw.drop0 {xs S ys : List Tm} {s : Tm} {T : Int} (h : Hw xs (s :: S) T) (hy : Heap (gt ys) ys.length) (hp : ys.Perm (dl xs 0)) : Hw ys S T := by
  obtain ⟨hpos, hs⟩ := h.head
  have hd := h.drop hpos hy hp
  rw [hs] at hd
  have h4 := h.2.2.2.1
  rw [List.map_cons, List.nodup_cons] at h4
  rw [List.filter_cons] at hd
  simp only [ne_eq, not_true_eq_false, decide_false, if_false, Bool.false_eq_true] at hd
  rw [List.filter_eq_self.2] at hd
  · exact hd
  · intro t ht
    simp only [decide_eq_true_eq]
    intro e
    exact h4.1 (e ▸ List.mem_map_of_mem ht)
/-- none of that number: nothing changes -/
theorem filter_none {S : List Tm} {id : Int} (h : ∀ t ∈ S, t.1 ≠ id) : S.filter (fun t => t.1 ≠ id) = S := by
  rw [List.filter_eq_self]; intro t ht; simpa using h t ht
/-- one more, in its place -/
def ins (x : Tm) (S : List Tm) : List Tm := S.takeWhile (fun t => t.2.1 ≤ x.2.1) ++ x :: S.dropWhile (fun t => t.2.1 ≤ x.2.1)
theorem mem_take {S : List Tm} {p : Tm → Bool} : ∀ t ∈ S.takeWhile p, p t = true := by
  induction S with
  | nil => simp
  | cons s S ih =>
    rw [List.takeWhile_cons]
    split
    · rename_i hp
      intro t ht
      rcases List.mem_cons.1 ht with rfl | ht
      · exact hp
      · exact ih t ht
    · simp
theorem mem_drop {S : List Tm} {x : Int} (h : S.Pairwise lt) : ∀ t ∈ S.dropWhile (fun t => decide (t.2.1 ≤ x)), x < t.2.1 := by
  induction S with
  | nil => simp
  | cons s S ih =>
    rw [List.dropWhile_cons]
    have h' := List.pairwise_cons.1 h
    split
    · exact ih h'.2
    · rename_i hp
      have hp : x < s.2.1 := by simpa using hp
      intro t ht
      rcases List.mem_cons.1 ht with rfl | ht
      · exact hp
      · have := h'.1 t ht
        simp only [lt_def] at this
        omega
theorem ins_perm (x : Tm) (S : List Tm) : (ins x S).Perm (x :: S) := by
  unfold ins
  refine List.perm_middle.trans ?_
  rw [List.takeWhile_append_dropWhile]
theorem Hw.ins {xs S ys : List Tm} {id at_ T : Int} (h : Hw xs S T) (hid : ∀ t ∈ S, t.1 ≠ id) (h1 : 0 ≤ id ∧ id < 64) (h2 : 0 ≤ at_ ∧ at_ ≤ 1099511627776) (hy : Heap (gt ys) ys.length) (hp : ys.Perm (xs ++ [(id, at_, T + 1)])) : Hw ys (ins (id, at_, T + 1) S) (T + 1) := by
  obtain ⟨g1, g2, g3, g4, g5, g6⟩ := h
  have hP : (Go.Proofs.Ytehphgpkhfokhaa.ins (id, at_, T + 1) S).Perm ((id, at_, T + 1) :: S) := ins_perm _ _
  refine ⟨hy, ?_, ?_, ?_, by have := hP.length_eq; simp only [List.length_cons] at this; omega, ?_⟩
  · exact hp.trans ((List.perm_append_singleton _ _).trans ((List.Perm.cons _ g2).trans hP.symm))
  · unfold Go.Proofs.Ytehphgpkhfokhaa.ins
    rw [List.pairwise_append]
    refine ⟨g3.sublist (List.takeWhile_sublist _), ?_, ?_⟩
    · rw [List.pairwise_cons]
      refine ⟨fun t ht => ?_, g3.sublist (List.dropWhile_sublist _)⟩
      exact .inl (mem_drop g3 t ht)
    · intro a ha b hb
      have ha2 := mem_take a ha
      have haS := g6 a ((List.takeWhile_sublist _).subset ha)
      simp only [decide_eq_true_eq] at ha2
      rcases List.mem_cons.1 hb with rfl | hb
      · simp only [lt_def]; omega
      · have := mem_drop g3 b hb
        simp only [lt_def]; simp only at this ha2; omega
  · refine (hP.map (·.1)).nodup_iff.2 ?_
    rw [List.map_cons, List.nodup_cons]
    refine ⟨fun hm => ?_, g4⟩
    obtain ⟨t, ht, e⟩ := List.mem_map.1 hm
    exact hid t ht e
  · intro t ht
    rcases List.mem_cons.1 (hP.mem_iff.1 ht) with rfl | ht
    · simp only; omega
    · have := g6 t ht; omega
/-- what is taken, and what is left -/
def due (now : Int) (S : List Tm) : List Tm := S.takeWhile (fun t => t.2.1 ≤ now)
def left (now : Int) (S : List Tm) : List Tm := S.dropWhile (fun t => t.2.1 ≤ now)
theorem due_left (now : Int) (S : List Tm) : due now S ++ left now S = S := List.takeWhile_append_dropWhile
end Go.Proofs.Ytehphgpkhfokhaa
