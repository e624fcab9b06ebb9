/- SchedTurns: what its runs and ticks come to. -/
import Derived.Test.YtehphgpkhfokhaaUa
namespace Go.Proofs.Ytehphgpkhfokhaa
open Go.RowKit Go.Conc
theorem range_cut {n i : Nat} (hi : i < n) : List.range n = List.range' 0 i ++ (i :: List.range' (i + 1) (n - (i + 1))) := by
  rw [List.range_eq_range', show n = i + (n - (i + 1) + 1) by omega, ← List.range'_append_1, List.range'_succ]
  simp; omega
theorem ups_congr {A B : List Bool} {n : Nat} (h : ∀ j, j < n → up A j = up B j) : ups A n = ups B n := by
  unfold ups
  congr 1
  apply List.filter_congr
  intro j hj
  exact h j (List.mem_range.1 hj)
theorem ups_zero {A : List Bool} {n : Nat} (h : ∀ j, j < n → up A j = false) : ups A n = [] := by
  unfold ups
  rw [List.filter_eq_nil_iff.2]
  · rfl
  · intro j hj
    rw [h j (List.mem_range.1 hj)]; simp
theorem ups_first {A : List Bool} {i : Nat} (h : lo A = some i) : ups A A.length = (i : Int) :: ups (A.set i false) A.length := by
  obtain ⟨hi, hu, hl⟩ := lo_some h
  unfold ups
  rw [range_cut hi, List.filter_append, List.filter_append, List.filter_cons_of_pos (by simpa using hu), List.filter_cons_of_neg (by rw [up_set hi]; simp)]
  have e1 : List.filter (fun j => up A j) (List.range' 0 i) = [] := by
    rw [List.filter_eq_nil_iff]
    intro j hj
    have : j < i := by simpa using (List.mem_range'_1.1 hj).2
    rw [hl j this]; simp
  have e2 : List.filter (fun j => up (A.set i false) j) (List.range' 0 i) = [] := by
    rw [List.filter_eq_nil_iff]
    intro j hj
    have : j < i := by simpa using (List.mem_range'_1.1 hj).2
    rw [up_set hi, if_neg (by omega), hl j this]; simp
  have e3 : List.filter (fun j => up (A.set i false) j) (List.range' (i + 1) (A.length - (i + 1))) = List.filter (fun j => up A j) (List.range' (i + 1) (A.length - (i + 1))) := by
    apply List.filter_congr
    intro j hj
    have := (List.mem_range'_1.1 hj).1
    rw [up_set hi, if_neg (by omega)]
  rw [e1, e2, e3]
  rfl
theorem mem_ups {A : List Bool} {n : Nat} {x : Int} : x ∈ ups A n ↔ ∃ j : Nat, j < n ∧ up A j = true ∧ (j : Int) = x := by
  unfold ups
  simp only [List.mem_map, List.mem_filter, List.mem_range]
  constructor
  · rintro ⟨j, ⟨h1, h2⟩, h3⟩; exact ⟨j, h1, h2, h3⟩
  · rintro ⟨j, h1, h2, h3⟩; exact ⟨j, ⟨h1, h2⟩, h3⟩
theorem ups_rise (A : List Bool) (n : Nat) : (ups A n).Pairwise (· < ·) := by
  unfold ups
  rw [List.pairwise_map]
  exact (List.pairwise_lt_range.filter _).imp (fun h => by omega)
theorem up_wk {A : List Bool} {j : Nat} (hj : j < A.length) (x : Int) : up (wk A x) j = (up A j || decide ((j : Int) = x)) := by
  unfold wk
  by_cases h : 0 ≤ x ∧ x < A.length
  · rw [if_pos h, up_set (by omega)]
    by_cases e : (j : Int) = x
    · have : j = x.toNat := by omega
      rw [if_pos this, decide_eq_true e]; simp
    · have : ¬ j = x.toNat := by omega
      rw [if_neg this, decide_eq_false e]; simp
  · rw [if_neg h, decide_eq_false (by omega)]; simp
theorem up_wkAll {j : Nat} : ∀ (l : List Int) (A : List Bool), j < A.length → up (wkAll A l) j = (up A j || decide ((j : Int) ∈ l))
  | [], A, hj => by simp [wkAll]
  | x :: l, A, hj => by
    show up (wkAll (wk A x) l) j = _
    rw [up_wkAll l (wk A x) (by rw [wk_len]; exact hj), up_wk hj]
    rw [Bool.or_assoc]
    congr 1
    by_cases e : (j : Int) = x <;> by_cases m : (j : Int) ∈ l <;> simp [e, m]
theorem tw_all {p : Tm → Bool} : ∀ {S : List Tm}, (∀ t ∈ S, p t = true) → S.takeWhile p = S ∧ S.dropWhile p = []
  | [], _ => ⟨rfl, rfl⟩
  | t :: S, h => by
    have h1 := h t List.mem_cons_self
    obtain ⟨i1, i2⟩ := tw_all (S := S) (fun u hu => h u (List.mem_cons_of_mem _ hu))
    rw [List.takeWhile_cons, List.dropWhile_cons, h1]
    simp only [if_true, i1, i2]
    exact ⟨trivial, trivial⟩
/-- the function that tells nothing but 7 -/
abbrev told7 : Told := fun _ _ => ([], 7)
theorem ins_last {S : List Tm} {x : Tm} (h : ∀ t ∈ S, t.2.1 ≤ x.2.1) : ins x S = S ++ [x] := by
  unfold ins
  obtain ⟨e1, e2⟩ := tw_all (p := fun t => decide (t.2.1 ≤ x.2.1)) (S := S) (fun t ht => by simpa using h t ht)
  rw [e1, e2]
theorem step7 {s : St} {i k : Nat} (hn : s.now = 0) (h7 : ∀ t ∈ s.S, t.2.1 = 7) : stepR told7 k i s = ⟨s.A.set i false, s.S.filter (fun t => t.1 ≠ (i : Int)) ++ [((i : Int), 7, s.T + 1)], s.T + 1, 0⟩ := by
  unfold stepR heeded
  simp only [hn]
  rw [if_pos (by omega), ins_last]
  · simp [wkAll]
  · intro t ht
    have := h7 t (List.mem_filter.1 ht).1
    simp only; omega
theorem runs7 : ∀ (m k : Nat) (s : St), s.now = 0 → (∀ t ∈ s.S, t.2.1 = 7) → (ups s.A s.A.length).length ≤ m →
    (runs told7 m k s).1 = ups s.A s.A.length ∧ (runs told7 m k s).2.1.now = 0 ∧ (∀ t ∈ (runs told7 m k s).2.1.S, t.2.1 = 7) ∧ (∀ j, j < s.A.length → up (runs told7 m k s).2.1.A j = false) ∧ ∀ x : Int, x ∈ ids (runs told7 m k s).2.1.S ↔ x ∈ ids s.S ∨ x ∈ ups s.A s.A.length := by
  intro m
  induction m with
  | zero =>
    intro k s hn h7 hm
    have e : ups s.A s.A.length = [] := List.length_eq_zero_iff.1 (by omega)
    refine ⟨e.symm, hn, h7, fun j hj => ?_, fun x => ?_⟩
    · cases hu : up s.A j with
      | false => exact hu
      | true =>
        have : (j : Int) ∈ ups s.A s.A.length := mem_ups.2 ⟨j, hj, hu, rfl⟩
        rw [e] at this; cases this
    · rw [e]; simp [runs]
  | succ m ih =>
    intro k s hn h7 hm
    cases h : lo s.A with
    | none =>
      have e := ups_zero (lo_none h)
      rw [runs_none h]
      exact ⟨e.symm, hn, h7, lo_none h, fun x => by rw [e]; simp⟩
    | some i =>
      obtain ⟨hi, hu, hl⟩ := lo_some h
      rw [runs_some h]
      have hst := step7 (i := i) (k := k) hn h7
      have e := ups_first h
      have hm2 : (ups (s.A.set i false) s.A.length).length ≤ m := by rw [e] at hm; simp at hm; omega
      have hs7 : ∀ t ∈ s.S.filter (fun t => t.1 ≠ (i : Int)) ++ [((i : Int), (7 : Int), s.T + 1)], t.2.1 = 7 := by
        intro t ht
        rcases List.mem_append.1 ht with z | z
        · exact h7 t (List.mem_filter.1 z).1
        · rw [List.mem_singleton.1 z]
      have := ih (k + 1) (stepR told7 k i s) (by rw [hst]) (by rw [hst]; exact hs7) (by rw [hst]; simpa using hm2)
      obtain ⟨q1, q2, q3, q4, q5⟩ := this
      have eA : (stepR told7 k i s).A = s.A.set i false := by rw [hst]
      have eS : (stepR told7 k i s).S = s.S.filter (fun t => t.1 ≠ (i : Int)) ++ [((i : Int), (7 : Int), s.T + 1)] := by rw [hst]
      have eL : (stepR told7 k i s).A.length = s.A.length := by rw [eA]; simp
      rw [eL] at q1 q4 q5
      rw [eA] at q1 q5
      rw [eS] at q5
      refine ⟨?_, q2, q3, q4, fun x => ?_⟩
      · rw [e, q1]
      · rw [q5 x, e]
        unfold ids
        simp only [List.mem_map, List.mem_append, List.mem_filter, List.mem_cons, List.not_mem_nil, or_false]
        constructor
        · rintro (⟨t, ⟨z, _⟩ | z, rfl⟩ | z)
          · exact .inl ⟨t, z, rfl⟩
          · rw [z]; exact .inr (.inl rfl)
          · exact .inr (.inr z)
        · rintro (⟨t, z, rfl⟩ | z | z)
          · by_cases e : t.1 = (i : Int)
            · exact .inl ⟨_, .inr rfl, e.symm⟩
            · exact .inl ⟨t, .inl ⟨z, by simpa using e⟩, rfl⟩
          · exact .inl ⟨_, .inr rfl, z.symm⟩
          · exact .inr z
/-- the function that tells its own task -/
abbrev toldI : Told := fun _ i => ([(i : Int)], 0)
theorem stepI {s : St} {k : Nat} (h0 : 0 < s.A.length) (hu : up s.A 0 = true) : stepR toldI k 0 s = s := by
  unfold stepR heeded
  rw [if_neg (by simp)]
  simp only [wkAll, List.foldl_cons, List.foldl_nil]
  have : wk (s.A.set 0 false) ((0 : Nat) : Int) = s.A := by
    unfold wk
    rw [if_pos (by simpa using h0)]
    show (s.A.set 0 false).set 0 true = s.A
    rw [List.set_set]
    exact set_same h0 hu
  rw [this]
theorem lo_zero {A : List Bool} (h0 : 0 < A.length) (hu : up A 0 = true) : lo A = some 0 := by
  unfold lo
  rw [show A.length = (A.length - 1) + 1 by omega]
  unfold loFrom
  rw [hu]; rfl
theorem runsI (s : St) (h0 : 0 < s.A.length) (hu : up s.A 0 = true) : ∀ (m k : Nat), runs toldI m k s = (List.replicate m 0, s, k + m)
  | 0, k => rfl
  | m + 1, k => by
    rw [runs_some (lo_zero h0 hu), stepI h0 hu, runsI s h0 hu m (k + 1)]
    simp only [List.replicate_succ]
    congr 2
    omega
theorem due_all {S : List Tm} {x : Int} (h : ∀ t ∈ S, t.2.1 ≤ x) : due x S = S := (tw_all (p := fun t => decide (t.2.1 ≤ x)) (fun t ht => by simpa using h t ht)).1
theorem due_no {S : List Tm} {x : Int} (h : ∀ t ∈ S, x < t.2.1) : due x S = [] ∧ left x S = S := by
  cases S with
  | nil => exact ⟨rfl, rfl⟩
  | cons t S =>
    have := h t List.mem_cons_self
    have hn : ¬ t.2.1 ≤ x := by omega
    unfold due left
    simp [hn]
/-- six ticks, then one more -/
theorem ticks7 {s0 s : St} (hn : s.now = 0) (h7 : ∀ t ∈ s.S, t.2.1 = 7) (hl : s.A.length = s0.A.length) (hz : ∀ j, j < s0.A.length → up s.A j = false) (hi : ∀ x : Int, x ∈ ids s.S ↔ x ∈ ups s0.A s0.A.length) :
    ticked s 6 = { s with now := 6 } ∧ (ticked { s with now := 6 } 1).A.length = s0.A.length ∧ ups (ticked { s with now := 6 } 1).A s0.A.length = ups s0.A s0.A.length := by
  obtain ⟨d1, d2⟩ := due_no (S := s.S) (x := 6) (fun t ht => by have := h7 t ht; omega)
  have d3 := due_all (S := s.S) (x := 7) (fun t ht => by have := h7 t ht; omega)
  refine ⟨?_, ?_, ?_⟩
  · unfold ticked
    rw [hn]
    simp [d1, d2, ids, wkAll]
  · unfold ticked
    simp [wkAll_len, hl]
  · refine ups_congr (fun j hj => ?_)
    unfold ticked
    simp only [show (6 : Int) + 1 = 7 from rfl, d3]
    rw [up_wkAll _ _ (by omega), hz j hj, Bool.false_or]
    cases hu : up s0.A j with
    | true => exact decide_eq_true ((hi j).2 (mem_ups.2 ⟨j, hj, hu, rfl⟩))
    | false =>
      refine decide_eq_false (fun z => ?_)
      obtain ⟨j', _, h2, h3⟩ := mem_ups.1 ((hi j).1 z)
      have : j' = j := by omega
      rw [this, hu] at h2; cases h2
end Go.Proofs.Ytehphgpkhfokhaa
