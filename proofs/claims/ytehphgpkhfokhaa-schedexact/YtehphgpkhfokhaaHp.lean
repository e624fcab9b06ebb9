/- Heaps of timers: plain lists. -/
namespace Go.Proofs.Ytehphgpkhfokhaa
/-- a timer: its number, its time, the turn at which it was set -/
abbrev Tm := Int × Int × Int
/-- a comes ahead of b -/
def lt (a b : Tm) : Prop := a.2.1 < b.2.1 ∨ (a.2.1 = b.2.1 ∧ a.2.2 < b.2.2)
theorem lt_def (a b : Tm) : lt a b ↔ (a.2.1 < b.2.1 ∨ (a.2.1 = b.2.1 ∧ a.2.2 < b.2.2)) := Iff.rfl
def dlt (a b : Tm) : Bool := decide (a.2.1 < b.2.1 ∨ (a.2.1 = b.2.1 ∧ a.2.2 < b.2.2))
theorem dlt_true {a b : Tm} (h : lt a b) : dlt a b = true := decide_eq_true h
theorem dlt_false {a b : Tm} (h : ¬ lt a b) : dlt a b = false := decide_eq_false h
theorem le_tr {a b c : Tm} (h1 : ¬ lt b a) (h2 : ¬ lt c b) : ¬ lt c a := by simp only [lt_def] at *; omega
theorem le_of_lt {a b : Tm} (h : lt a b) : ¬ lt b a := by simp only [lt_def] at *; omega
theorem lt_irr (a : Tm) : ¬ lt a a := by simp only [lt_def]; omega
def par (j : Nat) : Nat := (j - 1) / 2
/-- the thing at c is not ahead of the one at q -/
def Fine (f : Nat → Tm) (n q c : Nat) : Prop := c < n → q < n → ¬ lt (f c) (f q)
def Heap (f : Nat → Tm) (n : Nat) : Prop := ∀ j, 0 < j → Fine f n (par j) j
def Hole (f : Nat → Tm) (n i : Nat) : Prop := (∀ j, 0 < j → j ≠ i → par j ≠ i → Fine f n (par j) j) ∧ (0 < i → ∀ c, 0 < c → par c = i → Fine f n (par i) c)
def Down (f : Nat → Tm) (n i : Nat) : Prop := (∀ j, 0 < j → par j ≠ i → Fine f n (par j) j) ∧ (0 < i → ∀ c, 0 < c → par c = i → Fine f n (par i) c)
def Rise (f : Nat → Tm) (n i0 i : Nat) : Prop := Hole f n i ∧ (i = i0 ∨ ∀ c, 0 < c → par c = i → Fine f n i c)
/-- two changed places -/
def sw (f : Nat → Tm) (i j : Nat) : Nat → Tm := fun k => if k = i then f j else if k = j then f i else f k
theorem sw_l (f : Nat → Tm) (i j : Nat) : sw f i j i = f j := by simp [sw]
theorem sw_r (f : Nat → Tm) (i j : Nat) : sw f i j j = f i := by
  unfold sw
  by_cases h : j = i
  · subst h; simp
  · simp [h]
theorem sw_o (f : Nat → Tm) {i j k : Nat} (h1 : k ≠ i) (h2 : k ≠ j) : sw f i j k = f k := by simp [sw, h1, h2]
theorem par_lt {i : Nat} (h : 0 < i) : par i < i := by unfold par; omega
theorem par_child {c i : Nat} (hc : 0 < c) (h : par c = i) : c = 2 * i + 1 ∨ c = 2 * i + 2 := by unfold par at h; omega
theorem par_l (i : Nat) : par (2 * i + 1) = i := by unfold par; omega
theorem par_r (i : Nat) : par (2 * i + 2) = i := by unfold par; omega
theorem heap_down {f : Nat → Tm} {n : Nat} (h : Heap f n) (i : Nat) : Down f n i := by
  refine ⟨fun j hj _ => h j hj, fun hi c hc hp hcn hq => ?_⟩
  have hcl := par_lt hc
  have h1 := h c hc hcn (by omega)
  have h2 := h i hi (by omega) hq
  rw [hp] at h1
  exact le_tr h2 h1
theorem rise_start {f : Nat → Tm} {n i : Nat} (h : Hole f n i) : Rise f n i i := ⟨h, .inl rfl⟩
theorem rise_end {f : Nat → Tm} {n i0 i : Nat} (h : Rise f n i0 i) (he : i = 0 ∨ ¬ lt (f i) (f (par i))) : Down f n i0 := by
  obtain ⟨h, hc⟩ := h
  rcases hc with rfl | hc
  · refine ⟨fun j hj hp => ?_, h.2⟩
    by_cases e : j = i
    · subst e
      rcases he with he | he
      · omega
      · exact fun _ _ => he
    · exact h.1 j hj e hp
  · refine heap_down (fun j hj => ?_) i0
    by_cases e : j = i
    · subst e
      rcases he with he | he
      · omega
      · exact fun _ _ => he
    · by_cases e2 : par j = i
      · have := hc j hj e2
        rw [e2]; exact this
      · exact h.1 j hj e e2
theorem rise_step {f : Nat → Tm} {n i0 i : Nat} (h : Rise f n i0 i) (hi : 0 < i) (hin : i < n) (hl : lt (f i) (f (par i))) : Rise (sw f i (par i)) n i0 (par i) := by
  obtain ⟨⟨h1, h2⟩, h3⟩ := h
  have hq : par i < i := par_lt hi
  -- children of the parent
  have hk : ∀ c, 0 < c → par c = par i → c ≠ i → c < n → ¬ lt (f c) (f (par i)) := fun c hc hp hne hcn => by
    have := par_lt hc
    have := h1 c hc hne (by omega) hcn (by omega)
    rwa [hp] at this
  refine ⟨⟨fun j hj hj1 hj2 => ?_, fun hq0 c hc hp => ?_⟩, .inr fun c hc hp => ?_⟩
  · intro hjn hpn
    have hpj := par_lt hj
    by_cases e : j = i
    · exact absurd (by rw [e]) hj2
    · rw [sw_o f e hj1]
      by_cases e2 : par j = i
      · rw [e2, sw_l]
        have := h2 hi j hj e2 hjn (by omega)
        exact this
      · rw [sw_o f e2 hj2]
        exact h1 j hj e e2 hjn hpn
  · intro hcn hqn
    have hpq := par_lt hq0
    have hup : ¬ lt (f (par i)) (f (par (par i))) := h1 (par i) hq0 (by omega) (by omega) (by omega) (by omega)
    rw [sw_o f (k := par (par i)) (by omega) (by omega)]
    by_cases e : c = i
    · subst e; rw [sw_l]; exact hup
    · have : c ≠ par i := by have := par_lt hc; omega
      rw [sw_o f e this]
      exact le_tr hup (hk c hc hp e hcn)
  · intro hcn hqn
    rw [sw_r]
    by_cases e : c = i
    · subst e; rw [sw_l]; exact le_of_lt hl
    · have : c ≠ par i := by have := par_lt hc; omega
      rw [sw_o f e this]
      exact le_tr (le_of_lt hl) (hk c hc hp e hcn)
theorem sink_end {f : Nat → Tm} {n i : Nat} (h : Down f n i) (he : ∀ c, 0 < c → par c = i → c < n → ¬ lt (f c) (f i)) : Heap f n := by
  intro j hj hjn hp
  by_cases e : par j = i
  · rw [e]; exact he j hj e hjn
  · exact h.1 j hj e hjn hp
theorem sink_step {f : Nat → Tm} {n i k : Nat} (h : Down f n i) (hk0 : 0 < k) (hk : par k = i) (hkn : k < n) (hm : ∀ c, 0 < c → par c = i → c < n → ¬ lt (f c) (f k)) (hl : ¬ lt (f i) (f k)) : Down (sw f i k) n k := by
  obtain ⟨h1, h2⟩ := h
  have hik : i < k := by have := par_lt hk0; omega
  refine ⟨fun j hj hjk hjn hpn => ?_, fun _ c hc hp hcn hqn => ?_⟩
  · have hpj := par_lt hj
    by_cases e : par j = i
    · rw [e, sw_l]
      by_cases e2 : j = k
      · subst e2; rw [sw_r]; exact hl
      · rw [sw_o f (by omega) e2]; exact hm j hj e hjn
    · by_cases e2 : j = i
      · subst e2
        rw [sw_l, sw_o f (by omega) (by omega)]
        have := h2 hj k hk0 hk hkn (by omega)
        exact this
      · by_cases e3 : j = k
        · subst e3; exact absurd hk e
        · rw [sw_o f e2 e3, sw_o f e hjk]
          exact h1 j hj e hjn hpn
  · have := par_lt hc
    rw [hk, sw_l, sw_o f (by omega) (by omega)]
    have := h1 c hc (by omega) hcn (by omega)
    rwa [hp] at this
/-- the first of a heap -/
theorem heap_min {f : Nat → Tm} {n : Nat} (h : Heap f n) : ∀ j, j < n → ¬ lt (f j) (f 0) := by
  intro j
  induction j using Nat.strongRecOn with
  | ind j ih =>
    intro hj
    by_cases e : j = 0
    · subst e; exact lt_irr _
    · have hp := par_lt (i := j) (by omega)
      exact le_tr (ih (par j) hp (by omega)) (h j (by omega) hj (by omega))
/-- something else was put at place i of a heap: a hole -/
theorem heap_hole {f : Nat → Tm} {n i : Nat} (h : Heap f n) (x : Tm) {m : Nat} (hm : m ≤ n) : Hole (fun k => if k = i then x else f k) m i := by
  refine ⟨fun j hj e e2 hjn hp => ?_, fun hi c hc hp hcn hq => ?_⟩
  · simp only [e, e2, if_false]
    exact h j hj (by omega) (by omega)
  · have h1 := par_lt hc
    have h2 := par_lt hi
    have e1 : c ≠ i := by omega
    have e2 : par i ≠ i := by omega
    simp only [e1, e2, if_false]
    exact (heap_down h i).2 hi c hc hp (by omega) (by omega)
theorem heap_less {f : Nat → Tm} {n m : Nat} (h : Heap f n) (hm : m ≤ n) : Heap f m := fun j hj h1 h2 => h j hj (by omega) (by omega)
/-- one more at the end -/
theorem heap_push {f g : Nat → Tm} {n : Nat} (h : Heap f n) (hg : ∀ k, k < n → g k = f k) : Hole g (n + 1) n := by
  refine ⟨fun j hj e e2 hjn hp => ?_, fun hi c hc hp hcn hq => ?_⟩
  · have := par_lt hj
    rw [hg j (by omega), hg (par j) (by omega)]
    exact h j hj (by omega) (by omega)
  · have := par_lt hc; omega
theorem down_last {f : Nat → Tm} {n : Nat} (h : Down f (n + 1) n) : Heap f (n + 1) := by
  intro j hj hjn hp
  have := par_lt hj
  exact h.1 j hj (by omega) hjn hp
end Go.Proofs.Ytehphgpkhfokhaa
