/- sched: a table in memory. -/
import Derived.Test.YtehphgpkhfokhaaSa
namespace Go.Proofs.Ytehphgpkhfokhaa
open Go.RowKit Go.Conc
def chanOf : Bool → Array Value
  | true => #[evt]
  | false => #[]
/-- what a table holds: who is awake, the timers in order, how many were set, the time -/
structure St where
  A : List Bool
  S : List Tm
  T : Int
  now : Int
/-- is the task awake? -/
def up (A : List Bool) (i : Nat) : Bool := A.getD i false
theorem up_at {A : List Bool} {i : Nat} (h : i < A.length) : A[i]? = some (up A i) := by simp [up, h]
theorem up_set {A : List Bool} {i : Nat} (h : i < A.length) (x : Bool) (j : Nat) : up (A.set i x) j = if j = i then x else up A j := by
  unfold up
  simp only [List.getD_eq_getElem?_getD, List.getElem?_set]
  by_cases e : i = j
  · subst e; simp [h]
  · simp [e, Ne.symm e]
theorem set_same {A : List Bool} {i : Nat} {x : Bool} (h : i < A.length) (hx : up A i = x) : A.set i x = A := by
  apply List.ext_getElem?
  intro j
  rw [List.getElem?_set]
  split
  · rename_i e; subst e; rw [up_at h, hx]
  · rfl
/-- The table at t: its signals' row lies in b, the signals in c 0, c 1 .., its timers' row is v. -/
structure Tab (w : World) (t b : Nat) (c : Nat → Nat) (v : Value) (s : St) : Prop where
  c0 : w.cell? ⟨t, 0, none⟩ = some (.slice (some ⟨b, 0, none⟩) s.A.length s.A.length)
  c3 : w.cell? ⟨t, 3, none⟩ = some (.int .i64 s.now)
  f3 : w.frozen? ⟨t, 3, none⟩ = false
  ch : ∀ i, i < s.A.length → w.cell? ⟨b, i, none⟩ = some (.chan (some (c i))) ∧ ∃ x y, w.heap[c i]? = some (.chan 1 (chanOf (up s.A i)) false x y false)
  inj : ∀ i j, i < s.A.length → j < s.A.length → c i = c j → i = j
  wh : Wh w t v s.S s.T
  tb : t ≠ b
  vb : v.ownBlock ≠ some b
  n : 1 ≤ s.A.length ∧ s.A.length ≤ 16
  nw : 0 ≤ s.now ∧ s.now ≤ 1099511627776
/-- what a table owns -/
def OwnT (t b : Nat) (c : Nat → Nat) (n : Nat) (v : Value) (k : Nat) : Prop := k = t ∨ k = b ∨ (∃ i, i < n ∧ k = c i) ∨ v.ownBlock = some k
theorem Wh.far {w w' : World} {p : Nat} {v : Value} {S : List Tm} {T : Int} (h : Wh w p v S T) {o : Nat → Nat → Prop} (hx : Turn o w w') (hp : ¬ o p 1 ∧ ¬ o p 2) (hv : ∀ k j, v.ownBlock = some k → ¬ o k j) : Wh w' p v S T := by
  obtain ⟨xs, h1, h2⟩ := h
  exact ⟨xs, h1.far hx hp hv, h2⟩
theorem cells_of_cell {w : World} {k j : Nat} {u : Value} (h : w.cell? ⟨k, j, none⟩ = some u) : ∀ {cap : Nat} {buf : Array Value} {cl : Bool} {x y : Nat} {tm : Bool}, w.heap[k]? ≠ some (.chan cap buf cl x y tm) := by
  intro cap buf cl x y tm e
  simp [World.cell?, e] at h
section
variable {w w' : World} {t b : Nat} {c : Nat → Nat} {v : Value} {s : St}
theorem Tab.far (h : Tab w t b c v s) {P : Nat → Prop} (hx : Turn (fun k _ => P k) w w') (hP : ∀ k, OwnT t b c s.A.length v k → ¬ P k) : Tab w' t b c v s := by
  have ht := hP t (.inl rfl)
  have hb := hP b (.inr (.inl rfl))
  refine ⟨hx.keepc ht h.c0, hx.keepc ht h.c3, hx.keepf ht h.c3 h.f3, fun i hi => ?_, h.inj, h.wh.far hx ⟨ht, ht⟩ (fun k _ hk => hP k (.inr (.inr (.inr hk)))), h.tb, h.vb, h.n, h.nw⟩
  obtain ⟨c1, x, y, hc⟩ := h.ch i hi
  refine ⟨hx.keepc hb c1, x, y, ?_⟩
  rw [hx.2.1 (c i) (Array.getElem?_eq_some_iff.1 hc).1 (fun _ => hP _ (.inr (.inr (.inl ⟨i, hi, rfl⟩))))]; exact hc
theorem Tab.ext (h : Tab w t b c v s) (x : Ext w w') : Tab w' t b c v s := h.far (P := fun _ => False) (Turn.of_ext x) (fun _ _ k => k)
theorem Tab.lt (h : Tab w t b c v s) : ∀ k, OwnT t b c s.A.length v k → k < w.heap.size := by
  intro k o
  rcases o with rfl | rfl | ⟨i, hi, rfl⟩ | o
  · exact World.block_lt_of_cell? w ⟨k, 0, none⟩ h.c0
  · exact World.block_lt_of_cell? w ⟨k, 0, none⟩ (h.ch 0 (by have := h.n; omega)).1
  · obtain ⟨_, x, y, hc⟩ := h.ch i hi
    exact (Array.getElem?_eq_some_iff.1 hc).1
  · obtain ⟨xs, h1, _⟩ := h.wh
    exact (h1.2.2.1.lt k o).2
theorem Tab.apart (h : Tab w t b c v s) {i : Nat} (hi : i < s.A.length) : c i ≠ t ∧ c i ≠ b ∧ v.ownBlock ≠ some (c i) := by
  obtain ⟨_, x, y, hc⟩ := h.ch i hi
  refine ⟨fun e => ?_, fun e => ?_, fun e => ?_⟩
  · rw [e] at hc; exact cells_of_cell h.c0 hc
  · rw [e] at hc; exact cells_of_cell (h.ch 0 (by have := h.n; omega)).1 hc
  · obtain ⟨xs, h1, _⟩ := h.wh
    rcases h1.2.2.1.2 with ⟨e1, _⟩ | ⟨g, cap, cur, e1, _, hg, _⟩
    · rw [e1] at e; simp [Value.ownBlock] at e
    · rw [e1] at e
      simp only [Value.ownBlock, Option.some.injEq] at e
      rw [e, hc] at hg; cases hg
theorem Turn.chan {own : Nat → Nat → Prop} {a : World} (h : Turn own a w) {q : Nat} (hq : ∀ j, own q j) (cap : Nat) (buf : Array Value) (cl : Bool) (x y : Nat) (tm : Bool) : Turn own a (w.setChan q cap buf cl x y tm) := by
  have e : ∀ k, k ≠ q → (w.setChan q cap buf cl x y tm).heap[k]? = w.heap[k]? := fun k hk => by simp [World.setChan, Array.getElem?_setIfInBounds_ne (Ne.symm hk)]
  refine ⟨below_setChan h.1 (Nat.zero_le _) _ _ _ _ _ _, fun k hk hn => ?_, fun k j hk hn => ?_⟩
  · rw [e k (fun z => hn 0 (by rw [z]; exact hq 0))]; exact h.2.1 k hk hn
  · have ek := e k (fun z => hn (by rw [z]; exact hq j))
    obtain ⟨a1, a2⟩ := h.2.2 k j hk hn
    exact ⟨(World.cell?_of_block (w := w) (a := ⟨k, j, none⟩) ek).trans a1, (World.frozen?_of_block (w := w) (a := ⟨k, j, none⟩) ek).trans a2⟩
/-- a signal filled or emptied -/
theorem Tab.put (h : Tab w t b c v s) {i : Nat} (hi : i < s.A.length) (z : Bool) (x y : Nat) : Tab (w.setChan (c i) 1 (chanOf z) false x y false) t b c v { s with A := s.A.set i z } := by
  have t1 : Turn (fun k _ => k = c i) w (w.setChan (c i) 1 (chanOf z) false x y false) := (Turn.refl _ w).chan (fun _ => rfl) _ _ _ _ _ _
  obtain ⟨n1, n2, n3⟩ := h.apart hi
  refine ⟨?_, t1.keepc (Ne.symm n1) h.c3, t1.keepf (Ne.symm n1) h.c3 h.f3, fun j hj => ?_, fun j k hj hk => h.inj j k (by simpa using hj) (by simpa using hk), h.wh.far t1 ⟨Ne.symm n1, Ne.symm n1⟩ (fun k _ hk e => n3 (by rw [← e]; exact hk)), h.tb, h.vb, by simpa using h.n, h.nw⟩
  · have := t1.keepc (Ne.symm n1) h.c0
    simpa using this
  · have hj' : j < s.A.length := by simpa using hj
    obtain ⟨c1, x', y', hc⟩ := h.ch j hj'
    refine ⟨t1.keepc (Ne.symm n2) c1, ?_⟩
    simp only [up_set hi]
    by_cases e : j = i
    · subst e
      rw [if_pos rfl]
      exact ⟨x, y, heap_setChan _ _ _ _ _ _ _ _ (Array.getElem?_eq_some_iff.1 hc).1⟩
    · rw [if_neg e]
      have hne : c j ≠ c i := fun k => e (h.inj j i hj' hi k)
      exact ⟨x', y', by rw [t1.2.1 (c j) (Array.getElem?_eq_some_iff.1 hc).1 (fun _ => hne)]; exact hc⟩
end
/-- What a call has done to a table: only what it owns has turned. -/
structure Does (t b : Nat) (c : Nat → Nat) (v v' : Value) (s s' : St) (w w' : World) : Prop where
  tab : Tab w' t b c v' s'
  turn : Turn (fun k _ => OwnT t b c s.A.length v k) w w'
  own : ∀ k, v'.ownBlock = some k → v.ownBlock = some k ∨ w.heap.size ≤ k
  len : s'.A.length = s.A.length
section
variable {w w1 w' : World} {t b : Nat} {c : Nat → Nat} {v v1 v' : Value} {s s1 s' : St}
theorem Does.refl (h : Tab w t b c v s) : Does t b c v v s s w w := ⟨h, Turn.refl _ _, fun _ k => .inl k, rfl⟩
theorem Does.of_ext (h : Tab w t b c v s) (x : Ext w w') : Does t b c v v s s w w' := ⟨h.ext x, Turn.of_ext x, fun _ k => .inl k, rfl⟩
theorem Does.trans (h : Does t b c v v1 s s1 w w1) (k : Does t b c v1 v' s1 s' w1 w') : Does t b c v v' s s' w w' := by
  refine ⟨k.tab, h.turn.trans k.turn (fun i hi _ o => ?_), fun i hi => ?_, k.len.trans h.len⟩
  · rcases o with o | o | ⟨j, hj, o⟩ | o
    · exact .inl o
    · exact .inr (.inl o)
    · exact .inr (.inr (.inl ⟨j, by rw [← h.len]; exact hj, o⟩))
    · rcases h.own i o with q | q
      · exact .inr (.inr (.inr q))
      · omega
  · rcases k.own i hi with q | q
    · exact h.own i q
    · have := h.turn.size; exact .inr (by omega)
theorem Does.ext (h : Does t b c v v' s s' w w1) (x : Ext w1 w') : Does t b c v v' s s' w w' := h.trans (Does.of_ext h.tab x)
/-- the wheel alone has turned -/
theorem Tab.goes (h : Tab w t b c v s) (g : Goes t v v' w w') {S : List Tm} {T : Int} (hw : Wh w' t v' S T) : Does t b c v v' s { s with S := S, T := T } w w' := by
  have no : ∀ k j, own t v k j → OwnT t b c s.A.length v k := fun k j o => by
    rcases o with ⟨o, _⟩ | o
    · exact .inl o
    · exact .inr (.inr (.inr o))
  have n0 : ∀ j, j ≠ 1 → j ≠ 2 → ¬ own t v t j := fun j h0 h1 o => by
    rcases o with ⟨_, o⟩ | o
    · omega
    · obtain ⟨xs, a1, _⟩ := h.wh
      exact a1.2.2.2 o
  have nb : ∀ j, ¬ own t v b j := fun j o => by
    rcases o with ⟨o, _⟩ | o
    · exact h.tb o.symm
    · exact h.vb o
  refine ⟨⟨g.1.keepc (n0 0 (by omega) (by omega)) h.c0, g.1.keepc (n0 3 (by omega) (by omega)) h.c3, g.1.keepf (n0 3 (by omega) (by omega)) h.c3 h.f3, fun i hi => ?_, h.inj, hw, h.tb, fun e => ?_, h.n, h.nw⟩, g.1.mono (fun i _ j o => no i j o), g.2, rfl⟩
  · obtain ⟨c1, x, y, hc⟩ := h.ch i hi
    obtain ⟨n1, n2, n3⟩ := h.apart hi
    refine ⟨g.1.keepc (nb _) c1, x, y, ?_⟩
    rw [g.1.2.1 (c i) (Array.getElem?_eq_some_iff.1 hc).1 (fun j o => by
      rcases o with ⟨o, _⟩ | o
      · exact n1 o
      · exact n3 o)]
    exact hc
  · rcases g.2 b e with q | q
    · exact h.vb q
    · have := h.lt b (.inr (.inl rfl)); omega
/-- the time put -/
theorem Tab.time (h : Tab w t b c v s) (n : Int) (hn : 0 ≤ n ∧ n ≤ 1099511627776) : Does t b c v v s { s with now := n } w (w.setCell ⟨t, 3, none⟩ (.int .i64 n)) := by
  have t1 : Turn (fun k j => k = t ∧ j = 3) w (w.setCell ⟨t, 3, none⟩ (.int .i64 n)) := (Turn.refl _ w).set ⟨rfl, rfl⟩ _
  refine ⟨⟨t1.keepc (by simp) h.c0, by simp [go_sem, h.c3], by simp [go_sem, h.f3], fun i hi => ?_, h.inj, h.wh.far t1 (by simp) (fun k j hk e => ?_), h.tb, h.vb, h.n, hn⟩, t1.mono (fun i _ j o => .inl o.1), fun _ k => .inl k, rfl⟩
  · obtain ⟨c1, x, y, hc⟩ := h.ch i hi
    obtain ⟨n1, n2, n3⟩ := h.apart hi
    refine ⟨t1.keepc (fun e => h.tb e.1.symm) c1, x, y, ?_⟩
    rw [t1.2.1 (c i) (Array.getElem?_eq_some_iff.1 hc).1 (fun j e => n1 e.1)]; exact hc
  · obtain ⟨xs, a1, _⟩ := h.wh
    exact a1.2.2.2 (by rw [← e.1]; exact hk)
end
end Go.Proofs.Ytehphgpkhfokhaa
