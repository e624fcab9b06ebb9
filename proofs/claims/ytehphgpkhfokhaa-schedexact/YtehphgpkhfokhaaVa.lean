/- The reference's table in memory. -/
import Derived.Test.YtehphgpkhfokhaaKt
import Derived.Test.YtehphgpkhfokhaaUb
namespace Go.Proofs.Ytehphgpkhfokhaa
open Go.RowKit Go.Conc
/-- The reference's table at q: who is awake lies in g, its timers' row is v. -/
structure RT (w : World) (q g : Nat) (v : Value) (s : St) : Prop where
  c0 : w.cell? ⟨q, 0, none⟩ = some (.slice (some ⟨g, 0, none⟩) s.A.length s.A.length)
  c1 : w.cell? ⟨q, 1, none⟩ = some (.int .i64 s.now) ∧ w.frozen? ⟨q, 1, none⟩ = false
  ch : ∀ i, i < s.A.length → w.cell? ⟨g, i, none⟩ = some (.bool (up s.A i)) ∧ w.frozen? ⟨g, i, none⟩ = false
  rw_ : RW w q v s.S
  qg : q ≠ g
  vg : v.ownBlock ≠ some g
  n : 1 ≤ s.A.length ∧ s.A.length ≤ 16
  nw : 0 ≤ s.now ∧ s.now ≤ 1099511627776
/-- what it owns -/
def OwnQ (q g : Nat) (v : Value) (k : Nat) : Prop := k = q ∨ k = g ∨ v.ownBlock = some k
section
variable {w w' : World} {q g : Nat} {v : Value} {s : St}
theorem RT.far (h : RT w q g v s) {P : Nat → Prop} (hx : Turn (fun k _ => P k) w w') (hP : ∀ k, OwnQ q g v k → ¬ P k) : RT w' q g v s := by
  have hq := hP q (.inl rfl)
  have hg := hP g (.inr (.inl rfl))
  refine ⟨hx.keepc hq h.c0, ⟨hx.keepc hq h.c1.1, hx.keepf hq h.c1.1 h.c1.2⟩, fun i hi => ?_, h.rw_.far hx (fun k j o => ?_), h.qg, h.vg, h.n, h.nw⟩
  · obtain ⟨a, b⟩ := h.ch i hi
    exact ⟨hx.keepc hg a, hx.keepf hg a b⟩
  · rcases o with ⟨o, _⟩ | o
    · rw [o]; exact hq
    · exact hP k (.inr (.inr o))
theorem RT.ext (h : RT w q g v s) (x : Ext w w') : RT w' q g v s := h.far (P := fun _ => False) (Turn.of_ext x) (fun _ _ k => k)
theorem RT.lt (h : RT w q g v s) : ∀ k, OwnQ q g v k → k < w.heap.size := by
  intro k o
  rcases o with rfl | rfl | o
  · exact World.block_lt_of_cell? w ⟨k, 0, none⟩ h.c0
  · exact World.block_lt_of_cell? w ⟨k, 0, none⟩ (h.ch 0 (by have := h.n; omega)).1
  · exact h.rw_.lt k 0 (.inr o)
theorem RT.put (h : RT w q g v s) {i : Nat} (hi : i < s.A.length) (z : Bool) : RT (w.setCell ⟨g, i, none⟩ (.bool z)) q g v { s with A := s.A.set i z } := by
  have t1 : Turn (fun k j => k = g ∧ j = i) w (w.setCell ⟨g, i, none⟩ (.bool z)) := (Turn.refl _ w).set ⟨rfl, rfl⟩ _
  have nq : ∀ j, ¬ (q = g ∧ j = i) := fun j e => h.qg e.1
  refine ⟨?_, ⟨t1.keepc (nq 1) h.c1.1, t1.keepf (nq 1) h.c1.1 h.c1.2⟩, fun j hj => ?_, h.rw_.far t1 (fun k j o e => ?_), h.qg, h.vg, by simpa using h.n, h.nw⟩
  · have := t1.keepc (nq 0) h.c0
    simpa using this
  · have hj' : j < s.A.length := by simpa using hj
    obtain ⟨a, b⟩ := h.ch j hj'
    obtain ⟨a', b'⟩ := h.ch i hi
    simp only [up_set hi]
    by_cases e : j = i
    · subst e
      rw [if_pos rfl]
      exact ⟨World.cell?_setCell_same _ _ _ a, by rw [World.frozen?_setCell]; exact b⟩
    · rw [if_neg e]
      exact ⟨t1.keepc (fun z => e z.2) a, t1.keepf (fun z => e z.2) a b⟩
  · rcases o with ⟨o, _⟩ | o
    · exact h.qg (by rw [← o]; exact e.1)
    · exact h.vg (by rw [← e.1]; exact o)
theorem RT.time (h : RT w q g v s) (n : Int) (hn : 0 ≤ n ∧ n ≤ 1099511627776) : RT (w.setCell ⟨q, 1, none⟩ (.int .i64 n)) q g v { s with now := n } := by
  have t1 : Turn (fun k j => k = q ∧ j = 1) w (w.setCell ⟨q, 1, none⟩ (.int .i64 n)) := (Turn.refl _ w).set ⟨rfl, rfl⟩ _
  refine ⟨t1.keepc (by simp) h.c0, ⟨World.cell?_setCell_same _ _ _ h.c1.1, by rw [World.frozen?_setCell]; exact h.c1.2⟩, fun j hj => ?_, h.rw_.far t1 (fun k j o e => ?_), h.qg, h.vg, h.n, hn⟩
  · obtain ⟨a, b⟩ := h.ch j hj
    exact ⟨t1.keepc (fun z => h.qg z.1.symm) a, t1.keepf (fun z => h.qg z.1.symm) a b⟩
  · rcases o with ⟨o, o'⟩ | o
    · omega
    · obtain ⟨_, _, d⟩ := h.rw_
      exact d (by rw [← e.1]; exact o)
end
/-- What a call has done to the reference's table. -/
structure DoesR (q g : Nat) (v v' : Value) (s s' : St) (w w' : World) : Prop where
  tab : RT w' q g v' s'
  turn : Turn (fun k _ => OwnQ q g v k) w w'
  own : ∀ k, v'.ownBlock = some k → v.ownBlock = some k ∨ w.heap.size ≤ k
  len : s'.A.length = s.A.length
section
variable {w w1 w' : World} {q g : Nat} {v v1 v' : Value} {s s1 s' : St}
theorem DoesR.refl (h : RT w q g v s) : DoesR q g v v s s w w := ⟨h, Turn.refl _ _, fun _ k => .inl k, rfl⟩
theorem DoesR.of_ext (h : RT w q g v s) (x : Ext w w') : DoesR q g v v s s w w' := ⟨h.ext x, Turn.of_ext x, fun _ k => .inl k, rfl⟩
theorem DoesR.trans (h : DoesR q g v v1 s s1 w w1) (k : DoesR q g v1 v' s1 s' w1 w') : DoesR q g v v' s s' w w' := by
  refine ⟨k.tab, h.turn.trans k.turn (fun i hi _ o => ?_), fun i hi => ?_, k.len.trans h.len⟩
  · rcases o with o | o | o
    · exact .inl o
    · exact .inr (.inl o)
    · rcases h.own i o with z | z
      · exact .inr (.inr z)
      · omega
  · rcases k.own i hi with z | z
    · exact h.own i z
    · have := h.turn.size; exact .inr (by omega)
theorem DoesR.ext (h : DoesR q g v v' s s' w w1) (x : Ext w1 w') : DoesR q g v v' s s' w w' := h.trans (DoesR.of_ext h.tab x)
theorem RT.does_put (h : RT w q g v s) {i : Nat} (hi : i < s.A.length) (z : Bool) : DoesR q g v v s { s with A := s.A.set i z } w (w.setCell ⟨g, i, none⟩ (.bool z)) :=
  ⟨h.put hi z, (Turn.refl _ w).set (.inr (.inl rfl)) _, fun _ k => .inl k, by simp⟩
theorem RT.does_time (h : RT w q g v s) (n : Int) (hn : 0 ≤ n ∧ n ≤ 1099511627776) : DoesR q g v v s { s with now := n } w (w.setCell ⟨q, 1, none⟩ (.int .i64 n)) :=
  ⟨h.time n hn, (Turn.refl _ w).set (.inl rfl) _, fun _ k => .inl k, rfl⟩
/-- its wheel alone has turned -/
theorem RT.goes (h : RT w q g v s) {S : List Tm} {T : Int} (t : Turn (fun k j => k = q ∧ j = 2) w w') (hw : RW w' q v' S) (hn : ∀ k, v'.ownBlock = some k → w.heap.size ≤ k) : DoesR q g v v' s { s with S := S, T := T } w w' := by
  refine ⟨⟨t.keepc (by simp) h.c0, ⟨t.keepc (by simp) h.c1.1, t.keepf (by simp) h.c1.1 h.c1.2⟩, fun i hi => ?_, hw, h.qg, fun e => ?_, h.n, h.nw⟩, t.mono (fun _ _ _ o => .inl o.1), fun k hk => .inr (hn k hk), rfl⟩
  · obtain ⟨a, b⟩ := h.ch i hi
    exact ⟨t.keepc (fun z => h.qg z.1.symm) a, t.keepf (fun z => h.qg z.1.symm) a b⟩
  · have := hn g e
    have := h.lt g (.inr (.inl rfl))
    omega
set_option maxHeartbeats 400000 in
theorem rwake_t (i : Int) (w : World) (h : RT w q g v s) :
    Calls Try.prog 12 #[.pointer (some ⟨q, 0, none⟩), .int .i64 i] w fun e w' => e = .returned (.bool (decide (0 ≤ i ∧ i < s.A.length))) ∧ DoesR q g v v s { s with A := wk s.A i } w w' ∧ Turn (fun k _ => k = g) w w' := by
  have c0 := h.c0
  unfold wk
  by_cases hi : 0 ≤ i ∧ i < s.A.length
  · rw [if_pos hi, decide_eq_true hi]
    obtain ⟨k, rfl⟩ : ∃ k : Nat, i = k := ⟨i.toNat, by omega⟩
    have hk : k < s.A.length := by omega
    have hk' : (k : Int) < (s.A.length : Int) := hi.2
    obtain ⟨c1, f1⟩ := h.ch k hk
    have HD : Hid (DoesR q g v v s { s with A := s.A.set k true } w (w.setCell ⟨g, k, none⟩ (.bool true)) ∧ Turn (fun k _ => k = g) w (w.setCell ⟨g, k, none⟩ (.bool true))) := ⟨h.does_put hk true, (Turn.refl (fun k _ => k = g) w).set (q := g) (o := k) rfl _⟩
    clear hi h
    go_enter Try.func12, Try.ntmps12
    go_wp2_with fail
    go_ret
    exact ⟨rfl, by simpa using HD.out.1, HD.out.2⟩
  · rw [if_neg hi, decide_eq_false hi]
    have HD : Hid (DoesR q g v v s s w w ∧ Turn (fun k _ => k = g) w w) := ⟨DoesR.refl h, Turn.refl _ _⟩
    by_cases h1 : i < 0
    · clear h hi
      go_enter Try.func12, Try.ntmps12
      go_wp2_with fail
      go_ret
      exact ⟨rfl, HD.out.1, HD.out.2⟩
    · have h2 : i ≥ (s.A.length : Int) := by omega
      clear h hi
      go_enter Try.func12, Try.ntmps12
      go_wp2_with fail
      go_ret
      exact ⟨rfl, HD.out.1, HD.out.2⟩
theorem rwake_any (i : Int) (w : World) (h : RT w q g v s) :
    Calls Try.prog 12 #[.pointer (some ⟨q, 0, none⟩), .int .i64 i] w fun e w' => e = .returned (.bool (decide (0 ≤ i ∧ i < s.A.length))) ∧ DoesR q g v v s { s with A := wk s.A i } w w' :=
  (rwake_t i w h).mono fun _ _ ⟨h1, h2, _⟩ => ⟨h1, h2⟩
end
end Go.Proofs.Ytehphgpkhfokhaa
