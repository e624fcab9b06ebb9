/- SchedExact: a table and the reference's. -/
import Derived.Test.YtehphgpkhfokhaaVd
import Derived.Test.YtehphgpkhfokhaaRow7
namespace Go.Proofs.Ytehphgpkhfokhaa
open Go.RowKit Go.Conc
/-- A table and the reference's: they have nothing in common, nor with F. -/
structure EX (F : Nat → Prop) (w wr : World) (t b : Nat) (c : Nat → Nat) (v : Value) (s : St) (q g : Nat) (u : Value) (r : St) : Prop where
  a : Tk w wr t b c v s
  r : RT wr q g u r
  ro : ∀ k, OwnQ q g u k → w.heap.size ≤ k
  d : ∀ k, OwnT t b c s.A.length v k → ¬ OwnQ q g u k
  f : ∀ k, F k → ¬ OwnT t b c s.A.length v k ∧ ¬ OwnQ q g u k ∧ k < wr.heap.size
theorem OwnQ.back {q g : Nat} {u u' : Value} {B : Nat} (ho : ∀ k, u'.ownBlock = some k → u.ownBlock = some k ∨ B ≤ k) {k : Nat} (o : OwnQ q g u' k) : OwnQ q g u k ∨ B ≤ k := by
  rcases o with o | o | o
  · exact .inl (.inl o)
  · exact .inl (.inr (.inl o))
  · rcases ho k o with z | z
    · exact .inl (.inr (.inr z))
    · exact .inr z
def PX (F : Nat → Prop) (w wr : World) (t q : Nat) (s r : St) : Prop :=
  ∃ (b : Nat) (c : Nat → Nat) (v : Value) (g : Nat) (u : Value), EX F w wr t b c v s q g u r
section
variable {F : Nat → Prop} {w wr w' : World} {t b : Nat} {c : Nat → Nat} {v v' : Value} {s s' : St} {q g : Nat} {u u' : Value} {r r' : St}
theorem EX.ext (h : EX F w wr t b c v s q g u r) (x : Ext wr w') : EX F w w' t b c v s q g u r :=
  ⟨h.a.ext x, h.r.ext x, h.ro, h.d, fun k o => ⟨(h.f k o).1, (h.f k o).2.1, Nat.lt_of_lt_of_le (h.f k o).2.2 x.size⟩⟩
theorem EX.left (h : EX F w wr t b c v s q g u r) (d : Does t b c v v' s s' wr w') : EX F w w' t b c v' s' q g u r := by
  refine ⟨h.a.does d, h.r.far d.turn (fun k o o' => h.d k o' o), h.ro, fun k o o' => ?_, fun k o => ?_⟩
  · rcases OwnT.back d.len d.own o with z | z
    · exact h.d k z o'
    · have := h.r.lt k o'; omega
  · obtain ⟨f1, f2, f3⟩ := h.f k o
    refine ⟨fun o' => ?_, f2, Nat.lt_of_lt_of_le f3 d.turn.size⟩
    rcases OwnT.back d.len d.own o' with z | z
    · exact f1 z
    · omega
theorem EX.right (h : EX F w wr t b c v s q g u r) (d : DoesR q g u u' r r' wr w') : EX F w w' t b c v s q g u' r' := by
  refine ⟨⟨h.a.tab.far d.turn (fun k o o' => h.d k o o'), d.turn.below h.a.x (fun k _ o => h.ro k o), h.a.o⟩, d.tab, fun k o => ?_, fun k o o' => ?_, fun k o => ?_⟩
  · rcases OwnQ.back d.own o with z | z
    · exact h.ro k z
    · have := h.a.x.size; omega
  · rcases OwnQ.back d.own o' with z | z
    · exact h.d k o z
    · have := h.a.tab.lt k o; omega
  · obtain ⟨f1, f2, f3⟩ := h.f k o
    refine ⟨f1, fun o' => ?_, Nat.lt_of_lt_of_le f3 d.turn.size⟩
    rcases OwnQ.back d.own o' with z | z
    · exact f2 z
    · omega
theorem EX.keepl (h : EX F w wr t b c v s q g u r) (d : Does t b c v v' s s' wr w') : Keep F wr w' := fun k _ _ hk hc => d.turn.keepc (h.f k hk).1 hc
theorem EX.keepr (h : EX F w wr t b c v s q g u r) (d : DoesR q g u u' r r' wr w') : Keep F wr w' := fun k _ _ hk hc => d.turn.keepc (h.f k hk).2.1 hc
theorem PX.x (h : PX F w wr t q s r) : Ext w wr := by obtain ⟨_, _, _, _, _, h⟩ := h; exact h.a.x
theorem PX.ext (h : PX F w wr t q s r) (x : Ext wr w') : PX F w w' t q s r := by obtain ⟨_, _, _, _, _, h⟩ := h; exact ⟨_, _, _, _, _, h.ext x⟩
theorem PX.mono {F' : Nat → Prop} (h : PX F w wr t q s r) (k : ∀ b, F' b → F b) : PX F' w wr t q s r := by
  obtain ⟨_, _, _, _, _, h⟩ := h
  exact ⟨_, _, _, _, _, h.a, h.r, h.ro, h.d, fun b o => h.f b (k b o)⟩
theorem PX.c1 (h : PX F w wr t q s r) : wr.cell? ⟨q, 1, none⟩ = some (.int .i64 r.now) := by obtain ⟨_, _, _, _, _, h⟩ := h; exact h.r.c1.1
theorem PX.nw (h : PX F w wr t q s r) : 0 ≤ s.now ∧ s.now ≤ 1099511627776 := by obtain ⟨_, _, _, _, _, h⟩ := h; exact h.a.tab.nw
theorem PX.n (h : PX F w wr t q s r) : 1 ≤ s.A.length ∧ s.A.length ≤ 16 := by obtain ⟨_, _, _, _, _, h⟩ := h; exact h.a.tab.n
/-- what is new behind wr -/
theorem PX.new {F' : Nat → Prop} (h : PX F w wr t q s r) (x : Ext wr w') (hF : ∀ k, F' k → wr.heap.size ≤ k ∧ k < w'.heap.size) : PX (fun k => F k ∨ F' k) w w' t q s r := by
  obtain ⟨_, _, _, _, _, h⟩ := h
  refine ⟨_, _, _, _, _, (h.ext x).a, (h.ext x).r, h.ro, h.d, fun k o => ?_⟩
  rcases o with o | o
  · exact (h.ext x).f k o
  · obtain ⟨f1, f2⟩ := hF k o
    refine ⟨fun o' => ?_, fun o' => ?_, f2⟩
    · have := h.a.tab.lt k o'; omega
    · have := h.r.lt k o'; omega
/-- something that neither owns has turned -/
theorem PX.other {P : Nat → Prop} (h : PX F w wr t q s r) (d : Turn (fun k _ => P k) wr w') (hP : ∀ k, P k → F k ∧ w.heap.size ≤ k) : PX F w w' t q s r := by
  obtain ⟨_, _, _, _, _, h⟩ := h
  refine ⟨_, _, _, _, _, ⟨h.a.tab.far d (fun k o o' => (h.f k (hP k o').1).1 o), d.below h.a.x (fun k _ o => (hP k o).2), h.a.o⟩, h.r.far d (fun k o o' => (h.f k (hP k o').1).2.1 o), h.ro, h.d, fun k o => ⟨(h.f k o).1, (h.f k o).2.1, Nat.lt_of_lt_of_le (h.f k o).2.2 d.size⟩⟩
theorem px_wake (i : Int) (h : PX F w wr t q s r) :
    Calls Try.prog 13 #[.pointer (some ⟨t, 0, none⟩), .int .i64 i] wr fun e w' => e = .returned (.int .i64 (werr s.A i)) ∧ PX F w w' t q { s with A := wk s.A i } r ∧ Keep F wr w' := by
  obtain ⟨_, _, _, _, _, h⟩ := h
  refine (wake_any i wr h.a.tab).mono ?_
  rintro e w' ⟨rfl, d⟩
  exact ⟨rfl, ⟨_, _, _, _, _, h.left d⟩, h.keepl d⟩
theorem px_rwake (i : Int) (h : PX F w wr t q s r) :
    Calls Try.prog 12 #[.pointer (some ⟨q, 0, none⟩), .int .i64 i] wr fun e w' => e = .returned (.bool (decide (0 ≤ i ∧ i < r.A.length))) ∧ PX F w w' t q s { r with A := wk r.A i } ∧ Keep F wr w' := by
  obtain ⟨_, _, _, _, _, h⟩ := h
  refine (rwake_any i wr h.r).mono ?_
  rintro e w' ⟨rfl, d⟩
  exact ⟨rfl, ⟨_, _, _, _, _, h.right d⟩, h.keepr d⟩
theorem px_tick (n : Int) (h : PX F w wr t q s r) (hn : tickOk s n) (hT : s.T ≤ 100000) :
    Calls Try.prog 24 #[.pointer (some ⟨t, 0, none⟩), .int .i64 n] wr fun e w' => e = .returned (.int .i64 0) ∧ PX F w w' t q (ticked s n) r ∧ Keep F wr w' := by
  obtain ⟨_, _, _, _, _, h⟩ := h
  refine (tick_any n wr h.a.tab hn hT).mono ?_
  rintro e w' ⟨rfl, v', d⟩
  exact ⟨rfl, ⟨_, _, _, _, _, h.left d⟩, h.keepl d⟩
theorem px_tick_bad (n : Int) (h : PX F w wr t q s r) (hn : ¬ tickOk s n) :
    Calls Try.prog 24 #[.pointer (some ⟨t, 0, none⟩), .int .i64 n] wr fun e w' => e = .returned (.int .i64 1) ∧ w' = wr := by
  obtain ⟨_, _, _, _, _, h⟩ := h
  exact tick_bad n wr h.a.tab hn
theorem px_rtick (n : Int) (h : PX F w wr t q s r) (hn : tickOk r n) (hS : r.S.length ≤ 1000) :
    Calls Try.prog 23 #[.pointer (some ⟨q, 0, none⟩), .int .i64 n] wr fun e w' => (∃ x, e = .returned x) ∧ PX F w w' t q s (ticked r n) ∧ Keep F wr w' := by
  obtain ⟨_, _, _, _, _, h⟩ := h
  refine (rtick_any n wr h.r hn hS).mono ?_
  rintro e w' ⟨he, v', d⟩
  exact ⟨he, ⟨_, _, _, _, _, h.right d⟩, h.keepr d⟩
theorem px_now (h : PX F w wr t q s r) :
    Calls Try.prog 25 #[.pointer (some ⟨t, 0, none⟩)] wr fun e w' => e = .returned (.int .i64 s.now) ∧ w' = wr := by
  obtain ⟨_, _, _, _, _, h⟩ := h
  exact now_any wr h.a.tab
theorem px_awake (h : PX F w wr t q s r) :
    Calls Try.prog 26 #[.pointer (some ⟨t, 0, none⟩)] wr fun e w' => ∃ a cap, e = .returned (.slice a (ups s.A s.A.length).length cap) ∧ RdI w' (.slice a (ups s.A s.A.length).length cap) (ups s.A s.A.length) ∧ Ext wr w' := by
  obtain ⟨_, _, _, _, _, h⟩ := h
  refine (awake_any wr h.a.tab).mono ?_
  rintro e w' ⟨x, rfl, q1, q2⟩
  obtain ⟨a, cap, rfl, _⟩ := row_shape q1
  exact ⟨a, cap, rfl, rdi_row q1, q2⟩
theorem px_rlist (h : PX F w wr t q s r) :
    Calls Try.prog 27 #[.pointer (some ⟨q, 0, none⟩)] wr fun e w' => ∃ a cap, e = .returned (.slice a (ups r.A r.A.length).length cap) ∧ RdI w' (.slice a (ups r.A r.A.length).length cap) (ups r.A r.A.length) ∧ Ext wr w' := by
  obtain ⟨_, _, _, _, _, h⟩ := h
  refine (rlist_any wr h.r).mono ?_
  rintro e w' ⟨x, rfl, q1, q2⟩
  obtain ⟨a, cap, rfl, _⟩ := row_shape q1
  exact ⟨a, cap, rfl, rdi_row q1, q2⟩
theorem px_next (h : PX F w wr t q s r) :
    Calls Try.prog 19 #[.pointer (some ⟨q, 0, none⟩)] wr fun e w' => (lo r.A = none ∧ e = .returned (.int .i64 (-1)) ∧ w' = wr) ∨ ∃ i, lo r.A = some i ∧ e = .returned (.int .i64 (i : Nat)) ∧ i < r.A.length ∧ PX F w w' t q s { r with A := r.A.set i false } ∧ Keep F wr w' := by
  obtain ⟨_, _, _, _, _, h⟩ := h
  refine (rnext_any wr h.r).mono ?_
  rintro e w' (⟨h1, h2, h3⟩ | ⟨i, h1, h2, h3, d⟩)
  · exact .inl ⟨h1, h2, h3⟩
  · exact .inr ⟨i, h1, h2, h3, ⟨_, _, _, _, _, h.right d⟩, h.keepr d⟩
theorem px_ran (task : Nat) (x : Value) (l : List Int) (again : Int) (h : PX F w wr t q s r) (hx : RdI wr x l) (hb : ∀ a n cap, x = .slice a n cap → ∀ k j y, a = some ⟨k, j, y⟩ → 0 < n → k < w.heap.size) (hS : r.S.length ≤ 1000) (hl : l.length ≤ 100000) (ha : -9223372036854775808 ≤ again ∧ again ≤ 9223372036854775807) :
    Calls Try.prog 20 #[.pointer (some ⟨q, 0, none⟩), .int .i64 task, x, .int .i64 again] wr fun e w' => (∃ y, e = .returned y) ∧ PX F w w' t q s (heeded r task l again) ∧ Keep F wr w' := by
  obtain ⟨_, _, _, g, u, h⟩ := h
  have hf : RdF wr (OwnQ q g u) x l := by
    obtain ⟨a, cap, e, hx⟩ := hx
    refine ⟨a, cap, e, fun j hj => ?_⟩
    obtain ⟨b', off, h1, h2⟩ := hx j hj
    refine ⟨b', off, h1, fun o => ?_, h2⟩
    have h3 := hb a l.length cap e b' off none h1 (by omega)
    have h4 := h.ro b' o
    omega
  refine (rran_any task x l again wr h.r hf hS hl ha).mono ?_
  rintro e w' ⟨he, v', d⟩
  exact ⟨he, ⟨_, _, _, _, _, h.right d⟩, h.keepr d⟩
end
end Go.Proofs.Ytehphgpkhfokhaa
