/- One table beside what is not its own. -/
import Derived.Test.YtehphgpkhfokhaaTe
namespace Go.Proofs.Ytehphgpkhfokhaa
open Go.RowKit Go.Conc
/-- a table, at t, that has nothing in common with F -/
def P1 (F : Nat → Prop) (w wr : World) (t : Nat) (s : St) : Prop :=
  ∃ (b : Nat) (c : Nat → Nat) (v : Value), Tk w wr t b c v s ∧ ∀ k, F k → ¬ OwnT t b c s.A.length v k ∧ k < wr.heap.size
section
variable {F : Nat → Prop} {w wr w' : World} {t : Nat} {s : St}
theorem P1.x (h : P1 F w wr t s) : Ext w wr := by
  obtain ⟨_, _, _, h, _⟩ := h
  exact h.x
theorem P1.n (h : P1 F w wr t s) : 1 ≤ s.A.length ∧ s.A.length ≤ 16 := by
  obtain ⟨_, _, _, h, _⟩ := h
  exact h.tab.n
theorem P1.nw (h : P1 F w wr t s) : 0 ≤ s.now ∧ s.now ≤ 1099511627776 := by
  obtain ⟨_, _, _, h, _⟩ := h
  exact h.tab.nw
theorem P1.ext (h : P1 F w wr t s) (x : Ext wr w') : P1 F w w' t s := by
  obtain ⟨_, _, _, h, hf⟩ := h
  exact ⟨_, _, _, h.ext x, fun k o => ⟨(hf k o).1, Nat.lt_of_lt_of_le (hf k o).2 x.size⟩⟩
theorem P1.mono {F' : Nat → Prop} (h : P1 F w wr t s) (k : ∀ b, F' b → F b) : P1 F' w wr t s := by
  obtain ⟨_, _, _, h, hf⟩ := h
  exact ⟨_, _, _, h, fun b o => hf b (k b o)⟩
/-- what is new behind wr -/
theorem P1.new {F' : Nat → Prop} (h : P1 F w wr t s) (x : Ext wr w') (hF : ∀ k, F' k → wr.heap.size ≤ k ∧ k < w'.heap.size) : P1 (fun k => F k ∨ F' k) w w' t s := by
  obtain ⟨_, _, _, h, hf⟩ := h
  refine ⟨_, _, _, h.ext x, fun k o => ?_⟩
  rcases o with o | o
  · exact ⟨(hf k o).1, Nat.lt_of_lt_of_le (hf k o).2 x.size⟩
  · refine ⟨fun o' => ?_, (hF k o).2⟩
    have := h.tab.lt k o'
    have := (hF k o).1
    omega
theorem P1.does {b : Nat} {c : Nat → Nat} {v v' : Value} {s' : St} (h : Tk w wr t b c v s) (hf : ∀ k, F k → ¬ OwnT t b c s.A.length v k ∧ k < wr.heap.size) (d : Does t b c v v' s s' wr w') : P1 F w w' t s' ∧ Keep F wr w' := by
  refine ⟨⟨b, c, v', h.does d, fun k o => ⟨fun o' => ?_, Nat.lt_of_lt_of_le (hf k o).2 d.turn.size⟩⟩, fun k j u o hc => d.turn.keepc (hf k o).1 hc⟩
  rcases OwnT.back d.len d.own o' with z | z
  · exact (hf k o).1 z
  · have := (hf k o).2; omega
theorem p1_wake (i : Int) (h : P1 F w wr t s) :
    Calls Try.prog 13 #[.pointer (some ⟨t, 0, none⟩), .int .i64 i] wr fun e w' => e = .returned (.int .i64 (werr s.A i)) ∧ P1 F w w' t { s with A := wk s.A i } ∧ Keep F wr w' := by
  obtain ⟨_, _, _, h, hf⟩ := h
  refine (wake_any i wr h.tab).mono ?_
  rintro e w' ⟨rfl, d⟩
  exact ⟨rfl, P1.does h hf d⟩
theorem p1_tick (n : Int) (h : P1 F w wr t s) (hn : tickOk s n) (hT : s.T ≤ 100000) :
    Calls Try.prog 24 #[.pointer (some ⟨t, 0, none⟩), .int .i64 n] wr fun e w' => e = .returned (.int .i64 0) ∧ P1 F w w' t (ticked s n) ∧ Keep F wr w' := by
  obtain ⟨_, _, _, h, hf⟩ := h
  refine (tick_any n wr h.tab hn hT).mono ?_
  rintro e w' ⟨rfl, v', d⟩
  exact ⟨rfl, P1.does h hf d⟩
theorem p1_tick_bad (n : Int) (h : P1 F w wr t s) (hn : ¬ tickOk s n) :
    Calls Try.prog 24 #[.pointer (some ⟨t, 0, none⟩), .int .i64 n] wr fun e w' => e = .returned (.int .i64 1) ∧ w' = wr := by
  obtain ⟨_, _, _, h, hf⟩ := h
  exact tick_bad n wr h.tab hn
theorem p1_now (h : P1 F w wr t s) :
    Calls Try.prog 25 #[.pointer (some ⟨t, 0, none⟩)] wr fun e w' => e = .returned (.int .i64 s.now) ∧ w' = wr := by
  obtain ⟨_, _, _, h, hf⟩ := h
  exact now_any wr h.tab
theorem row_g {B : Nat} {r : Value} {l : List Int} (h : wr.ownsRow B Ei 1 r l.length (nums l)) : ∃ a cap, r = .slice a l.length cap ∧ RdG (fun k => r.ownBlock = some k) wr (.slice a l.length cap) l := by
  obtain ⟨a, cap, rfl, _⟩ := row_shape h
  obtain ⟨a', cap', e, hr⟩ := rdi_row h
  refine ⟨a, cap, rfl, a', cap', e, fun j hj => ?_⟩
  obtain ⟨b, off, h1, h2⟩ := hr j hj
  simp only [Value.slice.injEq, true_and] at e
  refine ⟨b, off, h1, ?_, h2⟩
  rw [e.1, h1]; rfl
theorem p1_awake (h : P1 F w wr t s) :
    Calls Try.prog 26 #[.pointer (some ⟨t, 0, none⟩)] wr fun e w' => ∃ a cap, e = .returned (.slice a (ups s.A s.A.length).length cap) ∧ P1 (fun k => F k ∨ (Value.slice a (ups s.A s.A.length).length cap).ownBlock = some k) w w' t s ∧ RdG (fun k => (Value.slice a (ups s.A s.A.length).length cap).ownBlock = some k) w' (.slice a (ups s.A s.A.length).length cap) (ups s.A s.A.length) ∧ Ext wr w' := by
  have h' := h
  obtain ⟨_, _, _, h, hf⟩ := h
  refine (awake_any wr h.tab).mono ?_
  rintro e w' ⟨r, rfl, q1, q2⟩
  obtain ⟨a, cap, rfl, q3⟩ := row_g q1
  exact ⟨a, cap, rfl, h'.new q2 (fun k hk => q1.lt k hk), q3, q2⟩
theorem p1_run (most : Nat) (fn : Fn) (fa fc : Array Value) (told : Told) {I : Nat → World → Prop} (h : P1 F w wr t s) (hm : most ≤ 256) (hT : s.T + most ≤ 100000) (hf : ∀ t b c v n, (∀ k, F k → ¬ OwnT t b c n v k ∧ k < wr.heap.size) → Fair t b c v n (fun _ => False) I wr) (hI : I 0 wr) (ha : Asks (.func fn fa fc) told (fun _ => False) I s.A.length wr) (hl : ∀ k i, (told k i).1.length ≤ 100000 ∧ -9223372036854775808 ≤ (told k i).2 ∧ (told k i).2 ≤ 9223372036854775807) :
    Calls Try.prog 14 #[.pointer (some ⟨t, 0, none⟩), .int .i64 most, .func fn fa fc] wr fun e w' => ∃ a cap, e = .returned (.tuple #[.slice a (runs told most 0 s).1.length cap, .int .i64 0]) ∧ P1 (fun k => F k ∨ (Value.slice a (runs told most 0 s).1.length cap).ownBlock = some k) w w' t (runs told most 0 s).2.1 ∧ RdG (fun k => (Value.slice a (runs told most 0 s).1.length cap).ownBlock = some k) w' (.slice a (runs told most 0 s).1.length cap) (runs told most 0 s).1 ∧ Keep F wr w' := by
  obtain ⟨b, c, v, h, hff⟩ := h
  refine (run_any most fn fa fc told 0 wr hm h.tab hT (hf _ _ _ _ _ hff) hI ha hl).mono ?_
  rintro e w' ⟨a, cap, v', rfl, r⟩
  have d := r.plain
  obtain ⟨⟨_, _, _, q1, q2⟩, q3⟩ := P1.does h hff d
  obtain ⟨a', cap', e, q4⟩ := row_g r.row
  simp only [Value.slice.injEq, true_and] at e
  obtain ⟨rfl, rfl⟩ := e
  refine ⟨a, cap, rfl, ⟨b, c, v', h.does d, fun k z => ?_⟩, q4, q3⟩
  rcases z with z | z
  · refine ⟨fun o' => ?_, Nat.lt_of_lt_of_le (hff k z).2 d.turn.size⟩
    rcases OwnT.back d.len d.own o' with y | y
    · exact (hff k z).1 y
    · have := (hff k z).2; omega
  · refine ⟨?_, (r.row.lt k z).2⟩
    rw [d.len]; exact r.far k z
end
theorem p1_new (n : Nat) (F : Nat → Prop) (w0 w : World) (x : Ext w0 w) (h1 : 1 ≤ n) (h2 : n ≤ 16) (hF : ∀ k, F k → k < w.heap.size) :
    Calls Try.prog 7 #[.int .i64 n] w fun e w' => ∃ t, e = .returned (.tuple #[.pointer (some ⟨t, 0, none⟩), .int .i64 0]) ∧ P1 F w0 w' t ⟨List.replicate n false, [], 0, 0⟩ ∧ Ext w w' := by
  refine (new_tk n w0 w x h1 h2).mono ?_
  rintro e w' ⟨t, b, c, rfl, q1, q2, q3⟩
  refine ⟨t, rfl, ⟨b, c, _, q1, fun k o => ⟨fun o' => ?_, Nat.lt_of_lt_of_le (hF k o) q2.size⟩⟩, q2⟩
  have := q3 k (by simpa using o')
  have := hF k o
  omega
end Go.Proofs.Ytehphgpkhfokhaa
