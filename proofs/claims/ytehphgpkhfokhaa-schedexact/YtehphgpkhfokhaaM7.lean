/- wakes. -/
import Derived.Test.YtehphgpkhfokhaaL7
namespace Go.Proofs.Ytehphgpkhfokhaa
open Go.RowKit Go.Conc
/-- a table that was not there in w: nothing that was there has turned -/
structure Tk (w wr : World) (t b : Nat) (c : Nat → Nat) (v : Value) (s : St) : Prop where
  tab : Tab wr t b c v s
  x : Ext w wr
  o : ∀ k, OwnT t b c s.A.length v k → w.heap.size ≤ k
section
variable {w wr w' : World} {t b : Nat} {c : Nat → Nat} {v v' : Value} {s s' : St}
theorem Tk.ext (h : Tk w wr t b c v s) (x : Ext wr w') : Tk w w' t b c v s := ⟨h.tab.ext x, h.x.trans x, h.o⟩
theorem Tk.does (h : Tk w wr t b c v s) (d : Does t b c v v' s s' wr w') : Tk w w' t b c v' s' := by
  refine ⟨d.tab, d.turn.below h.x (fun k _ o => h.o k o), fun k o => ?_⟩
  rcases o with o | o | ⟨i, hi, o⟩ | o
  · exact h.o k (.inl o)
  · exact h.o k (.inr (.inl o))
  · exact h.o k (.inr (.inr (.inl ⟨i, by rw [← d.len]; exact hi, o⟩)))
  · rcases d.own k o with z | z
    · exact h.o k (.inr (.inr (.inr z)))
    · have := h.x.size; omega
end
theorem new_tk (n : Nat) (w0 w : World) (x : Ext w0 w) (h1 : 1 ≤ n) (h2 : n ≤ 16) :
    Calls Try.prog 7 #[.int .i64 n] w fun e w' => ∃ t b c, e = .returned (.tuple #[.pointer (some ⟨t, 0, none⟩), .int .i64 0]) ∧ Tk w0 w' t b c (.slice none 0 0) ⟨List.replicate n false, [], 0, 0⟩ ∧ Ext w w' ∧ ∀ k, OwnT t b c n (.slice none 0 0) k → w.heap.size ≤ k := by
  refine (snew_any n w h1 h2).mono ?_
  rintro e w' ⟨t, b, c, rfl, q1, q2, q3⟩
  exact ⟨t, b, c, rfl, ⟨q1, x.trans q2, fun k o => by have := q3 k (by simpa using o); have := x.size; omega⟩, q2, q3⟩
theorem asks_wakes (n : Nat) (w : World) : Asks (.func (.func 34) #[] #[]) (fun _ _ => ([], 0)) (fun _ => False) (fun _ _ => True) n w := by
  intro k i wr _ _ _
  refine (ask_wakes (i : Int) wr (R := fun a n cp x w' => a = none ∧ n = 0 ∧ cp = 0 ∧ x = 0 ∧ w' = wr) ?_).mono ?_
  · go_enter Try.func34, Try.ntmps34
    go_wp2_with fail
    exact bodyPost_ret (v := .tuple #[.slice none 0 0, .int .i64 0]) (by simp [results, Try.results34, go_sem]) rfl ⟨none, 0, 0, 0, rfl, rfl, rfl, rfl, rfl, rfl⟩
  · rintro e w' ⟨a, n, cp, x, rfl, rfl, rfl, rfl, rfl, rfl⟩
    exact ⟨none, 0, rfl, rdf_none _ _, trivial, Turn.refl _ _⟩
set_option maxRecDepth 20000 in
set_option maxHeartbeats 2000000 in
theorem wakes_any (w : World) : Calls Try.prog 9 #[] w fun e w' => e = .returned (.bool true) ∧ Ext w w' := by
  have HW := new_tk 2 w w (Ext.refl w) (by omega) (by omega)
  have HN : Hid (∀ v w', Calls Try.prog 8 #[.int .i64 v] w' fun e w'' => e = .returned (.int .i64 v) ∧ w'' = w') := num_any
  have H1 : Hid (∀ w1 t b c, Tk w w1 t b c (.slice none 0 0) ⟨List.replicate 2 false, [], 0, 0⟩ → Calls Try.prog 13 #[.pointer (some ⟨t, 0, none⟩), .int .i64 1] w1 fun e w' => e = .returned (.int .i64 0) ∧ Hid (Tk w w' t b c (.slice none 0 0) ⟨[false, true], [], 0, 0⟩)) := fun w1 t b c h => by
    refine (wake_any 1 w1 h.tab).mono ?_
    rintro e w' ⟨rfl, d⟩
    exact ⟨rfl, h.does d⟩
  have H2 : Hid (∀ w1 t b c, Tk w w1 t b c (.slice none 0 0) ⟨[false, true], [], 0, 0⟩ → Calls Try.prog 14 #[.pointer (some ⟨t, 0, none⟩), .int .i64 5, .func (.func 34) #[] #[]] w1 fun e w' => ∃ a cap, e = .returned (.tuple #[.slice a 1 cap, .int .i64 0]) ∧ Hid (RdI w' (.slice a 1 cap) [1] ∧ Ext w w')) := fun w1 t b c h => by
    have hr : runs (fun _ _ => ([], 0)) 5 0 ⟨[false, true], [], 0, 0⟩ = ([1], ⟨[false, false], [], 0, 0⟩, 1) := rfl
    refine (run_any 5 (.func 34) #[] #[] (fun _ _ => ([], 0)) 0 w1 (by omega) h.tab (by simp) fair_true trivial (asks_wakes _ _) (fun _ _ => by simp)).mono ?_
    rintro e w' ⟨a, cap, v', rfl, q⟩
    rw [hr] at q ⊢
    exact ⟨a, cap, rfl, rdi_row q.row, (h.does q.plain).x⟩
  have H3 : Hid (∀ w3 a cap, RdI w3 (.slice a 1 cap) [1] → Calls Try.prog 21 #[.slice a 1 cap, .slice (some ⟨w3.heap.size, 0, none⟩) 1 1] (w3.alloc (.cells #[.int .i64 1] 3)) fun e w' => e = .returned (.bool true) ∧ Ext w3 w') := fun w3 a cap h => by
    have x : Ext w3 (w3.alloc (.cells #[.int .i64 1] 3)) := (Ext.refl w3).alloc _
    refine (eq_nums (l := [1]) _ _ _ (h.ext x) ⟨_, 1, rfl, fun j hj => ?_⟩ (by simp)).mono ?_
    · have hj0 : j = 0 := by simp at hj; omega
      subst hj0
      exact ⟨_, _, rfl, by simp [go_sem, gi]⟩
    · rintro e w' ⟨rfl, y⟩
      exact ⟨rfl, x.trans y⟩
  have hmf : ∀ (fn : Fn) (first cap : Array Value) (w : World), (Instr.makeFunc fn first cap).run Try.prog w = .ok (.func fn first cap) w := fun _ _ _ _ => rfl
  go_enter Try.func9, Try.ntmps9
  go_wp2_with (first | (go_at_call 7; refine HW.mono ?_; rintro e w1 ⟨t, b, c, rfl, r1, _, _⟩) | (go_at_call 8; refine (HN.out _ _).mono ?_; rintro e wx ⟨rfl, hwx⟩; have hwy := hwx.symm; clear hwx; subst hwy) | (go_at_call 13; refine (H1.out _ _ _ _ r1).mono ?_; rintro e w2 ⟨rfl, r2⟩) | (go_at_call 14; refine (H2.out _ _ _ _ r2.out).mono ?_; rintro e w3 ⟨a, cap, rfl, r3⟩) | (go_at_call 21; refine (H3.out _ _ _ r3.out.1).mono ?_; rintro e w4 ⟨rfl, r4⟩))
  go_ret
  exact ⟨by simp, r3.out.2.trans r4⟩
end Go.Proofs.Ytehphgpkhfokhaa
