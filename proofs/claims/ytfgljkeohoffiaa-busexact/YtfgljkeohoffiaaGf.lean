/- A device in memory. -/
import Derived.Test.YtfgljkeohoffiaaGe
namespace Go.Proofs.Ytfgljkeohoffiaa
open Go.RowKit Go.Conc
/-- how a device is -/
structure Dv where
  addr : Int
  id : Int
  list : List Raw
  next : Nat
  on : Bool
  per : Nat
  tk : Nat
  q : List Raw
  lost : Int
/-- the i-th sample -/
def smp (l : List Raw) (i : Nat) : Raw := l.getD i nought
def Dv.meas (s : Dv) : Dv :=
  if s.list.length = 0 then s else
  if s.q.length < 16 then { s with q := s.q ++ [smp s.list s.next], next := (s.next + 1) % s.list.length }
  else { s with lost := wrap64 (s.lost + 1), next := (s.next + 1) % s.list.length }
def Dv.tick (s : Dv) : Dv :=
  if s.on = true then (if s.per ≤ s.tk + 1 then Dv.meas { s with tk := 0 } else { s with tk := s.tk + 1 }) else s
def Dv.turn (s : Dv) (b : Bool) : Dv :=
  if b = true then (if s.on = true then s else { s with on := true, tk := 0 }) else { s with on := false, q := [] }
def Dv.reset (s : Dv) : Dv := { s.turn false with per := 1 }
def Dv.write (s : Dv) (reg : Nat) (x : Nat) : Dv :=
  if reg = 1 then s.turn (decide (x % 2 = 1)) else
  if reg = 2 then { s with per := if x = 0 then 256 else x } else
  if reg = 5 then (if x = 182 then s.reset else s) else s
def Dv.read (s : Dv) (reg : Nat) : Nat :=
  if reg = 0 then s.id.toNat else if reg = 1 then (if s.on = true then 1 else 0) else if reg = 2 then s.per % 256 else if reg = 3 then s.q.length else 0
/-- where a device lies -/
structure DA where
  p : Nat
  rp : Nat
  rd : Nat
  rc : Nat
  a : Option Addr
  lc : Nat
/-- what a device writes -/
def DO (x : DA) (k : Nat) : Prop := k = x.p ∨ k = x.rp ∨ k = x.rd ∨ k = x.rc
/-- what a device reads -/
def DL (x : DA) (n : Nat) (k : Nat) : Prop := DO x k ∨ (0 < n ∧ ∃ off, x.a = some ⟨k, off, none⟩)
/-- samples, one behind the other -/
def LR (w : World) (a : Option Addr) (l : List Raw) : Prop := ∀ i, i < l.length → ∃ b off, a = some ⟨b, off, none⟩ ∧ C4 w b (off + i * 4) (smp l i)
theorem LR.ext {w w' : World} {a : Option Addr} {l : List Raw} (h : LR w a l) (x : Ext w w') : LR w' a l := fun i hi => by
  obtain ⟨b, off, e, c⟩ := h i hi
  exact ⟨b, off, e, c.ext x⟩
theorem LR.tn {own : Nat → Prop} {w w' : World} {a : Option Addr} {l : List Raw} (h : LR w a l) (x : Tn own w w') (ho : ∀ k off, 0 < l.length → a = some ⟨k, off, none⟩ → ¬ own k) : LR w' a l := fun i hi => by
  obtain ⟨b, off, e, c⟩ := h i hi
  exact ⟨b, off, e, c.tn x (ho b off (by omega) e)⟩
/-- The device at x.p. -/
structure IsDev (w : World) (x : DA) (s : Dv) : Prop where
  c0 : w.cell? ⟨x.p, 0, none⟩ = some (.int .i64 s.addr)
  c1 : w.cell? ⟨x.p, 1, none⟩ = some (.int .i64 s.id)
  c2 : w.cell? ⟨x.p, 2, none⟩ = some (.slice x.a s.list.length x.lc)
  c3 : w.cell? ⟨x.p, 3, none⟩ = some (.int .i64 s.next)
  c4 : w.cell? ⟨x.p, 4, none⟩ = some (.bool s.on)
  c5 : w.cell? ⟨x.p, 5, none⟩ = some (.int .i64 s.per)
  c6 : w.cell? ⟨x.p, 6, none⟩ = some (.int .i64 s.tk)
  c7 : w.cell? ⟨x.p, 7, none⟩ = some (.pointer (some ⟨x.rp, 0, none⟩))
  c8 : w.cell? ⟨x.p, 8, none⟩ = some (.int .i64 s.lost)
  f : ∀ j, w.frozen? ⟨x.p, j, none⟩ = false
  li : LR w x.a s.list
  la : ∀ k off, 0 < s.list.length → x.a = some ⟨k, off, none⟩ → ¬ DO x k
  ring : Rq w x.rp x.rd x.rc 16 s.q
  ne : x.p ≠ x.rp ∧ x.p ≠ x.rd ∧ x.p ≠ x.rc
  n0 : 0 < s.list.length → s.next < s.list.length
  n1 : s.list.length ≤ 4096
  n2 : 1 ≤ s.per ∧ s.per ≤ 256
  n4 : 0 ≤ s.id ∧ s.id ≤ 255
section
variable {w w' : World} {x : DA} {s : Dv}
theorem frozen_tn {own : Nat → Prop} (t : Tn own w w') {b : Nat} (hb : b < w.heap.size) (ho : ¬ own b) (j : Nat) (hf : w.frozen? ⟨b, j, none⟩ = false) : w'.frozen? ⟨b, j, none⟩ = false := by
  rw [World.frozen?_of_block (w := w) (w' := w') (a := ⟨b, j, none⟩) (t.2 b hb ho)]; exact hf
theorem IsDev.tn {own : Nat → Prop} (h : IsDev w x s) (t : Tn own w w') (ho : ∀ k, DL x s.list.length k → ¬ own k) : IsDev w' x s := by
  have hp := ho x.p (.inl (.inl rfl))
  have hlt := World.block_lt_of_cell? w ⟨x.p, 0, none⟩ h.c0
  exact ⟨t.keepc hp h.c0, t.keepc hp h.c1, t.keepc hp h.c2, t.keepc hp h.c3, t.keepc hp h.c4, t.keepc hp h.c5, t.keepc hp h.c6, t.keepc hp h.c7, t.keepc hp h.c8,
    fun j => frozen_tn t hlt hp j (h.f j), h.li.tn t (fun k off h1 h2 => ho k (.inr ⟨h1, off, h2⟩)), h.la,
    h.ring.tn t (ho _ (.inl (.inr (.inl rfl)))) (ho _ (.inl (.inr (.inr (.inl rfl))))) (ho _ (.inl (.inr (.inr (.inr rfl))))), h.ne, h.n0, h.n1, h.n2, h.n4⟩
theorem IsDev.ext (h : IsDev w x s) (e : Ext w w') : IsDev w' x s := h.tn (own := fun _ => False) (Tn.of_ext e) (fun _ _ k => k)
theorem IsDev.quiet (h : IsDev w x s) (e : Quiet w w') : IsDev w' x s := h.ext e.ext
theorem IsDev.lt (h : IsDev w x s) : ∀ k, DL x s.list.length k → k < w.heap.size := by
  intro k o
  obtain ⟨l1, l2, l3⟩ := h.ring.lt
  rcases o with (rfl | rfl | rfl | rfl) | ⟨h0, off, e⟩
  · exact World.block_lt_of_cell? w ⟨x.p, 0, none⟩ h.c0
  · exact l1
  · exact l2
  · exact l3
  · obtain ⟨b, off', e', c⟩ := h.li 0 h0
    rw [e] at e'
    cases e'
    exact World.block_lt_of_cell? w ⟨k, off + 0 * 4, none⟩ c.1
/-- the ring alone has turned -/
theorem IsDev.ringed (h : IsDev w x s) {l : List Raw} (t : Turn x.rp x.rd x.rc w w') (hr : Rq w' x.rp x.rd x.rc 16 l) : IsDev w' x { s with q := l } ∧ Tn (DO x) w w' := by
  have t1 : Tn (fun k => k = x.rp ∨ k = x.rd ∨ k = x.rc) w w' := t.tn (.inl rfl) (.inr (.inl rfl)) (.inr (.inr rfl))
  have hp : ¬ (x.p = x.rp ∨ x.p = x.rd ∨ x.p = x.rc) := by have := h.ne; omega
  have hlt := World.block_lt_of_cell? w ⟨x.p, 0, none⟩ h.c0
  refine ⟨⟨t1.keepc hp h.c0, t1.keepc hp h.c1, t1.keepc hp h.c2, t1.keepc hp h.c3, t1.keepc hp h.c4, t1.keepc hp h.c5, t1.keepc hp h.c6, t1.keepc hp h.c7, t1.keepc hp h.c8,
    fun j => frozen_tn t1 hlt hp j (h.f j), h.li.tn t1 (fun k off h1 h2 o => h.la k off h1 h2 (.inr o)), h.la, hr, h.ne, h.n0, h.n1, h.n2, h.n4⟩, t1.mono (fun _ _ o => .inr o)⟩
theorem IsDev.kept (h : IsDev w x s) (j : Nat) (v : Value) : LR (w.setCell ⟨x.p, j, none⟩ v) x.a s.list ∧ Rq (w.setCell ⟨x.p, j, none⟩ v) x.rp x.rd x.rc 16 s.q ∧ Tn (DO x) w (w.setCell ⟨x.p, j, none⟩ v) := by
  have t : Tn (fun k => k = x.p) w (w.setCell ⟨x.p, j, none⟩ v) := (Tn.refl (fun k => k = x.p) w).set (.inl rfl) j v
  refine ⟨h.li.tn t (fun k off h1 h2 o => h.la k off h1 h2 (.inl o)), h.ring.tn t (fun e => h.ne.1 e.symm) (fun e => h.ne.2.1 e.symm) (fun e => h.ne.2.2 e.symm), t.mono (fun _ _ o => .inl o)⟩
theorem IsDev.setNext (h : IsDev w x s) (n : Nat) (hn : 0 < s.list.length → n < s.list.length) : IsDev (w.setCell ⟨x.p, 3, none⟩ (.int .i64 n)) x { s with next := n } := by
  obtain ⟨h1, h2, _⟩ := h.kept 3 (.int .i64 n)
  refine ⟨?_, ?_, ?_, ?_, ?_, ?_, ?_, ?_, ?_, ?_, h1, h.la, h2, h.ne, hn, h.n1, h.n2, h.n4⟩ <;> simp [go_sem, h.c0, h.c1, h.c2, h.c3, h.c4, h.c5, h.c6, h.c7, h.c8, h.f]
theorem IsDev.setOn (h : IsDev w x s) (n : Bool) : IsDev (w.setCell ⟨x.p, 4, none⟩ (.bool n)) x { s with on := n } := by
  obtain ⟨h1, h2, _⟩ := h.kept 4 (.bool n)
  refine ⟨?_, ?_, ?_, ?_, ?_, ?_, ?_, ?_, ?_, ?_, h1, h.la, h2, h.ne, h.n0, h.n1, h.n2, h.n4⟩ <;> simp [go_sem, h.c0, h.c1, h.c2, h.c3, h.c4, h.c5, h.c6, h.c7, h.c8, h.f]
theorem IsDev.setPer (h : IsDev w x s) (n : Nat) (hn : 1 ≤ n ∧ n ≤ 256) : IsDev (w.setCell ⟨x.p, 5, none⟩ (.int .i64 n)) x { s with per := n } := by
  obtain ⟨h1, h2, _⟩ := h.kept 5 (.int .i64 n)
  refine ⟨?_, ?_, ?_, ?_, ?_, ?_, ?_, ?_, ?_, ?_, h1, h.la, h2, h.ne, h.n0, h.n1, hn, h.n4⟩ <;> simp [go_sem, h.c0, h.c1, h.c2, h.c3, h.c4, h.c5, h.c6, h.c7, h.c8, h.f]
theorem IsDev.setTk (h : IsDev w x s) (n : Nat) : IsDev (w.setCell ⟨x.p, 6, none⟩ (.int .i64 n)) x { s with tk := n } := by
  obtain ⟨h1, h2, _⟩ := h.kept 6 (.int .i64 n)
  refine ⟨?_, ?_, ?_, ?_, ?_, ?_, ?_, ?_, ?_, ?_, h1, h.la, h2, h.ne, h.n0, h.n1, h.n2, h.n4⟩ <;> simp [go_sem, h.c0, h.c1, h.c2, h.c3, h.c4, h.c5, h.c6, h.c7, h.c8, h.f]
theorem IsDev.setLost (h : IsDev w x s) (n : Int) : IsDev (w.setCell ⟨x.p, 8, none⟩ (.int .i64 n)) x { s with lost := n } := by
  obtain ⟨h1, h2, _⟩ := h.kept 8 (.int .i64 n)
  refine ⟨?_, ?_, ?_, ?_, ?_, ?_, ?_, ?_, ?_, ?_, h1, h.la, h2, h.ne, h.n0, h.n1, h.n2, h.n4⟩ <;> simp [go_sem, h.c0, h.c1, h.c2, h.c3, h.c4, h.c5, h.c6, h.c7, h.c8, h.f]
end
/-- what a call has done to a device -/
def Dd (x : DA) (s' : Dv) (w w' : World) : Prop := IsDev w' x s' ∧ Tn (DO x) w w'
theorem Dd.trans {x : DA} {s s' : Dv} {a b c : World} (h : Dd x s a b) (k : Dd x s' b c) : Dd x s' a c := ⟨k.1, h.2.trans k.2 (fun _ _ o => o)⟩
theorem Dd.ext {x : DA} {s : Dv} {a b c : World} (h : Dd x s a b) (k : Ext b c) : Dd x s a c := ⟨h.1.ext k, h.2.more k⟩
theorem Dd.of_ext {x : DA} {s : Dv} {a b : World} (h : IsDev a x s) (k : Ext a b) : Dd x s a b := ⟨h.ext k, Tn.of_ext k⟩
set_option maxHeartbeats 2000000 in
theorem reset_walk (w : World) {x : DA} {s : Dv} (HT : Hid (Calls Try.prog 60 #[.pointer (some ⟨x.p, 0, none⟩), .bool false] w fun e w' => (∃ v, e = .returned v) ∧ Dd x (s.turn false) w w')) :
    Calls Try.prog 61 #[.pointer (some ⟨x.p, 0, none⟩)] w fun e w' => (∃ v, e = .returned v) ∧ Dd x s.reset w w' := by
  go_enter Try.func61, Try.ntmps61
  go_wp2_with (go_at_call 60; refine HT.out.mono ?_; rintro e w1 ⟨⟨u, rfl⟩, d1⟩; have c5 := d1.1.c5; have f5 := d1.1.f 5)
  go_end0
  exact ⟨⟨_, rfl⟩, d1.1.setPer 1 (by omega), d1.2.set (.inl (.inl rfl)) _ _⟩
set_option maxHeartbeats 2000000 in
theorem turn_any (w : World) {x : DA} {s : Dv} (h : IsDev w x s) (b : Bool) :
    Calls Try.prog 60 #[.pointer (some ⟨x.p, 0, none⟩), .bool b] w fun e w' => (∃ v, e = .returned v) ∧ Dd x (s.turn b) w w' := by
  cases b with
  | false =>
    have HC : Hid (Calls Try.prog 69 #[.pointer (some ⟨x.rp, 0, none⟩)] w fun e w' => (∃ v, e = .returned v) ∧ Dd x { s with q := [] } w w') := (clear_lq w h.ring).mono fun e w' ⟨he, hr, ht⟩ => ⟨he, h.ringed ht hr⟩
    have c7 := h.c7
    go_enter Try.func60, Try.ntmps60
    go_wp2_with (go_at_call 69; refine HC.out.mono ?_; rintro e w1 ⟨⟨u, rfl⟩, d1⟩; have d4 := d1.1.c4; have f4 := d1.1.f 4)
    go_end0
    exact ⟨⟨_, rfl⟩, d1.1.setOn false, d1.2.set (.inl (.inl rfl)) _ _⟩
  | true =>
    have c4 := h.c4
    have c6 := h.c6
    have f4 := h.f 4
    have f6 := h.f 6
    cases ho : s.on with
    | true =>
      rw [ho] at c4
      go_enter Try.func60, Try.ntmps60
      go_wp2_with fail
      go_end0
      have e : s.turn true = { s with on := true } := by
        unfold Dv.turn; rw [if_pos rfl, if_pos ho]; rw [← ho]
      rw [e]
      exact ⟨⟨_, rfl⟩, h.setOn true, (Tn.refl _ w).set (.inl (.inl rfl)) _ _⟩
    | false =>
      rw [ho] at c4
      have h2 := (h.setTk 0).setOn true
      go_enter Try.func60, Try.ntmps60
      go_wp2_with fail
      go_end0
      have e : s.turn true = { s with on := true, tk := 0 } := by
        unfold Dv.turn; rw [if_pos rfl, if_neg (by rw [ho]; simp)]
      rw [e]
      exact ⟨⟨_, rfl⟩, h2, ((Tn.refl _ w).set (.inl (.inl rfl)) _ _).set (.inl (.inl rfl)) _ _⟩
theorem reset_any (w : World) {x : DA} {s : Dv} (h : IsDev w x s) :
    Calls Try.prog 61 #[.pointer (some ⟨x.p, 0, none⟩)] w fun e w' => (∃ v, e = .returned v) ∧ Dd x s.reset w w' := reset_walk w (turn_any w h false)
end Go.Proofs.Ytfgljkeohoffiaa
