/- drv: transactions. -/
import Derived.Test.YtdfhhfpfnkjbnaaDb
namespace Go.Proofs.Ytdfhhfpfnkjbnaa
open Go.RowKit Go.Conc
abbrev txw (addr reg : Int) (a : Option Addr) (len c : Nat) (n : Int) : Value := .agg #[.int .i64 addr, .int .i64 reg, .slice a len c, .int .i64 n]
abbrev txo (addr reg : Int) (a : Option Addr) (len c : Nat) (n : Int) : Obj := .cells #[.int .i64 addr, .int .i64 reg, .slice a len c, .int .i64 n] 31
/-- bytes that lie from block B on -/
def RdY (w : World) (B : Nat) (a : Option Addr) (l : List Int) : Prop := ∀ j, j < l.length → ∃ b off, a = some ⟨b, off, none⟩ ∧ B ≤ b ∧ w.cell? ⟨b, off + j, none⟩ = some (.int .u8 (l.getD j 0))
theorem RdY.ext {w w' : World} {B : Nat} {a : Option Addr} {l : List Int} (h : RdY w B a l) (x : Ext w w') : RdY w' B a l := fun j hj => by
  obtain ⟨b, off, e, h1, h2⟩ := h j hj
  exact ⟨b, off, e, h1, x.keepc h2⟩
theorem RdY.mono {w : World} {B B' : Nat} {a : Option Addr} {l : List Int} (h : RdY w B a l) (x : B' ≤ B) : RdY w B' a l := fun j hj => by
  obtain ⟨b, off, e, h1, h2⟩ := h j hj
  exact ⟨b, off, e, by omega, h2⟩
theorem rdy_nil (w : World) (B : Nat) (a : Option Addr) : RdY w B a [] := fun _ hj => absurd hj (Nat.not_lt_zero _)
theorem rdy_one {w : World} {B g : Nat} {x : Int} (hg : B ≤ g) (h : w.cell? ⟨g, 0, none⟩ = some (.int .u8 x)) : RdY w B (some ⟨g, 0, none⟩) [x] := fun j hj => by
  have : j = 0 := by simp at hj; omega
  subst this
  exact ⟨g, 0, rfl, hg, h⟩
/-- its register, its bytes, how many are read -/
def txReg (st : Int) : Int := if st = 1 then 0 else if st = 2 then 2 else if st = 3 then 1 else if st = 4 then 3 else if st = 5 then 4 else if st = 6 then 1 else 5
def txWr (d : Dr) : List Int := if d.st = 2 then [IntKind.u8.wrap d.per] else if d.st = 3 then [1] else if d.st = 6 then [0] else if d.st = 7 then [182] else []
def txRd (d : Dr) : Int := if d.st = 1 then 1 else if d.st = 4 then 1 else if d.st = 5 then wrap64 (8 * d.left) else 0
set_option maxRecDepth 20000 in
set_option maxHeartbeats 1000000 in
theorem dread_any (d : Dr) (reg n : Int) (w : World) : Calls Try.prog 96 #[drv d, .int .i64 reg, .int .i64 n] w fun e w' => e = .returned (txw d.addr reg none 0 0 n) ∧ Ext w w' := by
  obtain ⟨addr, id, want, per, st, fails, tried, left, bad⟩ := d
  have hx : Ext w ((w.alloc (dro ⟨addr, id, want, per, st, fails, tried, left, bad⟩)).alloc (txo addr reg none 0 0 n)) := ((Ext.refl w).alloc _).alloc _
  go_enter Try.func96, Try.ntmps96
  go_wp2
  exact bodyPost_ret (v := txw addr reg none 0 0 n) (by simp [results, Try.results96, go_sem]) rfl ⟨rfl, hx⟩
set_option maxRecDepth 20000 in
set_option maxHeartbeats 1000000 in
theorem dwrite_any (d : Dr) (reg : Int) (x : Int) (w : World) : Calls Try.prog 97 #[drv d, .int .i64 reg, .int .u8 x] w fun e w' => ∃ g, e = .returned (txw d.addr reg (some ⟨g, 0, none⟩) 1 1 0) ∧ (w.heap.size ≤ g ∧ w'.cell? ⟨g, 0, none⟩ = some (.int .u8 x) ∧ Ext w w') := by
  obtain ⟨addr, id, want, per, st, fails, tried, left, bad⟩ := d
  go_enter Try.func97, Try.ntmps97
  go_wp2
  refine bodyPost_ret (v := txw addr reg (some ⟨w.heap.size + 1 + 1, 0, none⟩) 1 1 0) (by simp [results, Try.results97, go_sem]) rfl ⟨_, rfl, by omega, ?_, (((Ext.refl w).alloc _).alloc _).alloc _⟩
  simp [go_sem]
/-- a variable of four -/
def Q4 (w : World) (g : Nat) (a b c d : Value) : Prop :=
  (w.cell? ⟨g, 0, none⟩ = some a ∧ w.cell? ⟨g, 1, none⟩ = some b ∧ w.cell? ⟨g, 2, none⟩ = some c ∧ w.cell? ⟨g, 3, none⟩ = some d) ∧ w.frozen? ⟨g, 0, none⟩ = false ∧ w.frozen? ⟨g, 1, none⟩ = false ∧ w.frozen? ⟨g, 2, none⟩ = false ∧ w.frozen? ⟨g, 3, none⟩ = false
theorem q4_at {w : World} {g : Nat} {a b c d : Value} {T : TypeId} (h : w.heap.size = g) : Q4 (w.alloc (.cells #[a, b, c, d] T)) g a b c d := by
  subst h
  refine ⟨⟨?_, ?_, ?_, ?_⟩, ?_, ?_, ?_, ?_⟩ <;> simp [go_sem]
theorem Q4.ext {w w' : World} {g : Nat} {a b c d : Value} (h : Q4 w g a b c d) (x : Ext w w') : Q4 w' g a b c d := by
  obtain ⟨⟨h0, h1, h2, h3⟩, f0, f1, f2, f3⟩ := h
  exact ⟨⟨x.keepc h0, x.keepc h1, x.keepc h2, x.keepc h3⟩, x.keepf h0 f0, x.keepf h1 f1, x.keepf h2 f2, x.keepf h3 f3⟩
def putQ (w : World) (g : Nat) (a b c d : Value) : World := (((w.setCell ⟨g, 0, none⟩ a).setCell ⟨g, 1, none⟩ b).setCell ⟨g, 2, none⟩ c).setCell ⟨g, 3, none⟩ d
theorem Ext.putQ {a w : World} {g : Nat} (h : Ext a w) (hg : a.heap.size ≤ g) (x y z u : Value) : Ext a (putQ w g x y z u) := (((h.new hg _ _).new hg _ _).new hg _ _).new hg _ _
theorem Q4.put {w : World} {g : Nat} {a b c d : Value} (h : Q4 w g a b c d) (a' b' c' d' : Value) : Q4 (putQ w g a' b' c' d') g a' b' c' d' := by
  obtain ⟨⟨h0, h1, h2, h3⟩, f0, f1, f2, f3⟩ := h
  refine ⟨⟨?_, ?_, ?_, ?_⟩, ?_, ?_, ?_, ?_⟩ <;> simp [Go.Proofs.Ytdfhhfpfnkjbnaa.putQ, go_sem, h0, h1, h2, h3, f0, f1, f2, f3]
abbrev tx0 : Obj := txo 0 0 none 0 0 0
/-- what a driver's ask tells -/
def AskC (f : FuncId) (d : Dr) : Prop := ∀ w, Calls Try.prog f #[drv d] w fun e w' => ∃ a c, e = .returned (txw d.addr (txReg d.st) a (txWr d).length c (txRd d)) ∧ RdY w' w.heap.size a (txWr d) ∧ Ext w w'
set_option maxRecDepth 20000 in
set_option maxHeartbeats 1000000 in
theorem ask1_any (d : Dr) (hk : d.st = 1) : AskC 69 d := fun w => by
  obtain ⟨addr, id, want, per, st, fails, tried, left, bad⟩ := d
  simp only at hk
  subst hk
  show Calls Try.prog 69 #[drv ⟨addr, id, want, per, 1, fails, tried, left, bad⟩] w fun e w' => ∃ a c, e = .returned (txw addr 0 a 0 c 1) ∧ RdY w' w.heap.size a [] ∧ Ext w w'
  have hx : Ext w ((w.alloc (dro ⟨addr, id, want, per, 1, fails, tried, left, bad⟩)).alloc tx0) := ((Ext.refl w).alloc _).alloc _
  have hq : Hid (Q4 ((w.alloc (dro ⟨addr, id, want, per, 1, fails, tried, left, bad⟩)).alloc tx0) (w.heap.size + 1) (.int .i64 0) (.int .i64 0) (.slice none 0 0) (.int .i64 0)) := q4_at (by simp)
  have HR := dread_any ⟨addr, id, want, per, 1, fails, tried, left, bad⟩ 0 1 ((w.alloc (dro ⟨addr, id, want, per, 1, fails, tried, left, bad⟩)).alloc tx0)
  go_enter Try.func69, Try.ntmps69
  go_wp2_with (go_at_call 96; refine HR.mono ?_; rintro e w2 ⟨rfl, x2⟩; obtain ⟨⟨q0, q1, q2, q3⟩, f0, f1, f2, f3⟩ := hq.out.ext x2)
  have hx9 : Ext w (putQ w2 (w.heap.size + 1) (.int .i64 addr) (.int .i64 0) (.slice none 0 0) (.int .i64 1)) := (hx.trans x2).putQ (Nat.le_succ _) _ _ _ _
  refine bodyPost_ret (v := txw addr 0 none 0 0 1) (by simp [results, Try.results69, go_sem, q0, q1, q2, q3]) rfl ⟨_, _, rfl, ?_, hx9⟩
  exact rdy_nil _ _ _
set_option maxRecDepth 20000 in
set_option maxHeartbeats 1000000 in
theorem ask2_any (d : Dr) (hk : d.st = 2) : AskC 72 d := fun w => by
  obtain ⟨addr, id, want, per, st, fails, tried, left, bad⟩ := d
  simp only at hk
  subst hk
  show Calls Try.prog 72 #[drv ⟨addr, id, want, per, 2, fails, tried, left, bad⟩] w fun e w' => ∃ a c, e = .returned (txw addr 2 a 1 c 0) ∧ RdY w' w.heap.size a [IntKind.u8.wrap per] ∧ Ext w w'
  have hx : Ext w ((w.alloc (dro ⟨addr, id, want, per, 2, fails, tried, left, bad⟩)).alloc tx0) := ((Ext.refl w).alloc _).alloc _
  have hq : Hid (Q4 ((w.alloc (dro ⟨addr, id, want, per, 2, fails, tried, left, bad⟩)).alloc tx0) (w.heap.size + 1) (.int .i64 0) (.int .i64 0) (.slice none 0 0) (.int .i64 0)) := q4_at (by simp)
  have HR := dwrite_any ⟨addr, id, want, per, 2, fails, tried, left, bad⟩ 2 (IntKind.u8.wrap per) ((w.alloc (dro ⟨addr, id, want, per, 2, fails, tried, left, bad⟩)).alloc tx0)
  go_enter Try.func72, Try.ntmps72
  go_wp2_with (go_at_call 97; refine HR.mono ?_; rintro e w2 ⟨g, rfl, hg, hc, x2⟩; obtain ⟨⟨q0, q1, q2, q3⟩, f0, f1, f2, f3⟩ := hq.out.ext x2)
  have hx9 : Ext w (putQ w2 (w.heap.size + 1) (.int .i64 addr) (.int .i64 2) (.slice (some ⟨g, 0, none⟩) 1 1) (.int .i64 0)) := (hx.trans x2).putQ (Nat.le_succ _) _ _ _ _
  refine bodyPost_ret (v := txw addr 2 (some ⟨g, 0, none⟩) 1 1 0) (by simp [results, Try.results72, go_sem, q0, q1, q2, q3]) rfl ⟨_, _, rfl, ?_, hx9⟩
  have hg2 : w.heap.size + 1 + 1 ≤ g := by simpa using hg
  have ng : ¬ w.heap.size + 1 = g := by omega
  exact rdy_one (by omega) (by rw [← hc]; refine World.cell?_of_block (a := ⟨g, 0, none⟩) ?_; rw [heap_setCell_far _ _ _ _ _ ng, heap_setCell_far _ _ _ _ _ ng, heap_setCell_far _ _ _ _ _ ng, heap_setCell_far _ _ _ _ _ ng])
set_option maxRecDepth 20000 in
set_option maxHeartbeats 1000000 in
theorem ask3_any (d : Dr) (hk : d.st = 3) : AskC 75 d := fun w => by
  obtain ⟨addr, id, want, per, st, fails, tried, left, bad⟩ := d
  simp only at hk
  subst hk
  show Calls Try.prog 75 #[drv ⟨addr, id, want, per, 3, fails, tried, left, bad⟩] w fun e w' => ∃ a c, e = .returned (txw addr 1 a 1 c 0) ∧ RdY w' w.heap.size a [1] ∧ Ext w w'
  have hx : Ext w ((w.alloc (dro ⟨addr, id, want, per, 3, fails, tried, left, bad⟩)).alloc tx0) := ((Ext.refl w).alloc _).alloc _
  have hq : Hid (Q4 ((w.alloc (dro ⟨addr, id, want, per, 3, fails, tried, left, bad⟩)).alloc tx0) (w.heap.size + 1) (.int .i64 0) (.int .i64 0) (.slice none 0 0) (.int .i64 0)) := q4_at (by simp)
  have HR := dwrite_any ⟨addr, id, want, per, 3, fails, tried, left, bad⟩ 1 1 ((w.alloc (dro ⟨addr, id, want, per, 3, fails, tried, left, bad⟩)).alloc tx0)
  go_enter Try.func75, Try.ntmps75
  go_wp2_with (go_at_call 97; refine HR.mono ?_; rintro e w2 ⟨g, rfl, hg, hc, x2⟩; obtain ⟨⟨q0, q1, q2, q3⟩, f0, f1, f2, f3⟩ := hq.out.ext x2)
  have hx9 : Ext w (putQ w2 (w.heap.size + 1) (.int .i64 addr) (.int .i64 1) (.slice (some ⟨g, 0, none⟩) 1 1) (.int .i64 0)) := (hx.trans x2).putQ (Nat.le_succ _) _ _ _ _
  refine bodyPost_ret (v := txw addr 1 (some ⟨g, 0, none⟩) 1 1 0) (by simp [results, Try.results75, go_sem, q0, q1, q2, q3]) rfl ⟨_, _, rfl, ?_, hx9⟩
  have hg2 : w.heap.size + 1 + 1 ≤ g := by simpa using hg
  have ng : ¬ w.heap.size + 1 = g := by omega
  exact rdy_one (by omega) (by rw [← hc]; refine World.cell?_of_block (a := ⟨g, 0, none⟩) ?_; rw [heap_setCell_far _ _ _ _ _ ng, heap_setCell_far _ _ _ _ _ ng, heap_setCell_far _ _ _ _ _ ng, heap_setCell_far _ _ _ _ _ ng])
set_option maxRecDepth 20000 in
set_option maxHeartbeats 1000000 in
theorem ask4_any (d : Dr) (hk : d.st = 4) : AskC 77 d := fun w => by
  obtain ⟨addr, id, want, per, st, fails, tried, left, bad⟩ := d
  simp only at hk
  subst hk
  show Calls Try.prog 77 #[drv ⟨addr, id, want, per, 4, fails, tried, left, bad⟩] w fun e w' => ∃ a c, e = .returned (txw addr 3 a 0 c 1) ∧ RdY w' w.heap.size a [] ∧ Ext w w'
  have hx : Ext w ((w.alloc (dro ⟨addr, id, want, per, 4, fails, tried, left, bad⟩)).alloc tx0) := ((Ext.refl w).alloc _).alloc _
  have hq : Hid (Q4 ((w.alloc (dro ⟨addr, id, want, per, 4, fails, tried, left, bad⟩)).alloc tx0) (w.heap.size + 1) (.int .i64 0) (.int .i64 0) (.slice none 0 0) (.int .i64 0)) := q4_at (by simp)
  have HR := dread_any ⟨addr, id, want, per, 4, fails, tried, left, bad⟩ 3 1 ((w.alloc (dro ⟨addr, id, want, per, 4, fails, tried, left, bad⟩)).alloc tx0)
  go_enter Try.func77, Try.ntmps77
  go_wp2_with (go_at_call 96; refine HR.mono ?_; rintro e w2 ⟨rfl, x2⟩; obtain ⟨⟨q0, q1, q2, q3⟩, f0, f1, f2, f3⟩ := hq.out.ext x2)
  have hx9 : Ext w (putQ w2 (w.heap.size + 1) (.int .i64 addr) (.int .i64 3) (.slice none 0 0) (.int .i64 1)) := (hx.trans x2).putQ (Nat.le_succ _) _ _ _ _
  refine bodyPost_ret (v := txw addr 3 none 0 0 1) (by simp [results, Try.results77, go_sem, q0, q1, q2, q3]) rfl ⟨_, _, rfl, ?_, hx9⟩
  exact rdy_nil _ _ _
set_option maxRecDepth 20000 in
set_option maxHeartbeats 1000000 in
theorem ask5_any (d : Dr) (hk : d.st = 5) : AskC 80 d := fun w => by
  obtain ⟨addr, id, want, per, st, fails, tried, left, bad⟩ := d
  simp only at hk
  subst hk
  show Calls Try.prog 80 #[drv ⟨addr, id, want, per, 5, fails, tried, left, bad⟩] w fun e w' => ∃ a c, e = .returned (txw addr 4 a 0 c (wrap64 (8 * left))) ∧ RdY w' w.heap.size a [] ∧ Ext w w'
  have hx : Ext w ((w.alloc (dro ⟨addr, id, want, per, 5, fails, tried, left, bad⟩)).alloc tx0) := ((Ext.refl w).alloc _).alloc _
  have hq : Hid (Q4 ((w.alloc (dro ⟨addr, id, want, per, 5, fails, tried, left, bad⟩)).alloc tx0) (w.heap.size + 1) (.int .i64 0) (.int .i64 0) (.slice none 0 0) (.int .i64 0)) := q4_at (by simp)
  have HR := dread_any ⟨addr, id, want, per, 5, fails, tried, left, bad⟩ 4 (wrap64 (8 * left)) ((w.alloc (dro ⟨addr, id, want, per, 5, fails, tried, left, bad⟩)).alloc tx0)
  go_enter Try.func80, Try.ntmps80
  go_wp2_with (go_at_call 96; refine HR.mono ?_; rintro e w2 ⟨rfl, x2⟩; obtain ⟨⟨q0, q1, q2, q3⟩, f0, f1, f2, f3⟩ := hq.out.ext x2)
  have hx9 : Ext w (putQ w2 (w.heap.size + 1) (.int .i64 addr) (.int .i64 4) (.slice none 0 0) (.int .i64 (wrap64 (8 * left)))) := (hx.trans x2).putQ (Nat.le_succ _) _ _ _ _
  refine bodyPost_ret (v := txw addr 4 none 0 0 (wrap64 (8 * left))) (by simp [results, Try.results80, go_sem, q0, q1, q2, q3]) rfl ⟨_, _, rfl, ?_, hx9⟩
  exact rdy_nil _ _ _
set_option maxRecDepth 20000 in
set_option maxHeartbeats 1000000 in
theorem ask6_any (d : Dr) (hk : d.st = 6) : AskC 82 d := fun w => by
  obtain ⟨addr, id, want, per, st, fails, tried, left, bad⟩ := d
  simp only at hk
  subst hk
  show Calls Try.prog 82 #[drv ⟨addr, id, want, per, 6, fails, tried, left, bad⟩] w fun e w' => ∃ a c, e = .returned (txw addr 1 a 1 c 0) ∧ RdY w' w.heap.size a [0] ∧ Ext w w'
  have hx : Ext w ((w.alloc (dro ⟨addr, id, want, per, 6, fails, tried, left, bad⟩)).alloc tx0) := ((Ext.refl w).alloc _).alloc _
  have hq : Hid (Q4 ((w.alloc (dro ⟨addr, id, want, per, 6, fails, tried, left, bad⟩)).alloc tx0) (w.heap.size + 1) (.int .i64 0) (.int .i64 0) (.slice none 0 0) (.int .i64 0)) := q4_at (by simp)
  have HR := dwrite_any ⟨addr, id, want, per, 6, fails, tried, left, bad⟩ 1 0 ((w.alloc (dro ⟨addr, id, want, per, 6, fails, tried, left, bad⟩)).alloc tx0)
  go_enter Try.func82, Try.ntmps82
  go_wp2_with (go_at_call 97; refine HR.mono ?_; rintro e w2 ⟨g, rfl, hg, hc, x2⟩; obtain ⟨⟨q0, q1, q2, q3⟩, f0, f1, f2, f3⟩ := hq.out.ext x2)
  have hx9 : Ext w (putQ w2 (w.heap.size + 1) (.int .i64 addr) (.int .i64 1) (.slice (some ⟨g, 0, none⟩) 1 1) (.int .i64 0)) := (hx.trans x2).putQ (Nat.le_succ _) _ _ _ _
  refine bodyPost_ret (v := txw addr 1 (some ⟨g, 0, none⟩) 1 1 0) (by simp [results, Try.results82, go_sem, q0, q1, q2, q3]) rfl ⟨_, _, rfl, ?_, hx9⟩
  have hg2 : w.heap.size + 1 + 1 ≤ g := by simpa using hg
  have ng : ¬ w.heap.size + 1 = g := by omega
  exact rdy_one (by omega) (by rw [← hc]; refine World.cell?_of_block (a := ⟨g, 0, none⟩) ?_; rw [heap_setCell_far _ _ _ _ _ ng, heap_setCell_far _ _ _ _ _ ng, heap_setCell_far _ _ _ _ _ ng, heap_setCell_far _ _ _ _ _ ng])
set_option maxRecDepth 20000 in
set_option maxHeartbeats 1000000 in
theorem ask7_any (d : Dr) (hk : d.st = 7) : AskC 84 d := fun w => by
  obtain ⟨addr, id, want, per, st, fails, tried, left, bad⟩ := d
  simp only at hk
  subst hk
  show Calls Try.prog 84 #[drv ⟨addr, id, want, per, 7, fails, tried, left, bad⟩] w fun e w' => ∃ a c, e = .returned (txw addr 5 a 1 c 0) ∧ RdY w' w.heap.size a [182] ∧ Ext w w'
  have hx : Ext w ((w.alloc (dro ⟨addr, id, want, per, 7, fails, tried, left, bad⟩)).alloc tx0) := ((Ext.refl w).alloc _).alloc _
  have hq : Hid (Q4 ((w.alloc (dro ⟨addr, id, want, per, 7, fails, tried, left, bad⟩)).alloc tx0) (w.heap.size + 1) (.int .i64 0) (.int .i64 0) (.slice none 0 0) (.int .i64 0)) := q4_at (by simp)
  have HR := dwrite_any ⟨addr, id, want, per, 7, fails, tried, left, bad⟩ 5 182 ((w.alloc (dro ⟨addr, id, want, per, 7, fails, tried, left, bad⟩)).alloc tx0)
  go_enter Try.func84, Try.ntmps84
  go_wp2_with (go_at_call 97; refine HR.mono ?_; rintro e w2 ⟨g, rfl, hg, hc, x2⟩; obtain ⟨⟨q0, q1, q2, q3⟩, f0, f1, f2, f3⟩ := hq.out.ext x2)
  have hx9 : Ext w (putQ w2 (w.heap.size + 1) (.int .i64 addr) (.int .i64 5) (.slice (some ⟨g, 0, none⟩) 1 1) (.int .i64 0)) := (hx.trans x2).putQ (Nat.le_succ _) _ _ _ _
  refine bodyPost_ret (v := txw addr 5 (some ⟨g, 0, none⟩) 1 1 0) (by simp [results, Try.results84, go_sem, q0, q1, q2, q3]) rfl ⟨_, _, rfl, ?_, hx9⟩
  have hg2 : w.heap.size + 1 + 1 ≤ g := by simpa using hg
  have ng : ¬ w.heap.size + 1 = g := by omega
  exact rdy_one (by omega) (by rw [← hc]; refine World.cell?_of_block (a := ⟨g, 0, none⟩) ?_; rw [heap_setCell_far _ _ _ _ _ ng, heap_setCell_far _ _ _ _ _ ng, heap_setCell_far _ _ _ _ _ ng, heap_setCell_far _ _ _ _ _ ng])
end Go.Proofs.Ytdfhhfpfnkjbnaa
