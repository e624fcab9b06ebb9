/- drv: a driver, and what may be one. -/
import Derived.Test.YtdfhhfpfnkjbnaaWi
namespace Go.Proofs.Ytdfhhfpfnkjbnaa
open Go.RowKit Go.Conc
/-- a driver -/
structure Dr where
  addr : Int
  id : Int
  want : Bool
  per : Int
  st : Int
  fails : Int
  tried : Bool
  left : Int
  bad : Int
abbrev drv (d : Dr) : Value := .agg #[.int .i64 d.addr, .int .i64 d.id, .bool d.want, .int .i64 d.per, .int .i64 d.st, .int .i64 d.fails, .bool d.tried, .int .i64 d.left, .int .i64 d.bad]
abbrev dro (d : Dr) : Obj := .cells #[.int .i64 d.addr, .int .i64 d.id, .bool d.want, .int .i64 d.per, .int .i64 d.st, .int .i64 d.fails, .bool d.tried, .int .i64 d.left, .int .i64 d.bad] 24
def zeroD : Dr := ⟨0, 0, false, 0, 0, 0, false, 0, 0⟩
/-- nine cells that hold a driver -/
def D9 (w : World) (b o : Nat) (d : Dr) : Prop :=
  w.cell? ⟨b, o, none⟩ = some (.int .i64 d.addr) ∧ w.cell? ⟨b, o + 1, none⟩ = some (.int .i64 d.id) ∧ w.cell? ⟨b, o + 2, none⟩ = some (.bool d.want) ∧ w.cell? ⟨b, o + 3, none⟩ = some (.int .i64 d.per) ∧ w.cell? ⟨b, o + 4, none⟩ = some (.int .i64 d.st) ∧ w.cell? ⟨b, o + 5, none⟩ = some (.int .i64 d.fails) ∧ w.cell? ⟨b, o + 6, none⟩ = some (.bool d.tried) ∧ w.cell? ⟨b, o + 7, none⟩ = some (.int .i64 d.left) ∧ w.cell? ⟨b, o + 8, none⟩ = some (.int .i64 d.bad)
/-- they may be written -/
def F9 (w : World) (b : Nat) : Prop :=
  w.frozen? ⟨b, 0, none⟩ = false ∧ w.frozen? ⟨b, 1, none⟩ = false ∧ w.frozen? ⟨b, 2, none⟩ = false ∧ w.frozen? ⟨b, 3, none⟩ = false ∧ w.frozen? ⟨b, 4, none⟩ = false ∧ w.frozen? ⟨b, 5, none⟩ = false ∧ w.frozen? ⟨b, 6, none⟩ = false ∧ w.frozen? ⟨b, 7, none⟩ = false ∧ w.frozen? ⟨b, 8, none⟩ = false
/-- a variable of a driver -/
def DV (w : World) (b : Nat) (d : Dr) : Prop := D9 w b 0 d ∧ F9 w b
theorem D9.ext {w w' : World} {b o : Nat} {d : Dr} (h : D9 w b o d) (x : Ext w w') : D9 w' b o d := by
  obtain ⟨h0, h1, h2, h3, h4, h5, h6, h7, h8⟩ := h
  exact ⟨x.keepc h0, x.keepc h1, x.keepc h2, x.keepc h3, x.keepc h4, x.keepc h5, x.keepc h6, x.keepc h7, x.keepc h8⟩
theorem DV.ext {w w' : World} {b : Nat} {d : Dr} (h : DV w b d) (x : Ext w w') : DV w' b d := by
  obtain ⟨⟨h0, h1, h2, h3, h4, h5, h6, h7, h8⟩, f0, f1, f2, f3, f4, f5, f6, f7, f8⟩ := h
  exact ⟨⟨x.keepc h0, x.keepc h1, x.keepc h2, x.keepc h3, x.keepc h4, x.keepc h5, x.keepc h6, x.keepc h7, x.keepc h8⟩, x.keepf h0 f0, x.keepf h1 f1, x.keepf h2 f2, x.keepf h3 f3, x.keepf h4 f4, x.keepf h5 f5, x.keepf h6 f6, x.keepf h7 f7, x.keepf h8 f8⟩
theorem dv_at {w : World} {b : Nat} {T : TypeId} (h : w.heap.size = b) (d : Dr) : DV (w.alloc (.cells #[.int .i64 d.addr, .int .i64 d.id, .bool d.want, .int .i64 d.per, .int .i64 d.st, .int .i64 d.fails, .bool d.tried, .int .i64 d.left, .int .i64 d.bad] T)) b d := by
  subst h
  refine ⟨⟨?_, ?_, ?_, ?_, ?_, ?_, ?_, ?_, ?_⟩, ?_, ?_, ?_, ?_, ?_, ?_, ?_, ?_, ?_⟩ <;> simp [go_sem]
theorem DV.lt {w : World} {b : Nat} {d : Dr} (h : DV w b d) : b < w.heap.size := World.block_lt_of_cell? w ⟨b, 0, none⟩ h.1.1
/-- nine cells written -/
def put9 (w : World) (b : Nat) (d : Dr) : World := ((((((((w.setCell ⟨b, 0, none⟩ (.int .i64 d.addr)).setCell ⟨b, 1, none⟩ (.int .i64 d.id)).setCell ⟨b, 2, none⟩ (.bool d.want)).setCell ⟨b, 3, none⟩ (.int .i64 d.per)).setCell ⟨b, 4, none⟩ (.int .i64 d.st)).setCell ⟨b, 5, none⟩ (.int .i64 d.fails)).setCell ⟨b, 6, none⟩ (.bool d.tried)).setCell ⟨b, 7, none⟩ (.int .i64 d.left)).setCell ⟨b, 8, none⟩ (.int .i64 d.bad)
theorem Ext.put9 {a w : World} {b : Nat} (h : Ext a w) (hb : a.heap.size ≤ b) (d : Dr) : Ext a (put9 w b d) := ((((((((h.new hb _ _).new hb _ _).new hb _ _).new hb _ _).new hb _ _).new hb _ _).new hb _ _).new hb _ _).new hb _ _
/-- samples that may be left -/
def okL (d : Dr) : Bool := if d.st = 5 then inn d.left 1 16 else decide (d.left = 0)
/-- a driver that may be -/
def okD (d : Dr) : Bool := inn d.addr 0 127 && inn d.id 0 255 && inn d.per 1 250 && inn d.st 0 8 && inn d.fails 0 2 && okL d && inn d.bad 0 1099511627776
set_option maxHeartbeats 400000 in
theorem isperiod_any (x : Int) (w : World) : Calls Try.prog 35 #[.int .i64 x] w fun e w' => e = .returned (.bool (inn x 1 250)) ∧ w' = w := by
  by_cases h1 : (1 : Int) ≤ x
  · by_cases h2 : x ≤ (250 : Int)
    · have e : Hid (inn x 1 250 = true) := inn_iff.2 ⟨h1, h2⟩
      go_enter Try.func35, Try.ntmps35
      go_wp2
      go_ret
      rw [e.out]; exact ⟨rfl, rfl⟩
    · have e : Hid (inn x 1 250 = false) := inn_not.2 (fun h => h2 h.2)
      go_enter Try.func35, Try.ntmps35
      go_wp2
      go_ret
      rw [e.out]; exact ⟨rfl, rfl⟩
  · have e : Hid (inn x 1 250 = false) := inn_not.2 (fun h => h1 h.1)
    go_enter Try.func35, Try.ntmps35
    go_wp2
    go_ret
    rw [e.out]; exact ⟨rfl, rfl⟩
set_option maxRecDepth 20000 in
set_option maxHeartbeats 1000000 in
theorem isleft_any (d : Dr) (w : World) : Calls Try.prog 58 #[drv d] w fun e w' => e = .returned (.bool (okL d)) ∧ Ext w w' := by
  have hx : Ext w (w.alloc (dro d)) := (Ext.refl w).alloc _
  obtain ⟨addr, id, want, per, st, fails, tried, left, bad⟩ := d
  by_cases h5 : st = 5
  · subst h5
    have e0 : Hid (okL ⟨addr, id, want, per, 5, fails, tried, left, bad⟩ = inn left 1 16) := rfl
    by_cases h1 : (1 : Int) ≤ left
    · by_cases h2 : left ≤ (16 : Int)
      · have e : Hid (inn left 1 16 = true) := inn_iff.2 ⟨h1, h2⟩
        go_enter Try.func58, Try.ntmps58
        go_wp2
        go_ret
        rw [e0.out, e.out]; exact ⟨rfl, hx⟩
      · have e : Hid (inn left 1 16 = false) := inn_not.2 (fun h => h2 h.2)
        go_enter Try.func58, Try.ntmps58
        go_wp2
        go_ret
        rw [e0.out, e.out]; exact ⟨rfl, hx⟩
    · have e : Hid (inn left 1 16 = false) := inn_not.2 (fun h => h1 h.1)
      go_enter Try.func58, Try.ntmps58
      go_wp2
      go_ret
      rw [e0.out, e.out]; exact ⟨rfl, hx⟩
  · have e0 : Hid (okL ⟨addr, id, want, per, st, fails, tried, left, bad⟩ = decide (left = 0)) := by show _ = _; unfold okL; rw [if_neg h5]
    have h5b : (st == 5) = false := beq_eq_false_iff_ne.2 h5
    by_cases h0 : left = 0
    · subst h0
      go_enter Try.func58, Try.ntmps58
      go_wp2
      go_ret
      rw [e0.out]; exact ⟨rfl, hx⟩
    · have h0b : (left == 0) = false := beq_eq_false_iff_ne.2 h0
      go_enter Try.func58, Try.ntmps58
      go_wp2
      go_ret
      rw [e0.out, decide_eq_false h0]; exact ⟨rfl, hx⟩
/-- which state one becomes -/
def mvS (k : Nat) : Int := match k with | 0 => 1 | 1 => 1 | 2 => 2 | 3 => 3 | 4 => 4 | 5 => 5 | 6 => 1 | 7 => 7 | 8 => 8 | _ => 0
def mvO (k : Nat) : Int := match k with | 0 => 1 | 1 => 1 | 2 => 2 | 3 => 2 | 4 => 2 | 5 => 2 | 6 => 1 | 7 => 7 | 8 => 8 | _ => 0
def mvI (k : Nat) : Int := match k with | 0 => 0 | 1 => 6 | 2 => 6 | 3 => 6 | 4 => 6 | 5 => 6 | 6 => 6 | 7 => 7 | 8 => 8 | _ => 0
abbrev mvv (k : Nat) : Value := .agg #[.int .i64 (mvS k), .int .i64 (mvO k), .int .i64 (mvI k)]
/-- the table of moves -/
def MT (w : World) (b : Nat) : Prop := ∀ k, k < 9 → w.cell? ⟨b, k * 3, none⟩ = some (.int .i64 (mvS k)) ∧ w.cell? ⟨b, k * 3 + 1, none⟩ = some (.int .i64 (mvO k)) ∧ w.cell? ⟨b, k * 3 + 2, none⟩ = some (.int .i64 (mvI k))
theorem MT.ext {w w' : World} {b : Nat} (h : MT w b) (x : Ext w w') : MT w' b := fun k hk => ⟨x.keepc (h k hk).1, x.keepc (h k hk).2.1, x.keepc (h k hk).2.2⟩
set_option maxRecDepth 20000 in
set_option maxHeartbeats 1000000 in
theorem moves_any (w : World) : Calls Try.prog 36 #[] w fun e w' => ∃ b, e = .returned (.slice (some ⟨b, 0, none⟩) 9 9) ∧ MT w' b ∧ Ext w w' := by
  go_enter Try.func36, Try.ntmps36
  go_wp2
  go_ret
  refine ⟨w.heap.size, rfl, fun k hk => ?_, (Ext.refl w).alloc _⟩
  match k, hk with
  | 0, _ | 1, _ | 2, _ | 3, _ | 4, _ | 5, _ | 6, _ | 7, _ | 8, _ => refine ⟨?_, ?_, ?_⟩ <;> simp [go_sem, mvS, mvO, mvI]
  | k + 9, h => omega
set_option maxRecDepth 20000 in
set_option maxHeartbeats 1000000 in
theorem atm_in (k : Nat) (hk : k < 9) (b : Nat) (w : World) (h : MT w b) : Calls Try.prog 37 #[.slice (some ⟨b, 0, none⟩) 9 9, .int .i64 k] w fun e w' => e = .returned (.tuple #[mvv k, .bool true]) ∧ Ext w w' := by
  have hx : Ext w (w.alloc (.cells #[.int .i64 0, .int .i64 0, .int .i64 0] 90)) := (Ext.refl w).alloc _
  have hx2 : Ext w (w.alloc (.cells #[.int .i64 (mvS k), .int .i64 (mvO k), .int .i64 (mvI k)] 90)) := (Ext.refl w).alloc _
  obtain ⟨c0, c1, c2⟩ := (h.ext hx) k hk
  have hki : (k : Int) < 9 := by omega
  go_enter Try.func37, Try.ntmps37
  go_wp2
  exact bodyPost_ret (v := .tuple #[mvv k, .bool true]) (by simp [results, Try.results37, go_sem]) rfl ⟨rfl, hx2⟩
set_option maxRecDepth 20000 in
set_option maxHeartbeats 1000000 in
theorem atm_out (k : Int) (hk : inn k 0 8 = false) (b : Nat) (w : World) : Calls Try.prog 37 #[.slice (some ⟨b, 0, none⟩) 9 9, .int .i64 k] w fun e w' => e = .returned (.tuple #[.agg #[.int .i64 0, .int .i64 0, .int .i64 0], .bool false]) ∧ Ext w w' := by
  have hx : Ext w (w.alloc (.cells #[.int .i64 0, .int .i64 0, .int .i64 0] 90)) := (Ext.refl w).alloc _
  have hn := inn_not.1 hk
  clear hk
  by_cases h0 : k < 0
  · clear hn
    go_enter Try.func37, Try.ntmps37
    go_wp2
    exact bodyPost_ret (v := .tuple #[.agg #[.int .i64 0, .int .i64 0, .int .i64 0], .bool false]) (by simp [results, Try.results37, go_sem]) rfl ⟨rfl, hx⟩
  · have h9 : 9 ≤ k := by omega
    clear hn
    go_enter Try.func37, Try.ntmps37
    go_wp2
    exact bodyPost_ret (v := .tuple #[.agg #[.int .i64 0, .int .i64 0, .int .i64 0], .bool false]) (by simp [results, Try.results37, go_sem]) rfl ⟨rfl, hx⟩
/-- a row of the table -/
def mvr (k : Int) : Value := if inn k 0 8 = true then mvv k.toNat else .agg #[.int .i64 0, .int .i64 0, .int .i64 0]
theorem mvr_form (k : Int) : ∃ a b c, mvr k = .agg #[.int .i64 a, .int .i64 b, .int .i64 c] := by
  unfold mvr
  split
  · exact ⟨_, _, _, rfl⟩
  · exact ⟨0, 0, 0, rfl⟩
theorem atm_any (k : Int) (b : Nat) (w : World) (h : MT w b) : Calls Try.prog 37 #[.slice (some ⟨b, 0, none⟩) 9 9, .int .i64 k] w fun e w' => e = .returned (.tuple #[mvr k, .bool (inn k 0 8)]) ∧ Ext w w' := by
  cases hk : inn k 0 8 with
  | false =>
    have e : mvr k = .agg #[.int .i64 0, .int .i64 0, .int .i64 0] := by unfold mvr; rw [hk]; rfl
    rw [e]
    exact atm_out k hk b w
  | true =>
    have e : mvr k = mvv k.toNat := by unfold mvr; rw [if_pos hk]
    obtain ⟨h1, h2⟩ := inn_iff.1 hk
    have := atm_in k.toNat (by omega) b w h
    rw [show ((k.toNat : Nat) : Int) = k by omega] at this
    rw [e]
    exact this
/-- a variable of three -/
def TV (w : World) (g : Nat) (a b c : Value) : Prop :=
  (w.cell? ⟨g, 0, none⟩ = some a ∧ w.cell? ⟨g, 1, none⟩ = some b ∧ w.cell? ⟨g, 2, none⟩ = some c) ∧ w.frozen? ⟨g, 0, none⟩ = false ∧ w.frozen? ⟨g, 1, none⟩ = false ∧ w.frozen? ⟨g, 2, none⟩ = false
theorem tv_at {w : World} {g : Nat} {a b c : Value} {T : TypeId} (h : w.heap.size = g) : TV (w.alloc (.cells #[a, b, c] T)) g a b c := by
  subst h
  refine ⟨⟨?_, ?_, ?_⟩, ?_, ?_, ?_⟩ <;> simp [go_sem]
theorem TV.ext {w w' : World} {g : Nat} {a b c : Value} (h : TV w g a b c) (x : Ext w w') : TV w' g a b c := by
  obtain ⟨⟨h0, h1, h2⟩, f0, f1, f2⟩ := h
  exact ⟨⟨x.keepc h0, x.keepc h1, x.keepc h2⟩, x.keepf h0 f0, x.keepf h1 f1, x.keepf h2 f2⟩
theorem TV.lt {w : World} {g : Nat} {a b c : Value} (h : TV w g a b c) : g < w.heap.size := World.block_lt_of_cell? w ⟨g, 0, none⟩ h.1.1
def putT (w : World) (g : Nat) (a b c : Value) : World := ((w.setCell ⟨g, 0, none⟩ a).setCell ⟨g, 1, none⟩ b).setCell ⟨g, 2, none⟩ c
theorem TV.put {w : World} {g : Nat} {a b c : Value} (h : TV w g a b c) (a' b' c' : Value) : TV (putT w g a' b' c') g a' b' c' := by
  obtain ⟨⟨h0, h1, h2⟩, f0, f1, f2⟩ := h
  refine ⟨⟨?_, ?_, ?_⟩, ?_, ?_, ?_⟩ <;> simp [putT, go_sem, h0, h1, h2, f0, f1, f2]
theorem Ext.putT {a w : World} {g : Nat} (h : Ext a w) (hg : a.heap.size ≤ g) (x y z : Value) : Ext a (putT w g x y z) := ((h.new hg _ _).new hg _ _).new hg _ _
end Go.Proofs.Ytdfhhfpfnkjbnaa
