/- do of a device. -/
import Derived.Test.YtfgljkeohoffiaaGi
namespace Go.Proofs.Ytfgljkeohoffiaa
open Go.RowKit Go.Conc
def gb (l : List Nat) (i : Nat) : Nat := l.getD i 0
/-- bytes, one behind the other -/
def BR (w : World) (a : Option Addr) (l : List Nat) : Prop := ∀ i, i < l.length → gb l i ≤ 255 ∧ ∃ b off, a = some ⟨b, off, none⟩ ∧ w.cell? ⟨b, off + i, none⟩ = some (.int .u8 (gb l i))
theorem BR.ext {w w' : World} {a : Option Addr} {l : List Nat} (h : BR w a l) (x : Ext w w') : BR w' a l := fun i hi => by
  obtain ⟨h1, b, off, e, c⟩ := h i hi
  exact ⟨h1, b, off, e, x.keepc c⟩
theorem BR.tn {own : Nat → Prop} {w w' : World} {a : Option Addr} {l : List Nat} (h : BR w a l) (x : Tn own w w') (ho : ∀ k off, 0 < l.length → a = some ⟨k, off, none⟩ → ¬ own k) : BR w' a l := fun i hi => by
  obtain ⟨h1, b, off, e, c⟩ := h i hi
  exact ⟨h1, b, off, e, x.keepc (ho b off (by omega) e) c⟩
def Dv.writes (s : Dv) (reg : Nat) (l : List Nat) : Nat → Dv
  | 0 => s
  | k + 1 => (s.writes reg l k).write (reg + k) (gb l k)
def Dv.reads (s : Dv) (reg n : Nat) : List Int := (List.range n).map fun i => (s.read (reg + i) : Int)
abbrev txv (addr reg : Int) (a : Option Addr) (len c : Nat) (n : Int) : Value := .agg #[.int .i64 addr, .int .i64 reg, .slice a len c, .int .i64 n]
abbrev txc (addr reg : Int) (a : Option Addr) (len c : Nat) (n : Int) : Obj := .cells #[.int .i64 addr, .int .i64 reg, .slice a len c, .int .i64 n] 44
/-- what a transaction makes of a device, and what it tells -/
def Dv.does (s : Dv) (reg : Nat) (l : List Nat) (n : Nat) : Dv :=
  if 0 < l.length then s.writes reg l l.length else if reg = 4 then { s with q := s.q.drop ((n + 7) / 8) } else s
def Dv.tells (s : Dv) (reg : Nat) (l : List Nat) (n : Nat) : List Int :=
  if 0 < l.length then [] else if reg = 4 then (brst s.q ((n + 7) / 8)).take n else s.reads reg n
theorem writes_le (s : Dv) (reg : Nat) (l : List Nat) (h : s.tk ≤ 255) : ∀ k, (s.writes reg l k).tk ≤ 255
  | 0 => h
  | k + 1 => write_le _ _ _ (writes_le s reg l h k)
theorem does_le (s : Dv) (reg : Nat) (l : List Nat) (n : Nat) (h : s.tk ≤ 255) : (s.does reg l n).tk ≤ 255 := by
  unfold Dv.does
  split
  · exact writes_le _ _ _ h _
  · split <;> exact h
/-- a variable of a transaction -/
def TX (w : World) (b : Nat) (addr reg : Int) (a : Option Addr) (len c : Nat) (n : Int) : Prop :=
  w.cell? ⟨b, 0, none⟩ = some (.int .i64 addr) ∧ w.cell? ⟨b, 1, none⟩ = some (.int .i64 reg) ∧ w.cell? ⟨b, 2, none⟩ = some (.slice a len c) ∧ w.cell? ⟨b, 3, none⟩ = some (.int .i64 n)
section
variable {w w' : World} {b : Nat} {addr reg n : Int} {a : Option Addr} {len c : Nat}
theorem tx_new : TX (w.alloc (txc addr reg a len c n)) w.heap.size addr reg a len c n := by
  refine ⟨?_, ?_, ?_, ?_⟩ <;> simp [go_sem]
theorem TX.ext (h : TX w b addr reg a len c n) (x : Ext w w') : TX w' b addr reg a len c n := ⟨x.keepc h.1, x.keepc h.2.1, x.keepc h.2.2.1, x.keepc h.2.2.2⟩
theorem TX.tn {own : Nat → Prop} (h : TX w b addr reg a len c n) (x : Tn own w w') (ho : ¬ own b) : TX w' b addr reg a len c n := ⟨x.keepc ho h.1, x.keepc ho h.2.1, x.keepc ho h.2.2.1, x.keepc ho h.2.2.2⟩
end
set_option maxRecDepth 20000 in
set_option maxHeartbeats 4000000 in
theorem do_write (w : World) {x : DA} {s : Dv} (h : IsDev w x s) (addr : Int) (reg : Nat) (a : Option Addr) (l : List Nat) (c : Nat) (n : Int) (hr : reg ≤ 5) (h1 : 1 ≤ l.length) (h2 : l.length ≤ 8) (hb : BR w a l) (ha : ∀ k off, 0 < l.length → a = some ⟨k, off, none⟩ → ¬ DO x k) :
    Calls Try.prog 37 #[.pointer (some ⟨x.p, 0, none⟩), txv addr reg a l.length c n] w fun e w' => e = .returned (.slice none 0 0) ∧ Dd x (s.writes reg l l.length) w w' := by
  have e1 : Ext w (w.alloc (txc addr reg a l.length c n)) := (Ext.refl w).alloc _
  have H0 : Hid (Dd x (s.writes reg l 0) w (w.alloc (txc addr reg a l.length c n)) ∧ TX (w.alloc (txc addr reg a l.length c n)) w.heap.size addr reg a l.length c n ∧ BR (w.alloc (txc addr reg a l.length c n)) a l) := ⟨⟨h.ext e1, Tn.of_ext e1⟩, tx_new, hb.ext e1⟩
  have hpos : 0 < l.length := h1
  have HLT : Hid (¬ DO x w.heap.size) := fun o => by have := h.lt _ (.inl o); omega
  have HA : Hid (∀ k off, 0 < l.length → a = some ⟨k, off, none⟩ → ¬ DO x k) := ha
  have t0 := H0.out.2.1
  have t2 := t0.2.2.1
  clear h e1 hb ha t0
  go_enter Try.func37, Try.ntmps37
  go_upto_region 1 with fail
  generalize w.alloc (txc addr reg a l.length c n) = w0 at *
  go_wp2_with fail
  clear t2
  go_loopw [5, 6, 16] (fun _ _ i wr => ∃ k : Nat, k ≤ l.length ∧ i = .int .i64 k ∧ Hid (Dd x (s.writes reg l k) w wr ∧ TX wr w.heap.size addr reg a l.length c n ∧ BR wr a l)) (fun _ _ i _ => l.length - (intOf i).toNat)
  case atStart => exact ⟨0, Nat.zero_le _, rfl, H0⟩
  case round =>
    obtain ⟨k, hk, rfl, hR⟩ := hrel
    by_cases hlt : k < l.length
    · obtain ⟨hg, b1, o1, rfl, c1⟩ := hR.out.2.2 k hlt
      have t1 := hR.out.2.1.2.1
      have hlti : (k : Int) < (l.length : Int) := by omega
      have HW : Hid (Calls Try.prog 49 #[.pointer (some ⟨x.p, 0, none⟩), .int .i64 ((reg : Int) + k), .int .u8 (gb l k)] wr fun e w' => (∃ v, e = .returned v) ∧ Hid (Dd x (s.writes reg l (k + 1)) w w' ∧ TX w' w.heap.size addr reg (some ⟨b1, o1, none⟩) l.length c n ∧ BR w' (some ⟨b1, o1, none⟩) l)) := by
        obtain ⟨q1, q2, q3⟩ := hR.out
        have := write_any wr q1.1 (reg + k) (gb l k) (by omega) hg
        rw [Int.natCast_add] at this
        refine this.mono ?_
        rintro e w' ⟨he, d⟩
        exact ⟨he, q1.trans d, q2.tn d.2 HLT.out, q3.tn d.2 HA.out⟩
      generalize gb l k = bb at *
      clear hR H0
      go_wp2_with (go_at_call 49; refine HW.out.mono ?_; rintro e w2 ⟨⟨u, rfl⟩, R2⟩)
      go_roundw
      case measure => simp [intOf]; omega
      case rel => exact ⟨k + 1, by omega, by simp, R2⟩
    · have hlti : ¬ (k : Int) < (l.length : Int) := by omega
      have hkl : k = l.length := by omega
      have HF : Hid (Dd x (s.writes reg l l.length) w wr) := by show Dd _ _ _ _; rw [← hkl]; exact hR.out.1
      clear hR H0 hkl
      go_wp2_with fail
      go_ret
      exact ⟨rfl, HF.out⟩
/-- a row of bytes that is being laid -/
def LaidB (wr : World) (N len k : Nat) (Z : Nat → Int) : Prop :=
  ∃ A : Array Value, wr.heap[N]? = some (.cells A Eb) ∧ A.size = len ∧ (∀ j, j < k → A[j]? = some (.int .u8 (Z j)))
section
variable {w wr w' : World} {N len k : Nat} {Z : Nat → Int}
theorem LaidB.cell (h : LaidB wr N len k Z) {j : Nat} (hj : j < len) : (∃ v, wr.cell? ⟨N, j, none⟩ = some v) ∧ wr.frozen? ⟨N, j, none⟩ = false := by
  obtain ⟨A, h1, h2, _⟩ := h
  refine ⟨⟨A[j]'(by omega), ?_⟩, ?_⟩
  · simp only [World.cell?, h1]; simp [show j < A.size by omega]
  · simp [World.frozen?, h1]
theorem LaidB.lt (h : LaidB wr N len k Z) : N < wr.heap.size := by
  obtain ⟨A, h1, _⟩ := h
  exact (Array.getElem?_eq_some_iff.1 h1).1
theorem LaidB.ext (h : LaidB wr N len k Z) (x : Ext wr w') : LaidB w' N len k Z := by
  have hlt := h.lt
  obtain ⟨A, h1, h2⟩ := h
  exact ⟨A, (x.blk hlt).trans h1, h2⟩
theorem LaidB.set (h : LaidB wr N len k Z) (hk : k < len) : LaidB (wr.setCell ⟨N, k, none⟩ (.int .u8 (Z k))) N len (k + 1) Z := by
  obtain ⟨A, h1, h2, h3⟩ := h
  refine ⟨_, heap_setCell_at _ _ _ _ h1, by simpa using h2, fun j hj => ?_⟩
  by_cases e : j = k
  · subst e; rw [Array.getElem?_setIfInBounds_self_of_lt (by omega)]
  · rw [Array.getElem?_setIfInBounds_ne (fun h => e h.symm)]; exact h3 j (by omega)
theorem LaidB.row (h : LaidB wr N len len Z) {B : Nat} (hB : B ≤ N) (hl : len ≤ maxLen) : wr.ownsRow B Eb 1 (.slice (some ⟨N, 0, none⟩) len len) len (bv ((List.range len).map Z)) := by
  obtain ⟨A, h1, h2, h3⟩ := h
  refine ⟨by simp [bv], .inr ⟨N, len, A, rfl, hB, h1, Nat.le_refl _, hl, by omega, ?_⟩⟩
  apply List.ext_getElem?
  intro j
  by_cases hj : j < len
  · rw [List.getElem?_take_of_lt (by omega)]
    have := h3 j hj
    simp [bv, hj]
    simpa using this
  · rw [List.getElem?_eq_none (by simp; omega), List.getElem?_eq_none (by simp [bv]; omega)]
end
theorem infob : ∃ i, Try.prog.info? 5 = some i ∧ i.bytes = 1 ∧ i.size = 1 ∧ i.zero = some (.int .u8 0) := by
  obtain ⟨i0, hi, hz0, hz1, hz2⟩ := info_parts Try.infoTb
  exact ⟨i0, hi, hz2, hz1, hz0⟩
theorem mkslice_b (n : Nat) (hn : n ≤ 256) (w : World) : (Instr.makeSlice 42 (.int .i64 n) (.int .i64 n)).run Try.prog w = .ok (.slice (some ⟨w.heap.size, 0, none⟩) n n) (w.alloc (.cells (madeCells #[.int .u8 0] n) 5)) := by
  obtain ⟨i, hi, hb, hs, hz⟩ := infob
  have := run_make (P := Try.prog) w 42 5 i (.int .u8 0) Try.underlying42 hi hz .i64 .i64 n n (by omega) (Int.le_refl _) (by rw [hb]; omega) (by omega)
  simpa [hs, Value.cells] using this
set_option maxRecDepth 20000 in
set_option maxHeartbeats 4000000 in
theorem do_read (w : World) {x : DA} {s : Dv} (h : IsDev w x s) (addr : Int) (reg : Nat) (a : Option Addr) (c n : Nat) (hr : reg ≤ 5) (h4 : reg ≠ 4) (h1 : 1 ≤ n) (h2 : n ≤ 128) :
    Calls Try.prog 37 #[.pointer (some ⟨x.p, 0, none⟩), txv addr reg a 0 c n] w fun e w' => ∃ g, e = .returned (.slice (some ⟨g, 0, none⟩) n n) ∧ w'.ownsRow w.heap.size Eb 1 (.slice (some ⟨g, 0, none⟩) n n) n (bv (s.reads reg n)) ∧ Ext w w' := by
  have e1 : Ext w (w.alloc (txc addr reg a 0 c n)) := (Ext.refl w).alloc _
  have hT : TX (w.alloc (txc addr reg a 0 c n)) w.heap.size addr reg a 0 c n := tx_new
  have hD := h.ext e1
  have HD : Hid (∀ wr, Ext w wr → IsDev wr x s) := fun wr e => h.ext e
  have n4 : (reg : Int) ≠ 4 := by omega
  have n4' : ((reg : Int) == 4) = false := by simp [n4]
  have hmk := mkslice_b n (by omega)
  have hA : (madeCells #[(.int .u8 0 : Value)] n).size = n := size_madeCells _ _
  generalize madeCells #[(.int .u8 0 : Value)] n = A at *
  obtain ⟨t0, t1, t2, t3⟩ := id hT
  go_enter Try.func37, Try.ntmps37
  go_upto_region 1 with fail
  have hw0 : w.heap.size < (w.alloc (txc addr reg a 0 c n)).heap.size := by simp
  generalize w.alloc (txc addr reg a 0 c n) = w0 at *
  go_upto_region 11 with fail
  have H0 : Hid (LaidB (w0.alloc (.cells A Eb)) w0.heap.size n 0 (fun i => (s.read (reg + i) : Int)) ∧ Ext w (w0.alloc (.cells A Eb)) ∧ TX (w0.alloc (.cells A Eb)) w.heap.size addr reg a 0 c n) := ⟨⟨A, heap_alloc_new w0 _, hA, fun _ hj => absurd hj (Nat.not_lt_zero _)⟩, e1.alloc _, hT.ext ((Ext.refl w0).alloc _)⟩
  generalize w0.alloc (.cells A Eb) = w1 at *
  have hle : w.heap.size ≤ w0.heap.size := by omega
  have HNE : Hid (w.heap.size < w0.heap.size) := hw0
  generalize w0.heap.size = N at *
  clear hmk hA t0 t1 t2 t3 hT hD e1 h hw0
  go_wp2_with fail
  go_loopw [8, 41] (fun _ i wr => ∃ k : Nat, k ≤ n ∧ i = .int .i64 k ∧ Hid (LaidB wr N n k (fun i => (s.read (reg + i) : Int)) ∧ Ext w wr ∧ TX wr w.heap.size addr reg a 0 c n)) (fun _ i _ => n - (intOf i).toNat)
  case atStart => exact ⟨0, Nat.zero_le _, rfl, H0⟩
  case round =>
    obtain ⟨k, hk, rfl, hR⟩ := hrel
    by_cases hlt : k < n
    · have hlti : (k : Int) < (n : Int) := by omega
      have t1 := hR.out.2.2.2.1
      have HW : Hid (Calls Try.prog 51 #[.pointer (some ⟨x.p, 0, none⟩), .int .i64 ((reg : Int) + k)] wr fun e w' => e = .returned (.int .u8 (s.read (reg + k))) ∧ Hid (LaidB w' N n k (fun i => (s.read (reg + i) : Int)) ∧ Ext w w' ∧ TX w' w.heap.size addr reg a 0 c n)) := by
        obtain ⟨q1, q2, q3⟩ := hR.out
        have := read_any wr (HD.out wr q2) (reg + k) (by omega)
        rw [Int.natCast_add] at this
        refine this.mono ?_
        rintro e w' ⟨he, d⟩
        exact ⟨he, q1.ext d.ext, q2.trans d.ext, q3.ext d.ext⟩
      have HZ : Hid (∀ w2, LaidB w2 N n k (fun i => (s.read (reg + i) : Int)) ∧ Ext w w2 ∧ TX w2 w.heap.size addr reg a 0 c n → LaidB (w2.setCell ⟨N, k, none⟩ (.int .u8 (s.read (reg + k)))) N n (k + 1) (fun i => (s.read (reg + i) : Int)) ∧ Ext w (w2.setCell ⟨N, k, none⟩ (.int .u8 (s.read (reg + k)))) ∧ TX (w2.setCell ⟨N, k, none⟩ (.int .u8 (s.read (reg + k)))) w.heap.size addr reg a 0 c n) := fun w2 ⟨q1, q2, q3⟩ => ⟨q1.set hlt, q2.new hle _ _, q3.tn ((Tn.refl (fun j => j = N) w2).set (.inl rfl) _ _) (fun e => by have := HNE.out; omega)⟩
      generalize s.read (reg + k) = bb at *
      clear hR H0
      go_wp2_with (go_at_call 51; refine HW.out.mono ?_; rintro e w2 ⟨rfl, R2⟩; obtain ⟨⟨v2, k2⟩, f2⟩ := R2.out.1.cell hlt)
      have R3 : Hid _ := HZ.out w2 R2.out
      go_roundw
      case measure => simp [intOf]; omega
      case rel => exact ⟨k + 1, by omega, by simp, R3⟩
    · have hlti : ¬ (k : Int) < (n : Int) := by omega
      have hkl : k = n := by omega
      subst hkl
      have h63 : k ≤ maxLen := by unfold maxLen; omega
      go_wp2_with fail
      go_ret
      exact ⟨N, rfl, hR.out.1.row hle h63, hR.out.2.1⟩
set_option maxRecDepth 20000 in
set_option maxHeartbeats 4000000 in
theorem do_burst (w : World) {x : DA} {s : Dv} (h : IsDev w x s) (addr : Int) (a : Option Addr) (c n : Nat) (h1 : 1 ≤ n) (h2 : n ≤ 128) :
    Calls Try.prog 37 #[.pointer (some ⟨x.p, 0, none⟩), txv addr 4 a 0 c n] w fun e w' => ∃ g cap, e = .returned (.slice (some ⟨g, 0, none⟩) n cap) ∧ w'.ownsRow w.heap.size Eb 1 (.slice (some ⟨g, 0, none⟩) n cap) n (bv ((brst s.q ((n + 7) / 8)).take n)) ∧ Dd x { s with q := s.q.drop ((n + 7) / 8) } w w' := by
  have e1 : Ext w (w.alloc (txc addr 4 a 0 c n)) := (Ext.refl w).alloc _
  have hT : TX (w.alloc (txc addr 4 a 0 c n)) w.heap.size addr 4 a 0 c n := tx_new
  have HB := burst_any _ (h.ext e1) n h1 h2
  obtain ⟨t0, t1, t2, t3⟩ := hT
  go_enter Try.func37, Try.ntmps37
  go_upto_region 1 with fail
  generalize w.alloc (txc addr 4 a 0 c n) = w0 at *
  go_wp2_with (go_at_call 50; refine HB.mono ?_; rintro e w2 ⟨g, cap, rfl, o2, d2⟩)
  go_ret
  refine ⟨g, cap, rfl, ⟨o2.1, ?_⟩, d2.1, (Tn.of_ext e1).trans d2.2 (fun _ _ o => o)⟩
  rcases o2.2 with q | ⟨g', cap', cur, hv, hb, hr⟩
  · exact .inl q
  · exact .inr ⟨g', cap', cur, hv, by have := e1.size; omega, hr⟩
/-- any transaction that may be -/
theorem do_any (w : World) {x : DA} {s : Dv} (h : IsDev w x s) (addr : Int) (reg : Nat) (a : Option Addr) (l : List Nat) (c n : Nat) (hr : reg ≤ 5) (hn : (1 ≤ l.length ∧ l.length ≤ 8) ∨ (l.length = 0 ∧ 1 ≤ n ∧ n ≤ 128)) (hb : BR w a l) (ha : ∀ k off, 0 < l.length → a = some ⟨k, off, none⟩ → ¬ DO x k) :
    Calls Try.prog 37 #[.pointer (some ⟨x.p, 0, none⟩), txv addr reg a l.length c n] w fun e w' => ∃ v, e = .returned v ∧ w'.ownsRow w.heap.size Eb 1 v (s.tells reg l n).length (bv (s.tells reg l n)) ∧ Dd x (s.does reg l n) w w' := by
  rcases hn with ⟨h1, h2⟩ | ⟨h0, h1, h2⟩
  · have e1 : s.tells reg l n = [] := by unfold Dv.tells; rw [if_pos (by omega)]
    have e2 : s.does reg l n = s.writes reg l l.length := by unfold Dv.does; rw [if_pos (by omega)]
    rw [e1, e2]
    refine (do_write w h addr reg a l c n hr h1 h2 hb ha).mono ?_
    rintro e w' ⟨rfl, d⟩
    exact ⟨_, rfl, World.ownsRow_nil _ _ _ _, d⟩
  · by_cases h4 : reg = 4
    · subst h4
      have e1 : s.tells 4 l n = (brst s.q ((n + 7) / 8)).take n := by unfold Dv.tells; rw [if_neg (by omega), if_pos rfl]
      have e2 : s.does 4 l n = { s with q := s.q.drop ((n + 7) / 8) } := by unfold Dv.does; rw [if_neg (by omega), if_pos rfl]
      rw [e1, e2, h0]
      refine (do_burst w h addr a c n h1 h2).mono ?_
      rintro e w' ⟨g, cap, rfl, o, d⟩
      have hl : ((brst s.q ((n + 7) / 8)).take n).length = n := by rw [List.length_take, brst_len]; omega
      exact ⟨_, rfl, by rw [hl]; exact o, d⟩
    · have e1 : s.tells reg l n = s.reads reg n := by unfold Dv.tells; rw [if_neg (by omega), if_neg h4]
      have e2 : s.does reg l n = s := by unfold Dv.does; rw [if_neg (by omega), if_neg h4]
      rw [e1, e2, h0]
      refine (do_read w h addr reg a c n hr h4 h1 h2).mono ?_
      rintro e w' ⟨g, rfl, o, d⟩
      have hl : (s.reads reg n).length = n := by simp [Dv.reads]
      exact ⟨_, rfl, by rw [hl]; exact o, Dd.of_ext h d⟩
end Go.Proofs.Ytfgljkeohoffiaa
