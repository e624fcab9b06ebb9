/- A ring of samples: the list that it holds; Push where there is room, New, Clear. -/
import Derived.Test.YtfgljkeohoffiaaGd
namespace Go.Proofs.Ytfgljkeohoffiaa
open Go.RowKit Go.Conc
/-- samples as values -/
def rvq (l : List Raw) : List Value := l.map rv
theorem rvq_len (l : List Raw) : (rvq l).length = l.length := by simp [rvq]
/-- A holds the cells of the samples of A' -/
def Flat (A A' : Array Value) : Prop := A.size = A'.size * 4 ∧ ∀ i, i < A'.size → ∃ x, A'[i]? = some (rv x) ∧ A4 A (i * 4) x
theorem set4_size (A : Array Value) (o : Nat) (x : Raw) : (set4 A o x).size = A.size := by simp [set4]
theorem set4_ne (A : Array Value) (o i : Nat) (x : Raw) (h : i < o ∨ o + 4 ≤ i) : (set4 A o x)[i]? = A[i]? := by
  unfold set4
  rw [Array.getElem?_setIfInBounds_ne (by omega), Array.getElem?_setIfInBounds_ne (by omega), Array.getElem?_setIfInBounds_ne (by omega), Array.getElem?_setIfInBounds_ne (by omega)]
theorem set4_at (A : Array Value) (o : Nat) (x : Raw) (h : o + 4 ≤ A.size) : A4 (set4 A o x) o x := by
  unfold set4 A4
  refine ⟨?_, ?_, ?_, ?_⟩
  · rw [Array.getElem?_setIfInBounds_ne (by omega), Array.getElem?_setIfInBounds_ne (by omega), Array.getElem?_setIfInBounds_ne (by omega), Array.getElem?_setIfInBounds_self_of_lt (by omega)]
  · rw [Array.getElem?_setIfInBounds_ne (by omega), Array.getElem?_setIfInBounds_ne (by omega), Array.getElem?_setIfInBounds_self_of_lt (by simp; omega)]
  · rw [Array.getElem?_setIfInBounds_ne (by omega), Array.getElem?_setIfInBounds_self_of_lt (by simp; omega)]
  · rw [Array.getElem?_setIfInBounds_self_of_lt (by simp; omega)]
theorem Flat.set {A A' : Array Value} (h : Flat A A') {q : Nat} (hq : q < A'.size) (x : Raw) : Flat (set4 A (q * 4) x) (A'.setIfInBounds q (rv x)) := by
  obtain ⟨h1, h2⟩ := h
  refine ⟨by rw [set4_size]; simp [h1], fun i hi => ?_⟩
  simp at hi
  by_cases e : i = q
  · subst e
    exact ⟨x, Array.getElem?_setIfInBounds_self_of_lt hq, set4_at _ _ _ (by omega)⟩
  · obtain ⟨y, a1, a2, a3, a4, a5⟩ := h2 i hi
    refine ⟨y, ?_, ?_, ?_, ?_, ?_⟩
    · rw [Array.getElem?_setIfInBounds_ne (fun k => e k.symm)]; exact a1
    all_goals (rw [set4_ne _ _ _ _ (by omega)]; assumption)
theorem Flat.at {A A' : Array Value} (h : Flat A A') {q : Nat} {x : Raw} (hq : A'[q]? = some (rv x)) : A4 A (q * 4) x := by
  have hlt : q < A'.size := (Array.getElem?_eq_some_iff.1 hq).1
  obtain ⟨y, a1, a2⟩ := h.2 q hlt
  rw [hq] at a1
  have e : x = y := by
    obtain ⟨x0, x1, x2, x3⟩ := x
    obtain ⟨y0, y1, y2, y3⟩ := y
    simp only [rv, Option.some.injEq, Value.agg.injEq, Array.mk.injEq, List.cons.injEq, Value.int.injEq, true_and, and_true] at a1
    obtain ⟨rfl, rfl, rfl, rfl⟩ := a1
    rfl
  rw [e]; exact a2
/-- The ring of samples at p holds l. -/
def Rq (w : World) (p d c cap : Nat) (l : List Raw) : Prop :=
  ∃ first A A' buf s r, RS w Tq Erw p d c cap first A buf s r ∧ Flat A A' ∧ Holds cap first A' buf (rvq l) ∧ p ≠ d ∧ p ≠ c ∧ d ≠ c
section
variable {p d c cap : Nat} {l : List Raw}
theorem Rq.ext {w w' : World} (h : Rq w p d c cap l) (hx : Ext w w') : Rq w' p d c cap l := by
  obtain ⟨first, A, A', buf, s, r, h, hf, hh, hd⟩ := h
  exact ⟨first, A, A', buf, s, r, h.ext hx, hf, hh, hd⟩
theorem Rq.tn {own : Nat → Prop} {w w' : World} (h : Rq w p d c cap l) (hx : Tn own w w') (h1 : ¬ own p) (h2 : ¬ own d) (h3 : ¬ own c) : Rq w' p d c cap l := by
  obtain ⟨first, A, A', buf, s, r, h, hf, hh, hd⟩ := h
  obtain ⟨lp, ld, lc⟩ := h.lt
  obtain ⟨a1, a2, a3⟩ := h
  exact ⟨first, A, A', buf, s, r, ⟨(hx.2 _ lp h1).trans a1, (hx.2 _ ld h2).trans a2, (hx.2 _ lc h3).trans a3⟩, hf, hh, hd⟩
theorem Rq.le {w : World} (h : Rq w p d c cap l) : l.length ≤ cap ∧ 1 ≤ cap ∧ cap ≤ 256 := by
  obtain ⟨first, A, A', buf, s, r, h, hf, hh, hd⟩ := h
  exact ⟨by have := hh.2.2.2.2.1; rw [rvq_len] at this; omega, hh.1, hh.2.1⟩
theorem Rq.lt {w : World} (h : Rq w p d c cap l) : p < w.heap.size ∧ d < w.heap.size ∧ c < w.heap.size := by
  obtain ⟨first, A, A', buf, s, r, h, hf, hh, hd⟩ := h
  exact h.lt
theorem Rq.ne {w : World} (h : Rq w p d c cap l) : p ≠ d ∧ p ≠ c ∧ d ≠ c := by
  obtain ⟨first, A, A', buf, s, r, h, hf, hh, hd⟩ := h
  exact hd
theorem Rq.drewN {w : World} (h : Rq w p d c cap l) (n : Nat) : Rq (w.drewN n) p d c cap l := h
theorem len_lq (w : World) (h : Rq w p d c cap l) :
    Calls Try.prog 47 #[.pointer (some ⟨p, 0, none⟩)] w fun e w' => e = .returned (.int .i64 l.length) ∧ Quiet w w' := by
  obtain ⟨first, A, A', buf, s, r, h, hf, hh, hd⟩ := h
  have := hh.2.2.2.2.1
  rw [rvq_len] at this
  exact len_q w h this hh.2.1
theorem cap_lq (w : World) (h : Rq w p d c cap l) :
    Calls Try.prog 58 #[.pointer (some ⟨p, 0, none⟩)] w fun e w' => e = .returned (.int .i64 cap) ∧ w' = w := by
  obtain ⟨first, A, A', buf, s, r, h, hf, hh, hd⟩ := h
  exact cap_q w h
/-- what Pop hands back -/
def popped (l : List Raw) : Value := .tuple #[rv (l.headD nought), .bool (!l.isEmpty)]
theorem pop_lq (w : World) (h : Rq w p d c cap l) :
    Calls Try.prog 62 #[.pointer (some ⟨p, 0, none⟩)] w fun e w' => e = .returned (popped l) ∧ Rq w' p d c cap l.tail ∧ Turn p d c w w' := by
  have h' := h
  obtain ⟨first, A, A', buf, s, r, h, hf, hh, hpd, hpc, hdc⟩ := h
  cases l with
  | nil =>
    refine (pop_none_q w h hh.2.1 (by have := hh.2.2.2.2.1; simpa [rvq] using this)).mono ?_
    rintro e w' ⟨rfl, hx⟩
    exact ⟨rfl, h'.ext hx, Turn.of_ext hx⟩
  | cons x l =>
    have hh0 : Holds cap first A' buf (rv x :: rvq l) := hh
    obtain ⟨hv, hh'⟩ := hh0.pop (rv nought)
    have a1 := hf.at hv
    have hs := hh.2.2.2.2.1
    rw [rvq_len] at hs
    refine (pop_some_q w h hpd hpc hdc hh.2.2.1 hh.2.1 (len := l.length) hs a1).mono ?_
    rintro e w' ⟨rfl, hr, ht⟩
    have hA : first < A'.size := by have h1 := hh.2.2.1; have h2 := hh.2.2.2.1; omega
    exact ⟨rfl, ⟨_, _, _, _, _, _, hr, hf.set hA nought, hh', hpd, hpc, hdc⟩, ht⟩
theorem lay_lq (w : World) (h : Rq w p d c cap l) (x : Raw) (hl : l.length < cap) :
    Calls Try.prog 68 #[.pointer (some ⟨p, 0, none⟩), rv x] w fun e w' =>
      e = .returned (.bool true) ∧ Rq w' p d c cap (l ++ [x]) ∧ Turn p d c w w' := by
  have h0 := h
  obtain ⟨first, A, A', buf, s, r, h, hf, hh, hpd, hpc, hdc⟩ := h
  obtain ⟨hq, hlt, hh'⟩ := hh.push (by rw [rvq_len]; exact hl) (rv x)
  rw [rvq_len] at hq hlt hh'
  have hA : (first + l.length) % cap < A'.size := by have h2 := hh.2.2.2.1; omega
  obtain ⟨y, _, a2⟩ := hf.2 _ hA
  refine (lay_free_q w h hpd hpc hdc x hq hlt a2).mono ?_
  rintro e w' ⟨rfl, hr, ht⟩
  have e1 : rvq l ++ [rv x] = rvq (l ++ [x]) := by simp [rvq]
  rw [e1] at hh'
  exact ⟨rfl, ⟨_, _, _, _, _, _, hr, hf.set hA x, hh', hpd, hpc, hdc⟩, ht⟩
theorem Rq.put4 {w : World} (h : Rq w p d c cap l) {b : Nat} (hb : b ≠ p ∧ b ≠ d ∧ b ≠ c) (o : Nat) (x : Raw) : Rq (Go.Proofs.Ytfgljkeohoffiaa.put4 w b o x) p d c cap l := by
  obtain ⟨first, A, A', buf, s, r, h, hf, hh, hd⟩ := h
  exact ⟨first, A, A', buf, s, r, h.put4 hb o x, hf, hh, hd⟩
abbrev cells4 (x : Raw) : Obj := .cells #[.int .i64 x.x, .int .i64 x.y, .int .i64 x.z, .int .i64 x.t] Erw
abbrev cells0 : Obj := .cells #[.int .i64 0, .int .i64 0, .int .i64 0, .int .i64 0] Erw
/-- three new variables: x, and two noughts -/
theorem three_vars (w : World) (x : Raw) :
    P4 (((w.alloc (cells4 x)).alloc cells0).alloc cells0) (w.heap.size + 1) nought ∧ P4 (((w.alloc (cells4 x)).alloc cells0).alloc cells0) (w.heap.size + 1 + 1) nought ∧
    Ext w (((w.alloc (cells4 x)).alloc cells0).alloc cells0) :=
  ⟨(p4_at (r := nought) (by simp)).alloc _, p4_at (r := nought) (by simp), (((Ext.refl w).alloc _).alloc _).alloc _⟩
set_option maxRecDepth 20000 in
set_option maxHeartbeats 2000000 in
theorem push_lq (w : World) (h : Rq w p d c cap l) (x : Raw) (hl : l.length < cap) :
    Calls Try.prog 59 #[.pointer (some ⟨p, 0, none⟩), rv x] w fun e w' => e = .returned (.tuple #[rv nought, .bool false]) ∧ Rq w' p d c cap (l ++ [x]) ∧ Turn p d c w w' := by
  obtain ⟨hV, hZ, hx⟩ := three_vars w x
  obtain ⟨lp, ld, lc⟩ := h.lt
  have HL := lay_lq _ (h.ext hx) x hl
  have nV : Hid (w.heap.size + 1 ≠ p ∧ w.heap.size + 1 ≠ d ∧ w.heap.size + 1 ≠ c) := by show _ ∧ _; omega
  have nZ : Hid (w.heap.size + 1 + 1 ≠ p ∧ w.heap.size + 1 + 1 ≠ d ∧ w.heap.size + 1 + 1 ≠ c) := by show _ ∧ _; omega
  have HV : Hid (P4 _ (w.heap.size + 1) nought) := hV
  have HZ : Hid (P4 _ (w.heap.size + 1 + 1) nought) := hZ
  clear hV hZ h hl
  go_enter Try.func59, Try.ntmps59
  go_upto_region 3 with (go_at_call 68; refine HL.mono ?_; rintro e w1 ⟨rfl, hr, ht⟩)
  have hV1 := HV.out.turn ht nV.out
  have hZ1 := HZ.out.turn ht nZ.out
  obtain ⟨⟨z0, z1, z2, z3⟩, zf0, zf1, zf2, zf3⟩ := hZ1
  obtain ⟨⟨v0, v1, v2, v3⟩, vf0, vf1, vf2, vf3⟩ := id hV1
  have ht2 : Turn p d c w w1 := (Turn.of_ext hx).trans ht
  have HR : Hid (Rq (put4 w1 (w.heap.size + 1) 0 nought) p d c cap (l ++ [x]) ∧ Turn p d c w (put4 w1 (w.heap.size + 1) 0 nought)) := ⟨hr.put4 nV.out 0 nought, ht2.put4 (.inl (Nat.le_succ _)) 0 nought⟩
  clear hr ht ht2 hx HL
  go_wp2_with fail
  exact bodyPost_ret (v := .tuple #[rv nought, .bool false]) (by simp [results, Try.results59, go_sem, v0, v1, v2, v3]) rfl ⟨rfl, HR.out.1, HR.out.2⟩
end
theorem infoq : ∃ i, Try.prog.info? 37 = some i ∧ i.bytes = 32 ∧ i.size = 4 ∧ i.zero = some (.agg #[.int .i64 0, .int .i64 0, .int .i64 0, .int .i64 0]) := by
  have h : (Try.prog.info? 37).map (fun i => (i.bytes, i.size, i.zero)) = some (32, 4, some (.agg #[.int .i64 0, .int .i64 0, .int .i64 0, .int .i64 0])) := by kernel_rfl
  obtain ⟨i, hi, hb⟩ := Option.map_eq_some_iff.1 h
  simp only [Prod.mk.injEq] at hb
  exact ⟨i, hi, hb⟩
abbrev zero4 : Array Value := #[.int .i64 0, .int .i64 0, .int .i64 0, .int .i64 0]
theorem mkslice_q (n : Nat) (hn : n ≤ 256) (w : World) : (Instr.makeSlice 33 (.int .i64 n) (.int .i64 n)).run Try.prog w = .ok (.slice (some ⟨w.heap.size, 0, none⟩) n n) (w.alloc (.cells (madeCells zero4 (n * 4)) Erw)) := by
  obtain ⟨i, hi, hb, hs, hz⟩ := infoq
  have := run_make (P := Try.prog) w 33 37 i (.agg zero4) Try.underlying33 hi hz .i64 .i64 n n (by omega) (Int.le_refl _) (by rw [hb]; omega) (by omega)
  simpa [hs, Value.cells] using this
theorem flat_made (cap : Nat) : Flat (madeCells zero4 (cap * 4)) (Array.replicate cap (rv nought)) := by
  refine ⟨by rw [size_madeCells]; simp, fun i hi => ⟨nought, ?_, ?_, ?_, ?_, ?_⟩⟩
  · simp at hi; simp [hi]
  all_goals
    simp at hi
    first
    | (have h1 : i * 4 < cap * 4 := by omega
       have h2 : (i * 4) % 4 = 0 := by omega
       simp [madeCells, h1, h2, nought]; done)
    | (have h1 : i * 4 + 1 < cap * 4 := by omega
       have h2 : (i * 4 + 1) % 4 = 1 := by omega
       simp [madeCells, h1, h2, nought]; done)
    | (have h1 : i * 4 + 2 < cap * 4 := by omega
       have h2 : (i * 4 + 2) % 4 = 2 := by omega
       simp [madeCells, h1, h2, nought]; done)
    | (have h1 : i * 4 + 3 < cap * 4 := by omega
       have h2 : (i * 4 + 3) % 4 = 3 := by omega
       simp [madeCells, h1, h2, nought]; done)
set_option maxRecDepth 20000 in
set_option maxHeartbeats 1000000 in
theorem new_lq (w : World) (cap : Nat) (h1 : 1 ≤ cap) (h2 : cap ≤ 256) :
    Calls Try.prog 56 #[.int .i64 cap] w fun e w' => ∃ p d c, e = .returned (.tuple #[.pointer (some ⟨p, 0, none⟩), .int .i64 0]) ∧ Rq w' p d c cap [] ∧ w.heap.size ≤ p ∧ w.heap.size ≤ d ∧ w.heap.size ≤ c ∧ Ext w w' := by
  have hmk := mkslice_q cap h2
  have hmc := mkchan cap h2
  have hA : Flat (madeCells zero4 (cap * 4)) (Array.replicate cap (rv nought)) := flat_made cap
  generalize madeCells zero4 (cap * 4) = A at *
  go_enter Try.func56, Try.ntmps56
  go_upto_region 3 with fail
  go_cut [4] (fun v wx => ∃ p d c, v = .pointer (some ⟨p, 0, none⟩) ∧ Hid (NewTo w wx Tq Erw p d c cap A 0))
  case first =>
    go_region
    · go_wp2_with fail
      go_meet
      exact ⟨_, _, _, rfl, ⟨rs_newA w cap A _ _, by omega, by omega, by omega, by omega, by omega, by omega, ((((Ext.refl w).alloc _).alloc _).alloc _).drew⟩⟩
    · go_wp2_with fail
      go_meet
      exact ⟨_, _, _, rfl, ⟨rs_newB w cap A _ _, by omega, by omega, by omega, by omega, by omega, by omega, ((((Ext.refl w).alloc _).alloc _).alloc _).drew⟩⟩
  case rest =>
    obtain ⟨p, d, c, rfl, hN⟩ := hcut
    clear hmk hmc
    go_wp2_with fail
    go_loopw [19] (fun i wr => ∃ k : Nat, k ≤ cap ∧ i = .int .i64 k ∧ Hid (NewTo w wr Tq Erw p d c cap A k)) (fun i _ => cap - (intOf i).toNat)
    case atStart => exact ⟨0, Nat.zero_le _, rfl, hN⟩
    case round =>
      obtain ⟨k, hk, rfl, hR⟩ := hrel
      by_cases hlt : k < cap
      · go_upto_region 7 with fail
        obtain ⟨hr, bp, bd, bc, hpd, hpc, hdc, hx⟩ := hR.out
        obtain ⟨c0, c1, c2, f0, f1, f2⟩ := hr.lay
        have hN' : Hid (NewTo w (wr.setChan c cap ((freeTo k).push (.int .i64 k)) false (k + 1) 0 false) Tq Erw p d c cap A (k + 1)) := ⟨by rw [freeTo_succ]; exact hr.setFree hpc hdc _ _ _, bp, bd, bc, hpd, hpc, hdc, below_setChan hx bc _ _ _ _ _ _⟩
        refine wp_region_comm 5 _ rfl ?_
        simp only [List.take_succ_cons, List.take_zero, List.drop_succ_cons, List.drop_zero]
        repeat still_step
        refine wpStill_nil ⟨rfl, _, _, hands_send (c := c) (v := .int .i64 k) (z := .tuple #[]) ?_ hr.2.2 (by rw [freeTo_size]; exact hlt), wpStill_nil ?_⟩
        · simp [go_sem, execOp, scase, Act.eval]
        generalize wr.setChan c cap ((freeTo k).push (.int .i64 k)) false (k + 1) 0 false = w2 at *
        clear hr bp bd bc hpd hpc hdc hx c0 c1 c2 f0 f1 f2 hR hN
        go_wp2_with fail
        go_round
        case measure => simp [intOf]; omega
        case rel => exact ⟨k + 1, by omega, by simp, hN'⟩
      · have hkc : k = cap := by omega
        subst hkc
        go_wp2_with fail
        go_ret2
        obtain ⟨hr, bp, bd, bc, hpd, hpc, hdc, hx⟩ := hR.out
        exact ⟨p, d, c, rfl, ⟨_, _, _, _, _, _, hr, hA, holds_new _ h1 h2 (Array.replicate k (rv nought)) (by simp), hpd, hpc, hdc⟩, bp, bd, bc, hx⟩
/-- how many things lie in the ring whose free places wait in c -/
def left (w : World) (c : Nat) : Nat := match w.heap[c]? with
  | some (.chan cap buf _ _ _ _) => cap - buf.size
  | _ => 0
theorem left_rq {w : World} {p d c cap : Nat} {l : List Raw} (h : Rq w p d c cap l) : left w c = l.length := by
  obtain ⟨first, A, A', buf, s, r, h, hf, hh, hd⟩ := h
  have := hh.2.2.2.2.1
  rw [rvq_len] at this
  simp only [left, h.2.2]
  omega
theorem Quiet.turn {w w' : World} {p d c : Nat} (h : Quiet w w') : Turn p d c w w' := by obtain ⟨n, rfl⟩ := h; exact drewN_turn n
theorem Quiet.rq {w w' : World} {p d c cap : Nat} {l : List Raw} (hq : Quiet w w') (h : Rq w p d c cap l) : Rq w' p d c cap l := by
  obtain ⟨n, rfl⟩ := hq; exact h.drewN n
set_option maxHeartbeats 2000000 in
theorem clear_lq {p d c cap : Nat} {l : List Raw} (w : World) (h : Rq w p d c cap l) :
    Calls Try.prog 69 #[.pointer (some ⟨p, 0, none⟩)] w fun e w' => (∃ v, e = .returned v) ∧ Rq w' p d c cap [] ∧ Turn p d c w w' := by
  have HP : Hid (∀ wr (l : List Raw), Rq wr p d c cap l → Calls Try.prog 62 #[.pointer (some ⟨p, 0, none⟩)] wr fun e w' => (∃ u, e = .returned u) ∧ Rq w' p d c cap l.tail ∧ Turn p d c wr w') := fun wr l h => (pop_lq wr h).mono fun e w' ⟨he, hr, ht⟩ => ⟨⟨_, he⟩, hr, ht⟩
  have HL : Hid (∀ wr (l : List Raw), Rq wr p d c cap l → Calls Try.prog 47 #[.pointer (some ⟨p, 0, none⟩)] wr fun e w' => e = .returned (.int .i64 l.length) ∧ Quiet wr w') := fun wr l h => len_lq wr h
  obtain ⟨hle, h1, h2⟩ := h.le
  have HR : Hid (Rq w p d c cap l) := h
  clear h
  go_enter Try.func69, Try.ntmps69
  go_wp2_with fail
  go_loopw [2] (fun _ wr => ∃ k : List Raw, k.length ≤ 256 ∧ Hid (Rq wr p d c cap k ∧ Turn p d c w wr)) (fun _ wr => left wr c)
  case atStart => exact ⟨l, by omega, HR.out, Turn.refl _ _ _ _⟩
  case round =>
    obtain ⟨k, hk, hR⟩ := hrel
    have HK := HL.out wr k hR.out.1
    cases k with
    | nil =>
      go_wp2_with (go_at_call 47; refine HK.mono ?_; rintro e w1 ⟨rfl, q1⟩)
      go_end0
      exact ⟨⟨_, rfl⟩, q1.rq hR.out.1, hR.out.2.trans q1.turn⟩
    | cons x k =>
      have HPk : Hid (∀ w1, Quiet wr w1 → Calls Try.prog 62 #[.pointer (some ⟨p, 0, none⟩)] w1 fun e w' => (∃ u, e = .returned u) ∧ (Rq w' p d c cap k ∧ Turn p d c w w')) := fun w1 q1 => (HP.out w1 (x :: k) (q1.rq hR.out.1)).mono fun e w' ⟨he, hr, ht⟩ => ⟨he, hr, (hR.out.2.trans q1.turn).trans ht⟩
      have hm : left wr c = (x :: k).length := left_rq hR.out.1
      have HM : Hid (left wr c = (x :: k).length) := hm
      have hpos : 0 < (k.length : Int) + 1 := by omega
      simp only [List.length_cons, Int.natCast_add, Int.cast_ofNat_Int] at HK
      clear hm
      go_wp2_with (first | (go_at_call 47; refine HK.mono ?_; rintro e w1 ⟨rfl, q1⟩) | (go_at_call 62; refine (HPk.out _ q1).mono ?_; rintro e w2 ⟨⟨u, rfl⟩, h2⟩))
      have H2 : Hid (Rq w2 p d c cap k ∧ Turn p d c w w2) := h2
      clear h2
      go_roundw
      case measure => rw [left_rq H2.out.1, HM.out]; simp
      case rel => exact ⟨k, by simp at hk; omega, H2⟩
end Go.Proofs.Ytfgljkeohoffiaa
