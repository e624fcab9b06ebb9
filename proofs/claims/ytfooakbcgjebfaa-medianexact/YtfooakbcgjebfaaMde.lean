/- A ring of vectors: the list that it holds; Push where there is room, New, Clear. -/
import Derived.Test.YtfooakbcgjebfaaMdd
namespace Go.Proofs.Ytfooakbcgjebfaa
open Go.RowKit Go.Conc
/-- vectors as values -/
def rvs (l : List Vc) : List Value := l.map rv
theorem rvs_len (l : List Vc) : (rvs l).length = l.length := by simp [rvs]
/-- A holds the cells of the vectors of A' -/
def Flat (A A' : Array Value) : Prop := A.size = A'.size * 3 ∧ ∀ i, i < A'.size → ∃ x, A'[i]? = some (rv x) ∧ A3 A (i * 3) x
theorem set3_size (A : Array Value) (o : Nat) (x : Vc) : (set3 A o x).size = A.size := by simp [set3]
theorem set3_ne (A : Array Value) (o i : Nat) (x : Vc) (h : i < o ∨ o + 3 ≤ i) : (set3 A o x)[i]? = A[i]? := by
  unfold set3
  rw [Array.getElem?_setIfInBounds_ne (by omega), Array.getElem?_setIfInBounds_ne (by omega), Array.getElem?_setIfInBounds_ne (by omega)]
theorem set3_at (A : Array Value) (o : Nat) (x : Vc) (h : o + 3 ≤ A.size) : A3 (set3 A o x) o x := by
  unfold set3 A3
  refine ⟨?_, ?_, ?_⟩
  · rw [Array.getElem?_setIfInBounds_ne (by omega), Array.getElem?_setIfInBounds_ne (by omega), Array.getElem?_setIfInBounds_self_of_lt (by omega)]
  · rw [Array.getElem?_setIfInBounds_ne (by omega), Array.getElem?_setIfInBounds_self_of_lt (by simp; omega)]
  · rw [Array.getElem?_setIfInBounds_self_of_lt (by simp; omega)]
theorem Flat.set {A A' : Array Value} (h : Flat A A') {q : Nat} (hq : q < A'.size) (x : Vc) : Flat (set3 A (q * 3) x) (A'.setIfInBounds q (rv x)) := by
  obtain ⟨h1, h2⟩ := h
  refine ⟨by rw [set3_size]; simp [h1], fun i hi => ?_⟩
  simp at hi
  by_cases e : i = q
  · subst e
    exact ⟨x, Array.getElem?_setIfInBounds_self_of_lt hq, set3_at _ _ _ (by omega)⟩
  · obtain ⟨y, a1, a2, a3, a4⟩ := h2 i hi
    refine ⟨y, ?_, ?_, ?_, ?_⟩
    · rw [Array.getElem?_setIfInBounds_ne (fun k => e k.symm)]; exact a1
    all_goals (rw [set3_ne _ _ _ _ (by omega)]; assumption)
theorem Flat.at {A A' : Array Value} (h : Flat A A') {q : Nat} {x : Vc} (hq : A'[q]? = some (rv x)) : A3 A (q * 3) x := by
  have hlt : q < A'.size := (Array.getElem?_eq_some_iff.1 hq).1
  obtain ⟨y, a1, a2⟩ := h.2 q hlt
  rw [hq] at a1
  have e : x = y := by
    obtain ⟨x0, x1, x2⟩ := x
    obtain ⟨y0, y1, y2⟩ := y
    simp only [rv, Option.some.injEq, Value.agg.injEq, Array.mk.injEq, List.cons.injEq, Value.int.injEq, true_and, and_true] at a1
    obtain ⟨rfl, rfl, rfl⟩ := a1
    rfl
  rw [e]; exact a2
/-- The ring of vectors at p holds l. -/
def Rq (w : World) (p d c cap : Nat) (l : List Vc) : Prop :=
  ∃ first A A' buf s r, RS w Tq Erw p d c cap first A buf s r ∧ Flat A A' ∧ Holds cap first A' buf (rvs l) ∧ p ≠ d ∧ p ≠ c ∧ d ≠ c
section
variable {p d c cap : Nat} {l : List Vc}
theorem Rq.ext {w w' : World} (h : Rq w p d c cap l) (hx : Ext w w') : Rq w' p d c cap l := by
  obtain ⟨first, A, A', buf, s, r, h, hf, hh, hd⟩ := h
  exact ⟨first, A, A', buf, s, r, h.ext hx, hf, hh, hd⟩
theorem Rq.tn {own : Nat → Prop} {w w' : World} (h : Rq w p d c cap l) (hx : Tn own w w') (h1 : ¬ own p) (h2 : ¬ own d) (h3 : ¬ own c) : Rq w' p d c cap l := by
  obtain ⟨first, A, A', buf, s, r, h, hf, hh, hd⟩ := h
  obtain ⟨lp, ld, lc⟩ := h.lt
  obtain ⟨a1, a2, a3⟩ := h
  exact ⟨first, A, A', buf, s, r, ⟨(hx.2 _ lp h1).trans a1, (hx.2 _ ld h2).trans a2, (hx.2 _ lc h3).trans a3⟩, hf, hh, hd⟩
theorem Rq.le {w : World} (h : Rq w p d c cap l) : l.length ≤ cap ∧ 1 ≤ cap ∧ cap ≤ 256 := by
  obtain ⟨first, A, A', buf, s, r, h, hf, hh, hd⟩ := h
  exact ⟨by have := hh.2.2.2.2.1; rw [rvs_len] at this; omega, hh.1, hh.2.1⟩
theorem Rq.lt {w : World} (h : Rq w p d c cap l) : p < w.heap.size ∧ d < w.heap.size ∧ c < w.heap.size := by
  obtain ⟨first, A, A', buf, s, r, h, hf, hh, hd⟩ := h
  exact h.lt
theorem Rq.ne {w : World} (h : Rq w p d c cap l) : p ≠ d ∧ p ≠ c ∧ d ≠ c := by
  obtain ⟨first, A, A', buf, s, r, h, hf, hh, hd⟩ := h
  exact hd
theorem Rq.drewN {w : World} (h : Rq w p d c cap l) (n : Nat) : Rq (w.drewN n) p d c cap l := h
theorem len_lq (w : World) (h : Rq w p d c cap l) :
    Calls Try.prog 30 #[.pointer (some ⟨p, 0, none⟩)] w fun e w' => e = .returned (.int .i64 l.length) ∧ Quiet w w' := by
  obtain ⟨first, A, A', buf, s, r, h, hf, hh, hd⟩ := h
  have := hh.2.2.2.2.1
  rw [rvs_len] at this
  exact len_q w h this hh.2.1
theorem cap_lq (w : World) (h : Rq w p d c cap l) :
    Calls Try.prog 56 #[.pointer (some ⟨p, 0, none⟩)] w fun e w' => e = .returned (.int .i64 cap) ∧ w' = w := by
  obtain ⟨first, A, A', buf, s, r, h, hf, hh, hd⟩ := h
  exact cap_q w h
/-- what Pop hands back -/
def popped (l : List Vc) : Value := .tuple #[rv (l.headD nought), .bool (!l.isEmpty)]
theorem pop_lq (w : World) (h : Rq w p d c cap l) :
    Calls Try.prog 38 #[.pointer (some ⟨p, 0, none⟩)] w fun e w' => e = .returned (popped l) ∧ Rq w' p d c cap l.tail ∧ Turn p d c w w' := by
  have h' := h
  obtain ⟨first, A, A', buf, s, r, h, hf, hh, hpd, hpc, hdc⟩ := h
  cases l with
  | nil =>
    refine (pop_none_q w h hh.2.1 (by have := hh.2.2.2.2.1; simpa [rvs] using this)).mono ?_
    rintro e w' ⟨rfl, hx⟩
    exact ⟨rfl, h'.ext hx, Turn.of_ext hx⟩
  | cons x l =>
    have hh0 : Holds cap first A' buf (rv x :: rvs l) := hh
    obtain ⟨hv, hh'⟩ := hh0.pop (rv nought)
    have a1 := hf.at hv
    have hs := hh.2.2.2.2.1
    rw [rvs_len] at hs
    refine (pop_some_q w h hpd hpc hdc hh.2.2.1 hh.2.1 (len := l.length) hs a1).mono ?_
    rintro e w' ⟨rfl, hr, ht⟩
    have hA : first < A'.size := by have h1 := hh.2.2.1; have h2 := hh.2.2.2.1; omega
    exact ⟨rfl, ⟨_, _, _, _, _, _, hr, hf.set hA nought, hh', hpd, hpc, hdc⟩, ht⟩
theorem lay_lq (w : World) (h : Rq w p d c cap l) (x : Vc) (hl : l.length < cap) :
    Calls Try.prog 37 #[.pointer (some ⟨p, 0, none⟩), rv x] w fun e w' =>
      e = .returned (.bool true) ∧ Rq w' p d c cap (l ++ [x]) ∧ Turn p d c w w' := by
  have h0 := h
  obtain ⟨first, A, A', buf, s, r, h, hf, hh, hpd, hpc, hdc⟩ := h
  obtain ⟨hq, hlt, hh'⟩ := hh.push (by rw [rvs_len]; exact hl) (rv x)
  rw [rvs_len] at hq hlt hh'
  have hA : (first + l.length) % cap < A'.size := by have h2 := hh.2.2.2.1; omega
  obtain ⟨y, _, a2⟩ := hf.2 _ hA
  refine (lay_free_q w h hpd hpc hdc x hq hlt a2).mono ?_
  rintro e w' ⟨rfl, hr, ht⟩
  have e1 : rvs l ++ [rv x] = rvs (l ++ [x]) := by simp [rvs]
  rw [e1] at hh'
  exact ⟨rfl, ⟨_, _, _, _, _, _, hr, hf.set hA x, hh', hpd, hpc, hdc⟩, ht⟩
theorem Rq.put3 {w : World} (h : Rq w p d c cap l) {b : Nat} (hb : b ≠ p ∧ b ≠ d ∧ b ≠ c) (o : Nat) (x : Vc) : Rq (Go.Proofs.Ytfooakbcgjebfaa.put3 w b o x) p d c cap l := by
  obtain ⟨first, A, A', buf, s, r, h, hf, hh, hd⟩ := h
  exact ⟨first, A, A', buf, s, r, h.put3 hb o x, hf, hh, hd⟩
abbrev cells3 (x : Vc) : Obj := .cells #[.int .i64 x.x, .int .i64 x.y, .int .i64 x.z] Erw
abbrev cells0 : Obj := .cells #[.int .i64 0, .int .i64 0, .int .i64 0] Erw
/-- three new variables: x, and two noughts -/
theorem three_vars (w : World) (x : Vc) :
    P3 (((w.alloc (cells3 x)).alloc cells0).alloc cells0) (w.heap.size + 1) nought ∧ P3 (((w.alloc (cells3 x)).alloc cells0).alloc cells0) (w.heap.size + 1 + 1) nought ∧
    Ext w (((w.alloc (cells3 x)).alloc cells0).alloc cells0) :=
  ⟨(p3_at (r := nought) (by simp)).alloc _, p3_at (r := nought) (by simp), (((Ext.refl w).alloc _).alloc _).alloc _⟩
set_option maxRecDepth 20000 in
set_option maxHeartbeats 2000000 in
theorem push_lq (w : World) (h : Rq w p d c cap l) (x : Vc) (hl : l.length < cap) :
    Calls Try.prog 29 #[.pointer (some ⟨p, 0, none⟩), rv x] w fun e w' => e = .returned (.tuple #[rv nought, .bool false]) ∧ Rq w' p d c cap (l ++ [x]) ∧ Turn p d c w w' := by
  obtain ⟨hV, hZ, hx⟩ := three_vars w x
  obtain ⟨lp, ld, lc⟩ := h.lt
  have HL := lay_lq _ (h.ext hx) x hl
  have nV : Hid (w.heap.size + 1 ≠ p ∧ w.heap.size + 1 ≠ d ∧ w.heap.size + 1 ≠ c) := by show _ ∧ _; omega
  have nZ : Hid (w.heap.size + 1 + 1 ≠ p ∧ w.heap.size + 1 + 1 ≠ d ∧ w.heap.size + 1 + 1 ≠ c) := by show _ ∧ _; omega
  have HV : Hid (P3 _ (w.heap.size + 1) nought) := hV
  have HZ : Hid (P3 _ (w.heap.size + 1 + 1) nought) := hZ
  clear hV hZ h hl
  go_enter Try.func29, Try.ntmps29
  go_upto_region 3 with (go_at_call 37; refine HL.mono ?_; rintro e w1 ⟨rfl, hr, ht⟩)
  have hV1 := HV.out.turn ht nV.out
  have hZ1 := HZ.out.turn ht nZ.out
  obtain ⟨⟨z0, z1, z2⟩, zf0, zf1, zf2⟩ := hZ1
  obtain ⟨⟨v0, v1, v2⟩, vf0, vf1, vf2⟩ := id hV1
  have ht2 : Turn p d c w w1 := (Turn.of_ext hx).trans ht
  have HR : Hid (Rq (put3 w1 (w.heap.size + 1) 0 nought) p d c cap (l ++ [x]) ∧ Turn p d c w (put3 w1 (w.heap.size + 1) 0 nought)) := ⟨hr.put3 nV.out 0 nought, ht2.put3 (.inl (Nat.le_succ _)) 0 nought⟩
  clear hr ht ht2 hx HL
  go_wp2_with fail
  exact bodyPost_ret (v := .tuple #[rv nought, .bool false]) (by simp [results, Try.results29, go_sem, v0, v1, v2]) rfl ⟨rfl, HR.out.1, HR.out.2⟩
end
theorem infoq : ∃ i, Try.prog.info? 25 = some i ∧ i.bytes = 24 ∧ i.size = 3 ∧ i.zero = some (.agg #[.int .i64 0, .int .i64 0, .int .i64 0]) := by
  have h : (Try.prog.info? 25).map (fun i => (i.bytes, i.size, i.zero)) = some (24, 3, some (.agg #[.int .i64 0, .int .i64 0, .int .i64 0])) := by kernel_rfl
  obtain ⟨i, hi, hb⟩ := Option.map_eq_some_iff.1 h
  simp only [Prod.mk.injEq] at hb
  exact ⟨i, hi, hb⟩
abbrev zero3 : Array Value := #[.int .i64 0, .int .i64 0, .int .i64 0]
theorem mkslice_q (n : Nat) (hn : n ≤ 256) (w : World) : (Instr.makeSlice 23 (.int .i64 n) (.int .i64 n)).run Try.prog w = .ok (.slice (some ⟨w.heap.size, 0, none⟩) n n) (w.alloc (.cells (madeCells zero3 (n * 3)) Erw)) := by
  obtain ⟨i, hi, hb, hs, hz⟩ := infoq
  have := run_make (P := Try.prog) w 23 25 i (.agg zero3) Try.underlying23 hi hz .i64 .i64 n n (by omega) (Int.le_refl _) (by rw [hb]; omega) (by omega)
  simpa [hs, Value.cells] using this
theorem flat_made (cap : Nat) : Flat (madeCells zero3 (cap * 3)) (Array.replicate cap (rv nought)) := by
  refine ⟨by rw [size_madeCells]; simp, fun i hi => ⟨nought, ?_, ?_, ?_, ?_⟩⟩
  · simp at hi; simp [hi]
  all_goals
    simp at hi
    first
    | (have h1 : i * 3 < cap * 3 := by omega
       have h2 : (i * 3) % 3 = 0 := by omega
       simp [madeCells, h1, h2, nought]; done)
    | (have h1 : i * 3 + 1 < cap * 3 := by omega
       have h2 : (i * 3 + 1) % 3 = 1 := by omega
       simp [madeCells, h1, h2, nought]; done)
    | (have h1 : i * 3 + 2 < cap * 3 := by omega
       have h2 : (i * 3 + 2) % 3 = 2 := by omega
       simp [madeCells, h1, h2, nought]; done)
set_option maxRecDepth 20000 in
set_option maxHeartbeats 1000000 in
theorem new_lq (w : World) (cap : Nat) (h1 : 1 ≤ cap) (h2 : cap ≤ 256) :
    Calls Try.prog 28 #[.int .i64 cap] w fun e w' => ∃ p d c, e = .returned (.tuple #[.pointer (some ⟨p, 0, none⟩), .int .i64 0]) ∧ Rq w' p d c cap [] ∧ w.heap.size ≤ p ∧ w.heap.size ≤ d ∧ w.heap.size ≤ c ∧ Ext w w' := by
  have hmk := mkslice_q cap h2
  have hmc := mkchan cap h2
  have hA : Flat (madeCells zero3 (cap * 3)) (Array.replicate cap (rv nought)) := flat_made cap
  generalize madeCells zero3 (cap * 3) = A at *
  go_enter Try.func28, Try.ntmps28
  go_upto_region 3 with fail
  go_cut [4] (fun v wx => ∃ p d c, v = .pointer (some ⟨p, 0, none⟩) ∧ Hid (NewTo w wx Tq Erw p d c cap A 0))
  case first =>
    go_region
    · go_wp2_with fail
      go_meet
      exact ⟨_, _, _, rfl, ⟨rs_newA w cap A _ _, by omega, by omega, by omega, by omega, by omega, by omega, ((((Ext.refl w).alloc _).alloc _).alloc _).drew⟩⟩
    · go_wp2_with fail
      go_meet
      exact ⟨_, _, _, rfl, ⟨rs_newB w cap A _ _, by omega, by omega, by omega, by omega, by omega, by omega, ((((Ext.refl w).alloc _).alloc _).alloc _).drew⟩⟩
  case rest =>
    obtain ⟨p, d, c, rfl, hN⟩ := hcut
    clear hmk hmc
    go_wp2_with fail
    go_loopw [19] (fun i wr => ∃ k : Nat, k ≤ cap ∧ i = .int .i64 k ∧ Hid (NewTo w wr Tq Erw p d c cap A k)) (fun i _ => cap - (intOf i).toNat)
    case atStart => exact ⟨0, Nat.zero_le _, rfl, hN⟩
    case round =>
      obtain ⟨k, hk, rfl, hR⟩ := hrel
      by_cases hlt : k < cap
      · go_upto_region 7 with fail
        obtain ⟨hr, bp, bd, bc, hpd, hpc, hdc, hx⟩ := hR.out
        obtain ⟨c0, c1, c2, f0, f1, f2⟩ := hr.lay
        have hN' : Hid (NewTo w (wr.setChan c cap ((freeTo k).push (.int .i64 k)) false (k + 1) 0 false) Tq Erw p d c cap A (k + 1)) := ⟨by rw [freeTo_succ]; exact hr.setFree hpc hdc _ _ _, bp, bd, bc, hpd, hpc, hdc, below_setChan hx bc _ _ _ _ _ _⟩
        refine wp_region_comm 5 _ rfl ?_
        simp only [List.take_succ_cons, List.take_zero, List.drop_succ_cons, List.drop_zero]
        repeat still_step
        refine wpStill_nil ⟨rfl, _, _, hands_send (c := c) (v := .int .i64 k) (z := .tuple #[]) ?_ hr.2.2 (by rw [freeTo_size]; exact hlt), wpStill_nil ?_⟩
        · simp [go_sem, execOp, scase, Act.eval]
        generalize wr.setChan c cap ((freeTo k).push (.int .i64 k)) false (k + 1) 0 false = w2 at *
        clear hr bp bd bc hpd hpc hdc hx c0 c1 c2 f0 f1 f2 hR hN
        go_wp2_with fail
        go_round
        case measure => simp [intOf]; omega
        case rel => exact ⟨k + 1, by omega, by simp, hN'⟩
      · have hkc : k = cap := by omega
        subst hkc
        go_wp2_with fail
        go_ret2
        obtain ⟨hr, bp, bd, bc, hpd, hpc, hdc, hx⟩ := hR.out
        exact ⟨p, d, c, rfl, ⟨_, _, _, _, _, _, hr, hA, holds_new _ h1 h2 (Array.replicate k (rv nought)) (by simp), hpd, hpc, hdc⟩, bp, bd, bc, hx⟩
theorem Quiet.turn {w w' : World} {p d c : Nat} (h : Quiet w w') : Turn p d c w w' := by obtain ⟨n, rfl⟩ := h; exact drewN_turn n
theorem Quiet.rq {w w' : World} {p d c cap : Nat} {l : List Vc} (hq : Quiet w w') (h : Rq w p d c cap l) : Rq w' p d c cap l := by
  obtain ⟨n, rfl⟩ := hq; exact h.drewN n
end Go.Proofs.Ytfooakbcgjebfaa
