/- RingExact. -/
import Derived.Test.YtblpdnpfhjnbgaaRe1
import Derived.Deep.DeepCutAuto
namespace Go.Proofs.Ytblpdnpfhjnbgaa
open Go.RowKit Go.Conc Go.Shelf
set_option maxRecDepth 20000 in
set_option maxHeartbeats 8000000 in
theorem exact_any (a : Option Addr) (len cap : Nat) (C : Int) (D N : Nat → Int) (S : Nat → ByteArray) (w : World) (hl : len ≤ maxLen) (hC : -9223372036854775808 ≤ C ∧ C ≤ 9223372036854775807) (hc : Acts w a len D N S) :
    Calls Try.prog 3 #[.agg #[.int .i64 C, .slice a len cap]] w fun e w' => e = .returned (.bool true) ∧ Ext w w' := by
  have hl' : len ≤ 9223372036854775807 := by unfold maxLen at hl; omega
  have HN : Hid (∀ v w', Calls Try.prog 7 #[.int .i64 v] w' fun e w'' => e = .returned (.int .i64 v) ∧ w'' = w') := num_any
  have HWk : Hid (∀ w', Calls Try.prog 8 #[] w' fun e w'' => e = .returned (.bool true) ∧ Ext w' w'') := wakes_any
  have hx0 : Ext w (w.alloc (.cells #[.int .i64 C, .slice a len cap] 24)) := (Ext.refl w).alloc _
  clear hl
  by_cases hb : C < 1 ∨ 256 < C
  · have HB := new_bad_p (w.alloc (.cells #[.int .i64 C, .slice a len cap] 24)) C hb
    by_cases h1 : C < 1
    · clear hb hc
      go_enter Try.func3, Try.ntmps3
      go_wp2_with (first | (go_at_call 6; refine HB.mono ?_; rintro e w1 ⟨rfl, hw1⟩; have hw2 := hw1.symm; clear hw1; subst hw2) | (go_at_call 7; refine (HN.out _ _).mono ?_; rintro e wx ⟨rfl, hwx⟩; have hwy := hwx.symm; clear hwx; subst hwy) | (go_at_call 8; refine (HWk.out _).mono ?_; rintro e wk ⟨rfl, xk⟩))
      go_ret
      exact ⟨rfl, hx0.trans xk⟩
    · have h2 : 256 < C := by omega
      clear hb hc
      go_enter Try.func3, Try.ntmps3
      go_wp2_with (first | (go_at_call 6; refine HB.mono ?_; rintro e w1 ⟨rfl, hw1⟩; have hw2 := hw1.symm; clear hw1; subst hw2) | (go_at_call 7; refine (HN.out _ _).mono ?_; rintro e wx ⟨rfl, hwx⟩; have hwy := hwx.symm; clear hwx; subst hwy) | (go_at_call 8; refine (HWk.out _).mono ?_; rintro e wk ⟨rfl, xk⟩))
      go_ret
      exact ⟨rfl, hx0.trans xk⟩
  · obtain ⟨n, rfl⟩ : ∃ n : Nat, C = n := ⟨C.toNat, by omega⟩
    have hn1 : 1 ≤ n := by omega
    have hn2 : n ≤ 256 := by omega
    have HA := new_p (w.alloc (.cells #[.int .i64 n, .slice a len cap] 24)) n hn1 hn2
    have hcw : Hid (Acts w a len D N S) := hc
    have hb1 : ¬ (n : Int) < 1 := by omega
    have hb2 : ¬ (256 : Int) < n := by omega
    clear hb hc hC
    go_enter Try.func3, Try.ntmps3
    go_upto_block 0 with (first | (go_at_call 6; refine HA.mono ?_; rintro e w1 ⟨p, d, c, rfl, r1, bp, bd, bc, x1⟩; have zA := x1.keepc (b := w.heap.size) (o := 0) (v := .int .i64 n) (by simp [go_sem]); have zB := x1.keepc (b := w.heap.size) (o := 1) (v := .slice a len cap) (by simp [go_sem])) | (go_at_call 7; refine (HN.out _ _).mono ?_; rintro e wx ⟨rfl, hwx⟩; have hwy := hwx.symm; clear hwx; subst hwy))
    have hsz : (w.alloc (.cells #[.int .i64 n, .slice a len cap] 24)).heap.size = w.heap.size + 1 := by simp
    have hE0 : Hid (Ev w w1 w.heap.size p d c n len cap a none D N S []) := by
      rw [hsz] at bp bd bc
      refine ⟨zA, zB, (hcw.out.ext hx0).ext x1, r1, fun i e he => by simp at he, hx0.trans x1, by omega, by omega, fun b off ea hpos => ?_, fun _ _ e _ => by cases e⟩
      obtain ⟨b', off', ea', hh⟩ := hcw.out 0 hpos
      rw [ea] at ea'
      simp only [Option.some.injEq, Addr.mk.injEq, and_true] at ea'
      have hlt : b' < w.heap.size := World.block_lt_of_cell? w ⟨b', _, none⟩ hh.1
      omega
    clear HA HN hsz bp bd bc zA zB x1 r1 hcw hx0
    generalize hB : w.heap.size = B at *
    have HBw : Hid (w.heap.size = B) := hB
    clear hB
    go_wp2_with fail
    go_loopw [5, 6] (fun s5 s6 wr => ∃ (k : Nat) (al : Option Addr) (cl : Nat) (L : List (Int × ByteArray)), k ≤ len ∧ k ≤ 60 ∧ s6 = .int .i64 k ∧ s5 = .slice al L.length cl ∧ Hid (L.length ≤ cl ∧ Ev w wr B p d c n len cap a al D N S L)) (fun _ s6 _ => len - (intOf s6).toNat)
    case atStart => exact ⟨0, none, 0, [], Nat.zero_le _, by omega, rfl, rfl, Nat.le_refl _, hE0.out⟩
    case round =>
      obtain ⟨k, al, cl, L, hk, hk60, rfl, rfl, hR⟩ := hrel
      have z1 := hR.out.2.s1
      by_cases hlt : k < len
      · by_cases h60 : k < 60
        · obtain ⟨b, off, ea, _⟩ := hR.out.2.ac k hlt
          subst ea
          obtain ⟨y0, y1, y2, bD, bN⟩ := hR.out.2.ac.row hlt
          obtain ⟨q, hq8, HQ0⟩ := within_any (D k) 8 (by omega) (by omega)
          have HQ : Hid (∀ w, Calls Try.prog 9 #[.int .i64 (D k), .int .i64 8] w fun e w' => e = .returned (.int .i64 q) ∧ w' = w) := HQ0
          clear HQ0 hE0
          go_upto_block 2 with (go_at_call 9; refine (HQ.out _).mono ?_; rintro e wx ⟨rfl, hwx⟩; have hwy := hwx.symm; clear hwx; subst hwy)
          have hxx : Ext wr ((wr.alloc (.cells #[.int .i64 (D k), .int .i64 (N k), .string (S k)] 35)).alloc (.cells #[.int .i64 (N k), .string (S k)] Ep)) := ((Ext.refl wr).alloc _).alloc _
          have hE2 : Hid (L.length ≤ cl ∧ Ev w ((wr.alloc (.cells #[.int .i64 (D k), .int .i64 (N k), .string (S k)] 35)).alloc (.cells #[.int .i64 (N k), .string (S k)] Ep)) B p d c n len cap (some ⟨b, off, none⟩) al D N S L) := ⟨hR.out.1, hR.out.2.ext hxx⟩
          have hX2 : Hid (P2 ((wr.alloc (.cells #[.int .i64 (D k), .int .i64 (N k), .string (S k)] 35)).alloc (.cells #[.int .i64 (N k), .string (S k)] Ep)) (wr.heap.size + 1) (N k) (S k)) := p2_at (by simp)
          have hA2 : Hid (((wr.alloc (.cells #[.int .i64 (D k), .int .i64 (N k), .string (S k)] 35)).alloc (.cells #[.int .i64 (N k), .string (S k)] Ep)).cell? ⟨wr.heap.size, 0, none⟩ = some (.int .i64 (D k)) ∧ ((wr.alloc (.cells #[.int .i64 (D k), .int .i64 (N k), .string (S k)] 35)).alloc (.cells #[.int .i64 (N k), .string (S k)] Ep)).cell? ⟨wr.heap.size, 1, none⟩ = some (.int .i64 (N k))) := by show _ ∧ _; constructor <;> simp [go_sem]
          have hxw : Hid (w.heap.size ≤ wr.heap.size) := hR.out.2.x.size
          have HXA : Hid (wr.heap.size + 1 ≠ p ∧ wr.heap.size + 1 ≠ d ∧ wr.heap.size + 1 ≠ c) := by show _ ∧ _ ∧ _; have := hR.out.2.r.lt; omega
          clear hxx hR y0 y1 y2 z1
          generalize ((wr.alloc (.cells #[.int .i64 (D k), .int .i64 (N k), .string (S k)] 35)).alloc (.cells #[.int .i64 (N k), .string (S k)] Ep)) = W at *
          generalize hAB : wr.heap.size = A0 at *
          clear hAB
          go_cut [5, 9, 10, 11, 12, 13, 14, 15, 16] from 72 to 207 (fun s5 _ _ _ _ _ _ _ _ wx => ∃ (al' : Option Addr) (cl' : Nat) (L' : List (Int × ByteArray)), s5 = .slice al' L'.length cl' ∧ Hid (L'.length ≤ cl' ∧ Ev w wx B p d c n len cap (some ⟨b, off, none⟩) al' D N S L'))
          case first =>
            have hq : q = 3 ∨ q = 4 ∨ q = 5 ∨ q = 6 ∨ q = 7 ∨ q < 3 := by omega
            obtain ⟨a0, a1⟩ := hA2.out
            rcases hq with rfl | rfl | rfl | rfl | rfl | hq3
            · as_aux_lemma =>
                cases L with
                | nil =>
                  have HP := pop_nil_p W hE2.out.2.r
                  have heq := eqP 0 0 ⟨#[]⟩ ⟨#[]⟩
                  go_upto_region 21 with (go_at_call 10; refine HP.mono ?_; rintro e x1 ⟨rfl, r1, t1⟩)
                  have hy : P2 (x1.alloc (.cells #[.int .i64 0, .string ⟨#[]⟩] Ep)) x1.heap.size 0 ⟨#[]⟩ := p2_at rfl
                  have hE5 := hE2.out.2.same t1 r1
                  have hE6 := hE5.ext ((Ext.refl x1).alloc (.cells #[.int .i64 0, .string ⟨#[]⟩] Ep))
                  have HE6 : Hid (Ev w (x1.alloc (.cells #[.int .i64 0, .string ⟨#[]⟩] Ep)) B p d c n len cap (some ⟨b, off, none⟩) al D N S []) := hE6
                  clear r1 t1 hE5 hE6
                  generalize x1.alloc (.cells #[.int .i64 0, .string ⟨#[]⟩] Ep) = W6 at *
                  obtain ⟨y0, y1, _, _⟩ := hy
                  go_quiet (fail)
                  have HE7 : Hid (Ev w (W6.drewN nq) B p d c n len cap (some ⟨b, off, none⟩) al D N S []) := HE6.out.ext (drewN_ext nq)
                  go_wp2_with fail
                  go_meet
                  exact ⟨al, cl, [], rfl, hE2.out.1, HE7.out⟩
                | cons e L =>
                  obtain ⟨e1, e2⟩ := e
                  obtain ⟨lb, lo, hal, _, _⟩ := hE2.out.2.sl 0 (e1, e2) rfl
                  subst hal
                  have HP := pop_cons_p W hE2.out.2.r
                  have heq := eqP e1 e1 e2 e2
                  have hcl : L.length + 1 ≤ cl := hE2.out.1
                  go_upto_region 21 with (go_at_call 10; refine HP.mono ?_; rintro e x1 ⟨rfl, r1, t1⟩)
                  have hy : P2 (x1.alloc (.cells #[.int .i64 e1, .string e2] Ep)) x1.heap.size e1 e2 := p2_at rfl
                  have hS6 := (hE2.out.2.turn t1).2.2.2.1.ext ((Ext.refl x1).alloc (.cells #[.int .i64 e1, .string e2] Ep))
                  have HE6 : Hid (Ev w (x1.alloc (.cells #[.int .i64 e1, .string e2] Ep)) B p d c n len cap (some ⟨b, off, none⟩) (some ⟨lb, lo + 2, none⟩) D N S L) := (hE2.out.2.pop t1 r1).ext ((Ext.refl x1).alloc (.cells #[.int .i64 e1, .string e2] Ep))
                  clear r1 t1
                  generalize x1.alloc (.cells #[.int .i64 e1, .string e2] Ep) = W6 at *
                  obtain ⟨y0, y1, _, _⟩ := hy
                  have hS0 : W6.cell? ⟨lb, lo, none⟩ = some (.int .i64 e1) ∧ W6.cell? ⟨lb, lo + 1, none⟩ = some (.string e2) := by
                    obtain ⟨b', o', ea, s0, s1⟩ := hS6 0 (e1, e2) rfl
                    simp only [Option.some.injEq, Addr.mk.injEq, and_true] at ea
                    obtain ⟨rfl, rfl⟩ := ea
                    simpa using ⟨s0, s1⟩
                  obtain ⟨s0, s1⟩ := hS0
                  clear hS6
                  go_quiet (fail)
                  have HE7 : Hid (Ev w (W6.drewN nq) B p d c n len cap (some ⟨b, off, none⟩) (some ⟨lb, lo + 2, none⟩) D N S L) := HE6.out.ext (drewN_ext nq)
                  by_cases hc1 : cl = 1
                  · subst hc1
                    have hL0 : L = [] := List.length_eq_zero_iff.1 (by omega)
                    subst hL0
                    have HE8 : Hid (Ev w (W6.drewN nq) B p d c n len cap (some ⟨b, off, none⟩) (some ⟨lb, lo, none⟩) D N S []) := HE7.out.clear (Turn.refl _ _ _ _) HE7.out.r _
                    go_wp2_with fail
                    go_meet
                    exact ⟨some ⟨lb, lo, none⟩, 0, [], rfl, Nat.le_refl _, HE8.out⟩
                  · go_wp2_with fail
                    go_meet
                    exact ⟨some ⟨lb, lo + 2, none⟩, cl - 1, L, rfl, by show _ ≤ _; omega, HE7.out⟩
            · as_aux_lemma =>
                have s0 := hE2.out.2.s0
                have hn0 : ¬ (n : Int) + 2 = 0 := by omega
                go_upto_region 27 with fail
                generalize wrap64 ((N k).tmod ((n : Int) + 2) - 1) = kk
                clear s0
                by_cases hin : 0 ≤ kk ∧ kk < (L.length : Int)
                · obtain ⟨j, rfl⟩ : ∃ j : Nat, kk = j := ⟨kk.toNat, by omega⟩
                  have hj : j < L.length := by omega
                  obtain ⟨⟨e1, e2⟩, he⟩ : ∃ e, L[j]? = some e := ⟨_, List.getElem?_eq_getElem hj⟩
                  obtain ⟨lb, lo, hal, _, _⟩ := hE2.out.2.sl j (e1, e2) he
                  subst hal
                  have HP := at_in_l_p W hE2.out.2.r j he
                  have heq := eqP e1 e1 e2 e2
                  have g1 : (0 : Int) ≤ (j : Int) := by omega
                  have g2 : (j : Int) < (L.length : Int) := by omega
                  go_upto_region 29 with (go_at_call 11; refine HP.mono ?_; rintro e x1 ⟨rfl, hx1⟩)
                  have hy : P2 (x1.alloc (.cells #[.int .i64 e1, .string e2] Ep)) x1.heap.size e1 e2 := p2_at rfl
                  have hx2 := hx1.alloc (.cells #[.int .i64 e1, .string e2] Ep)
                  have hS6 := hE2.out.2.sl.ext hx2
                  have HE6 : Hid (Ev w (x1.alloc (.cells #[.int .i64 e1, .string e2] Ep)) B p d c n len cap (some ⟨b, off, none⟩) (some ⟨lb, lo, none⟩) D N S L) := hE2.out.2.ext hx2
                  clear hx1 hx2
                  generalize x1.alloc (.cells #[.int .i64 e1, .string e2] Ep) = W6 at *
                  obtain ⟨y0, y1, _, _⟩ := hy
                  have hS0 : W6.cell? ⟨lb, lo + j * 2, none⟩ = some (.int .i64 e1) ∧ W6.cell? ⟨lb, lo + j * 2 + 1, none⟩ = some (.string e2) := by
                    obtain ⟨b', o', ea, s0, s1⟩ := hS6 j (e1, e2) he
                    simp only [Option.some.injEq, Addr.mk.injEq, and_true] at ea
                    obtain ⟨rfl, rfl⟩ := ea
                    exact ⟨s0, s1⟩
                  obtain ⟨s0, s1⟩ := hS0
                  clear hS6 he
                  go_quiet (fail)
                  have HE7 : Hid (Ev w (W6.drewN nq) B p d c n len cap (some ⟨b, off, none⟩) (some ⟨lb, lo, none⟩) D N S L) := HE6.out.ext (drewN_ext nq)
                  go_wp2_with fail
                  go_meet
                  exact ⟨some ⟨lb, lo, none⟩, cl, L, rfl, hE2.out.1, HE7.out⟩
                · have HP := at_out_l_p W hE2.out.2.r kk (by omega)
                  have heq := eqP 0 0 ⟨#[]⟩ ⟨#[]⟩
                  by_cases hneg : kk < 0
                  · clear hin
                    go_upto_region 29 with (go_at_call 11; refine HP.mono ?_; rintro e x1 ⟨rfl, hx1⟩)
                    have hy : P2 (x1.alloc (.cells #[.int .i64 0, .string ⟨#[]⟩] Ep)) x1.heap.size 0 ⟨#[]⟩ := p2_at rfl
                    have HE6 : Hid (Ev w (x1.alloc (.cells #[.int .i64 0, .string ⟨#[]⟩] Ep)) B p d c n len cap (some ⟨b, off, none⟩) al D N S L) := hE2.out.2.ext (hx1.alloc (.cells #[.int .i64 0, .string ⟨#[]⟩] Ep))
                    clear hx1
                    generalize x1.alloc (.cells #[.int .i64 0, .string ⟨#[]⟩] Ep) = W6 at *
                    obtain ⟨y0, y1, _, _⟩ := hy
                    go_quiet (fail)
                    have HE7 : Hid (Ev w (W6.drewN nq) B p d c n len cap (some ⟨b, off, none⟩) al D N S L) := HE6.out.ext (drewN_ext nq)
                    go_wp2_with fail
                    go_meet
                    exact ⟨al, cl, L, rfl, hE2.out.1, HE7.out⟩
                  · have g1 : 0 ≤ kk := by omega
                    have g2 : (kk < (L.length : Int)) = False := eq_false (by omega)
                    have g3 : ((L.length : Int) ≤ kk) = True := eq_true (by omega)
                    obtain ⟨jj, rfl⟩ : ∃ jj : Nat, kk = jj := ⟨kk.toNat, by omega⟩
                    have g4 : ¬ jj < L.length := by omega
                    clear hin hneg
                    go_upto_region 29 with (go_at_call 11; refine HP.mono ?_; rintro e x1 ⟨rfl, hx1⟩)
                    have hy : P2 (x1.alloc (.cells #[.int .i64 0, .string ⟨#[]⟩] Ep)) x1.heap.size 0 ⟨#[]⟩ := p2_at rfl
                    have HE6 : Hid (Ev w (x1.alloc (.cells #[.int .i64 0, .string ⟨#[]⟩] Ep)) B p d c n len cap (some ⟨b, off, none⟩) al D N S L) := hE2.out.2.ext (hx1.alloc (.cells #[.int .i64 0, .string ⟨#[]⟩] Ep))
                    clear hx1
                    generalize x1.alloc (.cells #[.int .i64 0, .string ⟨#[]⟩] Ep) = W6 at *
                    obtain ⟨y0, y1, _, _⟩ := hy
                    go_quiet (fail)
                    have HE7 : Hid (Ev w (W6.drewN nq) B p d c n len cap (some ⟨b, off, none⟩) al D N S L) := HE6.out.ext (drewN_ext nq)
                    go_wp2_with fail
                    go_meet
                    exact ⟨al, cl, L, rfl, hE2.out.1, HE7.out⟩
            · as_aux_lemma =>
                have HCl := clear_p W hE2.out.2.r
                go_wp2_with (go_at_call 12; refine HCl.mono ?_; rintro e x1 ⟨⟨v1, rfl⟩, r1, t1⟩)
                go_meet
                exact ⟨none, 0, [], rfl, Nat.le_refl _, hE2.out.2.clear t1 r1 none⟩
            · as_aux_lemma =>
                have HGo : Hid (∀ ea, Calls Try.prog 13 #[.pointer (some ⟨p, 0, none⟩), .slice al L.length cl, .bool ea] W fun e w' => e = .returned (.bool true) ∧ Ext W w') := fun ea => gone_p al cl ea W hE2.out.2.r hE2.out.2.sl
                go_wp2_with (go_at_call 13; refine (HGo.out _).mono ?_; rintro e x1 ⟨rfl, hx1⟩)
                go_meet
                exact ⟨al, cl, L, rfl, hE2.out.1, hE2.out.2.ext hx1⟩
            · as_aux_lemma =>
                have HGo : Hid (∀ ea, Calls Try.prog 13 #[.pointer (some ⟨p, 0, none⟩), .slice al L.length cl, .bool ea] W fun e w' => e = .returned (.bool true) ∧ Ext W w') := fun ea => gone_p al cl ea W hE2.out.2.r hE2.out.2.sl
                go_wp2_with (go_at_call 13; refine (HGo.out _).mono ?_; rintro e x1 ⟨rfl, hx1⟩)
                go_meet
                exact ⟨al, cl, L, rfl, hE2.out.1, hE2.out.2.ext hx1⟩
            · as_aux_lemma =>
                have hne3 : ¬ (q : Int) = 3 := by omega
                have hne4 : ¬ (q : Int) = 4 := by omega
                have hne5 : ¬ (q : Int) = 5 := by omega
                have hne6 : ¬ (q : Int) = 6 := by omega
                have hne7 : ¬ (q : Int) = 7 := by omega
                have s0 := hE2.out.2.s0
                obtain ⟨xx0, xx1, _, _⟩ := hX2.out
                by_cases hfree : L.length < n
                · have heq := eqP 0 0 ⟨#[]⟩ ⟨#[]⟩
                  have HP := push_free_p W hE2.out.2.r (N k) (S k) hfree
                  have g1 : ((L.length : Int) = (n : Int)) = False := eq_false (by omega)
                  go_upto_region 14 with (go_at_call 14; refine HP.mono ?_; rintro e x1 ⟨rfl, r1, t1⟩)
                  have hy : P2 (x1.alloc (.cells #[.int .i64 0, .string ⟨#[]⟩] Ep)) x1.heap.size 0 ⟨#[]⟩ := p2_at rfl
                  have t2 : Turn p d c W (x1.alloc (.cells #[.int .i64 0, .string ⟨#[]⟩] Ep)) := t1.alloc _
                  have s0' := (hE2.out.2.turn t2).1
                  have HR6 : Hid (Rp (x1.alloc (.cells #[.int .i64 0, .string ⟨#[]⟩] Ep)) p d c n (L ++ [(N k, S k)])) := r1.ext ((Ext.refl x1).alloc _)
                  have HT6 : Hid (Turn p d c W (x1.alloc (.cells #[.int .i64 0, .string ⟨#[]⟩] Ep))) := t2
                  clear r1 t1 t2
                  generalize x1.alloc (.cells #[.int .i64 0, .string ⟨#[]⟩] Ep) = W6 at *
                  obtain ⟨y0, y1, _, _⟩ := hy
                  go_quiet (fail)
                  have HT7 : Hid (Turn p d c W (W6.drewN nq)) := HT6.out.trans (Turn.of_ext (drewN_ext nq))
                  have hXW := hX2.out.turn HT7.out HXA.out
                  have XX0 : Hid ((W6.drewN nq).cell? ⟨A0 + 1, 0, none⟩ = some (.int .i64 (N k))) := hXW.1
                  have XX1 : Hid ((W6.drewN nq).cell? ⟨A0 + 1, 1, none⟩ = some (.string (S k))) := hXW.2.1
                  have HR7 : Hid (Rp (W6.drewN nq) p d c n (L ++ [(N k, S k)])) := HR6.out.drewN nq
                  have HS7 : Hid (Sl (W6.drewN nq) al L) := (hE2.out.2.turn HT7.out).2.2.2.1
                  have HLL : Hid (L.length ≤ 256) := by show _ ≤ _; omega
                  clear hXW xx0 xx1 y0 y1 s0' HR6 HT6 heq a0 a1 HP s0 g1
                  go_upto_region 18 with fail
                  have EP : Hid (∀ (g2 cap2 : Nat) (w2 : World), Ext (W6.drewN nq) w2 → w2.ownsRow (W6.drewN nq).heap.size Ep 2 (.slice (some ⟨g2, 0, none⟩) ((L).length + 1) cap2) ((L).length + 1) (flatP (L) ++ [.int .i64 (N k), .string (S k)]) → ∃ (al' : Option Addr) (cl' : Nat) (L' : List (Int × ByteArray)), Value.slice (some ⟨g2, 0, none⟩) ((L).length + 1) cap2 = .slice al' L'.length cl' ∧ Hid (L'.length ≤ cl' ∧ Ev w w2 B p d c n len cap (some ⟨b, off, none⟩) al' D N S L')) := fun g2 cap2 w2 x2 o2 => ⟨_, cap2, (L) ++ [(N k, S k)], by simp, hE2.out.2.pushed HT7.out HR7.out x2 o2 (by simp)⟩
                  refine only_wp (reg18 (LL := L) XX0 XX1 HS7 HLL ?_)
                  intro g2 cap2 w2 s107 s108 s109 s110 s111 s112 x2 o2
                  have E2 := EP.out g2 cap2 w2 x2 o2
                  clear EP hE2 hX2 hA2 x2 o2
                  show Exit.inBlock 2 _ Exit.normal _ _
                  go_wp2_with fail
                  go_meet
                  exact E2
                · cases hL0 : L with
                  | nil => have := hE2.out.2.r.le; rw [hL0] at hfree; simp at hfree; omega
                  | cons e L1 =>
                    obtain ⟨e1, e2⟩ := e
                    subst hL0
                    have hle := hE2.out.2.r.le
                    have hn : L1.length + 1 = n := by simp at hfree hle; omega
                    obtain ⟨lb0, lo0, hal, _, _⟩ := hE2.out.2.sl 0 (e1, e2) rfl
                    subst hal
                    have heq := eqP e1 e1 e2 e2
                    have HP := push_full_p W hE2.out.2.r (N k) (S k) hn
                    have hcl : L1.length + 1 ≤ cl := hE2.out.1
                    have g1 : ((L1.length : Int) + 1 = (n : Int)) = True := eq_true (by omega)
                    have HN1 : Hid (L1.length + 1 = n) := hn
                    simp only [List.length_cons]
                    clear hfree hle
                    go_upto_region 14 with (go_at_call 14; refine HP.mono ?_; rintro e x1 ⟨rfl, r1, t1⟩)
                    have hy : P2 (x1.alloc (.cells #[.int .i64 e1, .string e2] Ep)) x1.heap.size e1 e2 := p2_at rfl
                    have t2 : Turn p d c W (x1.alloc (.cells #[.int .i64 e1, .string e2] Ep)) := t1.alloc _
                    have s0' := (hE2.out.2.turn t2).1
                    have hS6 := (hE2.out.2.turn t2).2.2.2.1
                    have HR6 : Hid (Rp (x1.alloc (.cells #[.int .i64 e1, .string e2] Ep)) p d c n (L1 ++ [(N k, S k)])) := r1.ext ((Ext.refl x1).alloc _)
                    have HT6 : Hid (Turn p d c W (x1.alloc (.cells #[.int .i64 e1, .string e2] Ep))) := t2
                    clear r1 t1 t2
                    generalize x1.alloc (.cells #[.int .i64 e1, .string e2] Ep) = W6 at *
                    obtain ⟨y0, y1, _, _⟩ := hy
                    have hS0 : W6.cell? ⟨lb0, lo0, none⟩ = some (.int .i64 e1) ∧ W6.cell? ⟨lb0, lo0 + 1, none⟩ = some (.string e2) := by
                      obtain ⟨b', o', ea, q0, q1⟩ := hS6 0 (e1, e2) rfl
                      simp only [Option.some.injEq, Addr.mk.injEq, and_true] at ea
                      obtain ⟨rfl, rfl⟩ := ea
                      simpa using ⟨q0, q1⟩
                    obtain ⟨q0, q1⟩ := hS0
                    have HS6 : Hid (Sl W6 (some ⟨lb0, lo0, none⟩) ((e1, e2) :: L1)) := hS6
                    clear hS6
                    go_quiet (fail)
                    have HT7 : Hid (Turn p d c W (W6.drewN nq)) := HT6.out.trans (Turn.of_ext (drewN_ext nq))
                    have hXW := hX2.out.turn HT7.out HXA.out
                    have XX0 : Hid ((W6.drewN nq).cell? ⟨A0 + 1, 0, none⟩ = some (.int .i64 (N k))) := hXW.1
                    have XX1 : Hid ((W6.drewN nq).cell? ⟨A0 + 1, 1, none⟩ = some (.string (S k))) := hXW.2.1
                    have HR7 : Hid (Rp (W6.drewN nq) p d c n (L1 ++ [(N k, S k)])) := HR6.out.drewN nq
                    have HS7 : Hid (Sl (W6.drewN nq) (some ⟨lb0, lo0 + 2, none⟩) L1) := by
                      intro i e' he
                      obtain ⟨b', off', ea, h1, h2⟩ := HS6.out (i + 1) e' (by simpa using he)
                      simp only [Option.some.injEq, Addr.mk.injEq, and_true] at ea
                      obtain ⟨rfl, rfl⟩ := ea
                      exact ⟨_, _, rfl, by rw [show lo0 + 2 + i * 2 = lo0 + (i + 1) * 2 by omega]; exact h1, by rw [show lo0 + 2 + i * 2 + 1 = lo0 + (i + 1) * 2 + 1 by omega]; exact h2⟩
                    have HLL : Hid (L1.length ≤ 256) := by show _ ≤ _; have := HN1.out; omega
                    clear hXW xx0 xx1 y0 y1 s0' HR6 HT6 heq a0 a1 HP s0 q0 q1 HS6
                    by_cases hc1 : cl = 1
                    · subst hc1
                      have hL1 : L1 = [] := List.length_eq_zero_iff.1 (by omega)
                      subst hL1
                      have HS8 : Hid (Sl (W6.drewN nq) (some ⟨lb0, lo0, none⟩) []) := fun i e he => by simp at he
                      go_upto_region 18 with fail
                      rw [show n - 1 = 0 by have := HN1.out; simp at this; omega]
                      clear hn
                      have EP : Hid (∀ (g2 cap2 : Nat) (w2 : World), Ext (W6.drewN nq) w2 → w2.ownsRow (W6.drewN nq).heap.size Ep 2 (.slice (some ⟨g2, 0, none⟩) ((([] : List (Int × ByteArray))).length + 1) cap2) ((([] : List (Int × ByteArray))).length + 1) (flatP (([] : List (Int × ByteArray))) ++ [.int .i64 (N k), .string (S k)]) → ∃ (al' : Option Addr) (cl' : Nat) (L' : List (Int × ByteArray)), Value.slice (some ⟨g2, 0, none⟩) ((([] : List (Int × ByteArray))).length + 1) cap2 = .slice al' L'.length cl' ∧ Hid (L'.length ≤ cl' ∧ Ev w w2 B p d c n len cap (some ⟨b, off, none⟩) al' D N S L')) := fun g2 cap2 w2 x2 o2 => ⟨_, cap2, (([] : List (Int × ByteArray))) ++ [(N k, S k)], by simp, hE2.out.2.pushed HT7.out HR7.out x2 o2 (by simp)⟩
                      refine only_wp (reg18 (LL := ([] : List (Int × ByteArray))) XX0 XX1 HS8 HLL ?_)
                      intro g2 cap2 w2 s107 s108 s109 s110 s111 s112 x2 o2
                      have E2 := EP.out g2 cap2 w2 x2 o2
                      clear EP hE2 hX2 hA2 x2 o2
                      show Exit.inBlock 2 _ Exit.normal _ _
                      go_wp2_with fail
                      go_meet
                      exact E2
                    · go_upto_region 18 with fail
                      rw [show n - 1 = L1.length by omega]
                      clear hn
                      have EP : Hid (∀ (g2 cap2 : Nat) (w2 : World), Ext (W6.drewN nq) w2 → w2.ownsRow (W6.drewN nq).heap.size Ep 2 (.slice (some ⟨g2, 0, none⟩) ((L1).length + 1) cap2) ((L1).length + 1) (flatP (L1) ++ [.int .i64 (N k), .string (S k)]) → ∃ (al' : Option Addr) (cl' : Nat) (L' : List (Int × ByteArray)), Value.slice (some ⟨g2, 0, none⟩) ((L1).length + 1) cap2 = .slice al' L'.length cl' ∧ Hid (L'.length ≤ cl' ∧ Ev w w2 B p d c n len cap (some ⟨b, off, none⟩) al' D N S L')) := fun g2 cap2 w2 x2 o2 => ⟨_, cap2, (L1) ++ [(N k, S k)], by simp, hE2.out.2.pushed HT7.out HR7.out x2 o2 (by simp)⟩
                      refine only_wp (reg18 (LL := L1) XX0 XX1 HS7 HLL ?_)
                      intro g2 cap2 w2 s107 s108 s109 s110 s111 s112 x2 o2
                      have E2 := EP.out g2 cap2 w2 x2 o2
                      clear EP hE2 hX2 hA2 x2 o2
                      show Exit.inBlock 2 _ Exit.normal _ _
                      go_wp2_with fail
                      go_meet
                      exact E2
          case rest =>
            as_aux_lemma =>
              obtain ⟨al', cl', L', rfl, hE3⟩ := hcut
              have HLe : Hid (∀ m, Calls Try.prog 15 #[.pointer (some ⟨p, 0, none⟩)] (wc.drewN m) fun e w' => e = .returned (.int .i64 L'.length) ∧ ∃ q, w' = (wc.drewN m).drewN q) := fun m => len_l_p _ (hE3.out.2.r.drewN m)
              have HCa : Hid (∀ m, Calls Try.prog 16 #[.pointer (some ⟨p, 0, none⟩)] (wc.drewN m) fun e w' => e = .returned (.int .i64 n) ∧ w' = wc.drewN m) := fun m => cap_l_p _ (hE3.out.2.r.drewN m)
              have s0 := hE3.out.2.s0
              clear hE2 hX2 hA2
              go_upto_region 38 with fail
              go_quiet (first | (go_at_call 15; exact Calls.quiet_of (HLe.out _)) | (go_at_call 16; exact Calls.quiet_of_same (HCa.out _)))
              have hE4 : Hid (L'.length ≤ cl' ∧ Ev w (wc.drewN nq) B p d c n len cap (some ⟨b, off, none⟩) al' D N S L') := ⟨hE3.out.1, hE3.out.2.ext (drewN_ext nq)⟩
              go_wp2_with fail
              go_roundw
              case measure => simp [intOf]; omega
              case rel => exact ⟨k + 1, al', cl', L', by omega, by omega, by simp, rfl, hE4⟩
        · go_wp2_with (go_at_call 8; refine (HWk.out _).mono ?_; rintro e wk ⟨rfl, xk⟩)
          go_ret
          exact ⟨rfl, hR.out.2.x.trans xk⟩
      · go_wp2_with (go_at_call 8; refine (HWk.out _).mono ?_; rintro e wk ⟨rfl, xk⟩)
        go_ret
        exact ⟨rfl, hR.out.2.x.trans xk⟩
end Go.Proofs.Ytblpdnpfhjnbgaa
