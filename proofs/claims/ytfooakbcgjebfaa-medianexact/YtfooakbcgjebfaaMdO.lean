/- MedianOne: its walk. -/
import Derived.Test.YtfooakbcgjebfaaMdn
namespace Go.Proofs.Ytfooakbcgjebfaa
open Go.RowKit Go.Conc Go.Shelf Go.Lib
def farV : Vc := ⟨35184372088831, -35184372088831, 35184372088831⟩
theorem med1 (v : Vc) : pushL 1 [] v = [v] ∧ medv [v] = v := ⟨rfl, by unfold medv; simp only [List.map_cons, List.map_nil, med_one]⟩
theorem med5 (v : Vc) : pushL 5 [v, v, v, v] v = [v, v, v, v, v] ∧ medv [v, v, v, v, v] = v := ⟨rfl, by unfold medv; simp only [List.map_cons, List.map_nil, med_five]⟩
theorem med3 (v f : Vc) : pushL 3 [v, f] v = [v, f, v] ∧ medv [v, f, v] = v := ⟨rfl, by unfold medv; simp only [List.map_cons, List.map_nil, med_mid]⟩
theorem med3b (v f : Vc) : pushL 3 [f, v] v = [f, v, v] ∧ medv [f, v, v] = v := ⟨rfl, by unfold medv; simp only [List.map_cons, List.map_nil, med_first]⟩
theorem okWin_of (ls : List Vc) (n : Int) (h1 : okN n = true) (h2 : (ls.length : Int) ≤ n) (h3 : ls.all okv = true) : okWin ls n = true := by unfold okWin; rw [h1, h3, decide_eq_true h2]; rfl
/-- Take of what is known to be right, its answer known -/
theorem take_is (ls : List Vc) (a : Option Addr) (lc n : Nat) (x : Vc) (ms : List Vc) (m : Vc) (w : World) (hV : VL w a ls) (h1 : okWin ls n = true) (h2 : okv x = true) (h3 : pushL n ls x = ms) (h4 : medv ms = m) :
    Calls Try.prog 9 #[.slice a ls.length lc, .int .i64 n, rv x] w fun e w' => ∃ g cap, e = .returned (.tuple #[.slice (some ⟨g, 0, none⟩) ms.length cap, rv m, .int .i64 0]) ∧ VL w' (some ⟨g, 0, none⟩) ms ∧ w.heap.size ≤ g ∧ Ext w w' := by
  subst h3
  subst h4
  refine (take_good ls a lc n x w hV h1 h2).mono ?_
  rintro e w' ⟨g, cap, rfl, ho, hx⟩
  exact ⟨g, cap, rfl, vl_row (fun j u hu => by rw [Nat.zero_add]; exact row_cells ho j u hu), (ho.lt g rfl).1, hx⟩
set_option maxRecDepth 20000 in
set_option maxHeartbeats 8000000 in
theorem one_walk (L : List Ask) (a : Option Addr) (c : Nat) (w : World) (hL : AL w a L) : Calls Try.prog 5 #[.slice a L.length c] w fun e w' => e = .returned (.bool true) ∧ Ext w w' := by
  have HN : Hid (∀ v w, Calls Try.prog 10 #[.int .i64 v] w fun e w' => e = .returned (.int .i64 v) ∧ w' = w) := num13_any
  have HW : Hid (∀ w, Calls Try.prog 13 #[] w fun e w' => e = .returned (.bool true) ∧ Ext w w') := wakes13_any
  have HL : Hid (AL w a L) := hL
  have hx0 : Hid (Ext w w) := Ext.refl w
  have hsC : (Try.prog.info? 25).map (·.size) = some 3 := by kernel_rfl
  clear hL
  go_enter Try.func5, Try.ntmps5
  go_wp2_with fail
  go_loopw [3] (fun i wr => ∃ k : Nat, k ≤ 20 ∧ i = .int .i64 k ∧ Hid (Ext w wr)) (fun i _ => 20 - (intOf i).toNat)
  case atStart => exact ⟨0, by omega, rfl, hx0⟩
  case round =>
    obtain ⟨k, hk, rfl, hR⟩ := hrel
    by_cases hlt : k < L.length
    · have hlt2 : (k : Int) < (L.length : Int) := by omega
      by_cases h20 : k < 20
      · have h202 : (k : Int) < 20 := by omega
        obtain ⟨q, hq⟩ : ∃ q, L[k]? = some q := ⟨_, List.getElem?_eq_getElem hlt⟩
        obtain ⟨b, off, la, lc, rfl, ⟨_, _, c0, c1, c2⟩, _⟩ := (HL.out.ext hR.out) k q hq
        generalize q.v = v at *
        clear hq
        have HM : Hid (∀ W, Calls Try.prog 14 #[rv v] W fun e w' => e = .returned (.bool (okv v)) ∧ Ext W w') := fun W => mayv_any v.x v.y v.z W
        have P0 : Hid (P3 (wr.alloc (cells3 v)) wr.heap.size v) := p3_at rfl
        have X0 : Hid (Ext w (wr.alloc (cells3 v))) := hR.out.alloc _
        cases hov : okv v
        · rw [hov] at HM
          clear hov
          go_wp2_with (go_at_call 14; refine (HM.out _).mono ?_; rintro e w1 ⟨rfl, x1⟩)
          have X1 : Hid (Ext w w1) := X0.out.trans x1
          clear x1 c0 c1 c2 P0 X0
          go_roundw
          case measure => simp [intOf]; omega
          case rel => exact ⟨k + 1, by omega, by simp, X1⟩
        · have HOV : Hid (okv v = true) := hov
          rw [hov] at HM
          clear hov
          go_upto_region 5 with fail
          generalize wr.alloc (cells3 v) = u0 at *
          generalize wr.heap.size = V at *
          obtain ⟨⟨a0, a1, a2⟩, _⟩ := P0.out
          go_upto_region 6 with (go_at_call 14; refine (HM.out _).mono ?_; rintro e w1 ⟨rfl, x1⟩)
          have P1 : Hid (P3 w1 V v) := P0.out.ext x1
          have X1 : Hid (Ext w w1) := X0.out.trans x1
          have HT1 : Hid (∀ W, Calls Try.prog 9 #[.slice none 0 0, .int .i64 1, rv v] W fun e w' => ∃ g cap, e = .returned (.tuple #[.slice (some ⟨g, 0, none⟩) 1 cap, rv v, .int .i64 0]) ∧ VL w' (some ⟨g, 0, none⟩) [v] ∧ W.heap.size ≤ g ∧ Ext W w') := fun W => take_is [] none 0 1 v [v] v W (VL.nil _ _) (by decide) HOV.out (med1 v).1 (med1 v).2
          clear a0 a1 a2 c0 c1 c2 x1 P0 X0 HM hR
          obtain ⟨⟨a0, a1, a2⟩, _⟩ := P1.out
          go_upto_region 7 with (go_at_call 9; refine (HT1.out _).mono ?_; rintro e w2 ⟨g, cap, rfl, v2, _, x2⟩)
          have P2 : Hid (P3 (w2.alloc (cells3 v)) V v) := (P1.out.ext x2).alloc _
          have Q2 : Hid (P3 (w2.alloc (cells3 v)) w2.heap.size v) := p3_at rfl
          have X2 : Hid (Ext w (w2.alloc (cells3 v))) := (X1.out.trans x2).alloc _
          have V2 : Hid (VL (w2.alloc (cells3 v)) (some ⟨g, 0, none⟩) [v]) := v2.ext ((Ext.refl _).alloc _)
          clear a0 a1 a2 x2 v2 P1 X1 HT1
          generalize w2.alloc (cells3 v) = u2 at *
          generalize w2.heap.size = M at *
          obtain ⟨⟨a0, a1, a2⟩, _⟩ := P2.out
          obtain ⟨⟨m0, m1, m2⟩, _⟩ := Q2.out
          have HE : Hid (∀ T, Calls Try.prog 11 #[.slice (some ⟨g, 0, none⟩) 1 cap, .slice (some ⟨u2.heap.size, 0, none⟩) 1 1] (u2.alloc (.cells #[.int .i64 v.x, .int .i64 v.y, .int .i64 v.z] T)) fun e w' => e = .returned (.bool true) ∧ Ext (u2.alloc (.cells #[.int .i64 v.x, .int .i64 v.y, .int .i64 v.z] T)) w') := fun T => eqvecs_same [v] (some ⟨g, 0, none⟩) (some ⟨u2.heap.size, 0, none⟩) cap 1 (by simp) _ (V2.out.ext ((Ext.refl u2).alloc _)) (vl_built u2 [v] T)
          go_upto_region 9 with (first | (go_at_call 10; refine (HN.out _ _).mono ?_; rintro e wx ⟨rfl, hwx⟩; have hwy := hwx.symm; clear hwx; subst hwy) | (go_at_call 11; refine (HE.out _).mono ?_; rintro e w3 ⟨rfl, x3⟩))
          have P3' : Hid (P3 w3 V v) := P2.out.ext (((Ext.refl u2).alloc _).trans x3)
          have X3 : Hid (Ext w w3) := X2.out.trans (((Ext.refl u2).alloc _).trans x3)
          have HT5 : Hid (∀ W : World, Calls Try.prog 9 #[.slice (some ⟨W.heap.size, 0, none⟩) 4 4, .int .i64 5, rv v] (W.alloc (.cells #[.int .i64 v.x, .int .i64 v.y, .int .i64 v.z, .int .i64 v.x, .int .i64 v.y, .int .i64 v.z, .int .i64 v.x, .int .i64 v.y, .int .i64 v.z, .int .i64 v.x, .int .i64 v.y, .int .i64 v.z] 25)) fun e w' => ∃ g cap, e = .returned (.tuple #[.slice (some ⟨g, 0, none⟩) 5 cap, rv v, .int .i64 0]) ∧ Ext W w') := fun W => (take_is [v, v, v, v] (some ⟨W.heap.size, 0, none⟩) 4 5 v [v, v, v, v, v] v _ (vl_built W [v, v, v, v] 25) (okWin_of _ _ (by decide) (by simp) (by simp [HOV.out])) HOV.out (med5 v).1 (med5 v).2).mono fun e w' ⟨g, cap, h1, _, _, h4⟩ => ⟨g, cap, h1, ((Ext.refl W).alloc _).trans h4⟩
          clear a0 a1 a2 m0 m1 m2 x3 P2 Q2 X2 V2 HE
          obtain ⟨⟨a0, a1, a2⟩, _⟩ := P3'.out
          have l9 : V < w3.heap.size := P3'.out.lt
          have n9 : V ≠ w3.heap.size := Nat.ne_of_lt l9
          have o9 : w3.heap.size ≠ V := Nat.ne_of_gt l9
          go_upto_region 10 with (go_at_call 9; refine (HT5.out w3).mono ?_; rintro e w4 ⟨g4, cap4, rfl, x4⟩)
          have P4' : Hid (P3 (w4.alloc (cells3 v)) V v) := (P3'.out.ext x4).alloc _
          have Q4 : Hid (P3 (w4.alloc (cells3 v)) w4.heap.size v) := p3_at rfl
          have X4 : Hid (Ext w (w4.alloc (cells3 v))) := (X3.out.trans x4).alloc _
          clear a0 a1 a2 x4 P3' X3 HT5 l9 n9 o9
          generalize w4.alloc (cells3 v) = u4 at *
          generalize w4.heap.size = N at *
          obtain ⟨⟨a0, a1, a2⟩, _⟩ := P4'.out
          obtain ⟨⟨m0, m1, m2⟩, _⟩ := Q4.out
          go_upto_region 12 with (go_at_call 10; refine (HN.out _ _).mono ?_; rintro e wx ⟨rfl, hwx⟩; have hwy := hwx.symm; clear hwx; subst hwy)
          clear a0 a1 a2 m0 m1 m2 Q4
          go_upto_region 13 with fail
          have P5 : Hid (P3 (u4.alloc (cells3 farV)) V v) := P4'.out.alloc _
          have Q5 : Hid (P3 (u4.alloc (cells3 farV)) u4.heap.size farV) := p3_at rfl
          have X5 : Hid (Ext w (u4.alloc (cells3 farV))) := X4.out.alloc _
          have ef : Hid (u4.alloc (cells3 farV) = u4.alloc (.cells #[.int .i64 35184372088831, .int .i64 (-35184372088831), .int .i64 35184372088831] 25)) := rfl
          rw [← ef.out]
          clear P4' X4 ef
          generalize u4.alloc (cells3 farV) = u5 at *
          generalize u4.heap.size = G at *
          have HTa : Hid (∀ W : World, Calls Try.prog 9 #[.slice (some ⟨W.heap.size, 0, none⟩) 2 2, .int .i64 3, rv v] (W.alloc (.cells #[.int .i64 v.x, .int .i64 v.y, .int .i64 v.z, .int .i64 farV.x, .int .i64 farV.y, .int .i64 farV.z] 25)) fun e w' => ∃ g cap, e = .returned (.tuple #[.slice (some ⟨g, 0, none⟩) 3 cap, rv v, .int .i64 0]) ∧ Ext W w') := fun W => (take_is [v, farV] (some ⟨W.heap.size, 0, none⟩) 2 3 v [v, farV, v] v _ (vl_built W [v, farV] 25) (okWin_of _ _ (by decide) (by simp) (by simp [HOV.out]; decide)) HOV.out (med3 v farV).1 (med3 v farV).2).mono fun e w' ⟨g, cap, h1, _, _, h4⟩ => ⟨g, cap, h1, ((Ext.refl W).alloc _).trans h4⟩
          have HTb : Hid (∀ W : World, Calls Try.prog 9 #[.slice (some ⟨W.heap.size, 0, none⟩) 2 2, .int .i64 3, rv v] (W.alloc (.cells #[.int .i64 farV.x, .int .i64 farV.y, .int .i64 farV.z, .int .i64 v.x, .int .i64 v.y, .int .i64 v.z] 25)) fun e w' => ∃ g cap, e = .returned (.tuple #[.slice (some ⟨g, 0, none⟩) 3 cap, rv v, .int .i64 0]) ∧ Ext W w') := fun W => (take_is [farV, v] (some ⟨W.heap.size, 0, none⟩) 2 3 v [farV, v, v] v _ (vl_built W [farV, v] 25) (okWin_of _ _ (by decide) (by simp) (by simp [HOV.out]; decide)) HOV.out (med3b v farV).1 (med3b v farV).2).mono fun e w' ⟨g, cap, h1, _, _, h4⟩ => ⟨g, cap, h1, ((Ext.refl W).alloc _).trans h4⟩
          generalize farV = f at *
          obtain ⟨⟨a0, a1, a2⟩, _⟩ := P5.out
          obtain ⟨⟨m0, m1, m2⟩, _⟩ := Q5.out
          have l13 : V < u5.heap.size := P5.out.lt
          have n13 : V ≠ u5.heap.size := Nat.ne_of_lt l13
          have o13 : u5.heap.size ≠ V := Nat.ne_of_gt l13
          go_upto_region 14 with (go_at_call 9; refine (HTa.out u5).mono ?_; rintro e w6 ⟨g6, cap6, rfl, x6⟩)
          have P6 : Hid (P3 (w6.alloc (cells3 v)) V v) := (P5.out.ext x6).alloc _
          have Q6 : Hid (P3 (w6.alloc (cells3 v)) G f) := (Q5.out.ext x6).alloc _
          have R6 : Hid (P3 (w6.alloc (cells3 v)) w6.heap.size v) := p3_at rfl
          have X6 : Hid (Ext w (w6.alloc (cells3 v))) := (X5.out.trans x6).alloc _
          clear a0 a1 a2 m0 m1 m2 x6 P5 Q5 X5 HTa l13 n13 o13
          generalize w6.alloc (cells3 v) = u6 at *
          generalize w6.heap.size = X at *
          obtain ⟨⟨a0, a1, a2⟩, _⟩ := P6.out
          obtain ⟨⟨m0, m1, m2⟩, _⟩ := Q6.out
          have l14 : V < u6.heap.size := P6.out.lt
          have n14 : V ≠ u6.heap.size := Nat.ne_of_lt l14
          have o14 : u6.heap.size ≠ V := Nat.ne_of_gt l14
          go_upto_region 15 with (go_at_call 9; refine (HTb.out u6).mono ?_; rintro e w7 ⟨g7, cap7, rfl, x7⟩)
          have P7 : Hid (P3 (w7.alloc (cells3 v)) V v) := (P6.out.ext x7).alloc _
          have R7 : Hid (P3 (w7.alloc (cells3 v)) X v) := (R6.out.ext x7).alloc _
          have S7 : Hid (P3 (w7.alloc (cells3 v)) w7.heap.size v) := p3_at rfl
          have X7 : Hid (Ext w (w7.alloc (cells3 v))) := (X6.out.trans x7).alloc _
          clear a0 a1 a2 m0 m1 m2 x7 P6 Q6 R6 X6 HTb l14 n14 o14
          generalize w7.alloc (cells3 v) = u7 at *
          generalize w7.heap.size = Y at *
          obtain ⟨⟨a0, a1, a2⟩, _⟩ := P7.out
          obtain ⟨⟨m0, m1, m2⟩, _⟩ := R7.out
          obtain ⟨⟨y0, y1, y2⟩, _⟩ := S7.out
          go_wp2_with (go_at_call 10; refine (HN.out _ _).mono ?_; rintro e wx ⟨rfl, hwx⟩; have hwy := hwx.symm; clear hwx; subst hwy)
          clear a0 a1 a2 m0 m1 m2 y0 y1 y2 P7 R7 S7
          go_roundw
          case measure => simp [intOf]; omega
          case rel => exact ⟨k + 1, by omega, by simp, X7⟩
      · have h202 : ¬ (k : Int) < 20 := by omega
        go_wp2_with (go_at_call 13; refine (HW.out _).mono ?_; rintro e w9 ⟨rfl, x9⟩)
        go_ret
        exact ⟨rfl, hR.out.trans x9⟩
    · have hlt2 : ¬ (k : Int) < (L.length : Int) := by omega
      go_wp2_with (go_at_call 13; refine (HW.out _).mono ?_; rintro e w9 ⟨rfl, x9⟩)
      go_ret
      exact ⟨rfl, hR.out.trans x9⟩
end Go.Proofs.Ytfooakbcgjebfaa
