/- Contracts: nearest, share, operate, Mul, wakes. Contracts: fit, sum, difference, product, quotient, operate, and the faces Add, Sub, Neg, Mul, Div, Ratio, wakes. Plain numbers: the nearest whole number, halves to even, of numbers with signs. Plain numbers: the greatest number that is within, bit by bit. -/
import Derived.Test.YtoeecldhbabmbaaGreatMulm
import Derived.Test.YtoeecldhbabmbaaGreatMg0
open Go.Value renaming int → J, agg → zG
open Go.IntKind renaming i64 → zq, u64 → zu
open Go.Ending renaming returned → zR
open Go.Proofs.Tryz renaming prog → zP
namespace Go.Proofs.YtoeecldhbabmbaaGreat
open Go.RowKit
set_option maxHeartbeats 400000 in
theorem nearest_out (hi lo d : Int) (w : World) (h : d ≤ hi) :
    Calls zP 137 #[zG #[J zu hi, J zu lo], J zu d] w fun e w' => e = zR (J zu 35184372088832) ∧ Ext w w' := by
  go_enter Tryz.func137, Tryz.ntmps137
  go_wp2
  go_ret
  exact ⟨rfl, (Ext.refl _).alloc _⟩
set_option maxHeartbeats 1000000 in
theorem nearest_in (hi lo d q r : Int) (w : World) (h1 : ¬ d ≤ hi) (hd : d < 18446744073709551616) (hr0 : 0 ≤ r) (hrd : r < d) (hq0 : 0 ≤ q)
    (hH : Hid (∀ w, Calls zP 169 #[J zu hi, J zu lo, J zu d] w fun e w' => e = zR (.tuple #[J zu q, J zu r]) ∧ Ext w w')) (V : Int)
    (hV : Hid (V = if 35184372088832 ≤ q then 35184372088832 else if d - r < r ∨ r = d - r ∧ q % 2 = 1 then q + 1 else q)) :
    Calls zP 137 #[zG #[J zu hi, J zu lo], J zu d] w fun e w' => e = zR (J zu V) ∧ Ext w w' := by
  by_cases h2 : 35184372088832 ≤ q
  · have hE : Hid (35184372088832 = V) := by
      show 35184372088832 = V
      rw [hV.out, if_pos h2]
    go_enter Tryz.func137, Tryz.ntmps137
    go_wp2_with (go_at_call 169; refine (hH.out _).mono ?_; rintro e w' ⟨rfl, hx⟩)
    go_ret
    exact ⟨ret_u64 hE.out, ((Ext.refl _).alloc _).trans hx⟩
  · by_cases h3 : d - r < r
    · have hE : Hid (q + 1 = V) := by
        show q + 1 = V
        rw [hV.out, if_neg h2, if_pos (Or.inl h3)]
      go_enter Tryz.func137, Tryz.ntmps137
      go_wp2_with (go_at_call 169; refine (hH.out _).mono ?_; rintro e w' ⟨rfl, hx⟩)
      go_ret
      exact ⟨ret_u64 hE.out, ((Ext.refl _).alloc _).trans hx⟩
    · by_cases h4 : r = d - r
      · have h4b : (r == d - r) = true := by rw [beq_iff_eq]; exact h4
        by_cases h5 : q % 2 = 1
        · have hE : Hid (q + 1 = V) := by
            show q + 1 = V
            rw [hV.out, if_neg h2, if_pos (Or.inr ⟨h4, h5⟩)]
          clear h4
          go_enter Tryz.func137, Tryz.ntmps137
          go_wp2_with (go_at_call 169; refine (hH.out _).mono ?_; rintro e w' ⟨rfl, hx⟩)
          go_ret
          exact ⟨ret_u64 hE.out, ((Ext.refl _).alloc _).trans hx⟩
        · have hE : Hid (q = V) := by
            show q = V
            rw [hV.out, if_neg h2, if_neg (by omega)]
          have h5b : (q % 2 == 1) = false := by simpa using h5
          clear h4 h5
          go_enter Tryz.func137, Tryz.ntmps137
          go_wp2_with (go_at_call 169; refine (hH.out _).mono ?_; rintro e w' ⟨rfl, hx⟩)
          go_ret
          exact ⟨ret_u64 hE.out, ((Ext.refl _).alloc _).trans hx⟩
      · have hE : Hid (q = V) := by
          show q = V
          rw [hV.out, if_neg h2, if_neg (by omega)]
        have h4b : (r == d - r) = false := by simpa using h4
        clear h4
        go_enter Tryz.func137, Tryz.ntmps137
        go_wp2_with (go_at_call 169; refine (hH.out _).mono ?_; rintro e w' ⟨rfl, hx⟩)
        go_ret
        exact ⟨ret_u64 hE.out, ((Ext.refl _).alloc _).trans hx⟩
theorem nearest_any (hi lo d : Nat) (hl : lo < 18446744073709551616) (hd : d < 18446744073709551616) (h0 : 0 < d) (w : World) :
    Calls zP 137 #[zG #[J zu hi, J zu lo], J zu d] w fun e w' => e = zR (J zu (nearW (hi * 18446744073709551616 + lo) d : Int)) ∧ Ext w w' := by
  by_cases h1 : d ≤ hi
  · have e : nearW (hi * 18446744073709551616 + lo) d = 35184372088832 := by
      unfold nearW
      rw [if_pos]
      rw [Nat.le_div_iff_mul_le h0]
      omega
    rw [e]
    exact nearest_out _ _ _ w (by omega)
  · have hm := Nat.mod_lt (hi * 18446744073709551616 + lo) (show 0 < d by omega)
    exact nearest_in hi lo d (dQ hi lo d) (dR hi lo d) w (by omega) (by omega) (Int.natCast_nonneg _) (Int.ofNat_lt.2 hm) (Int.natCast_nonneg _) (fun w => div64_any hi lo d hl hd (by omega) w) _ (nearW_int _ _)
set_option maxHeartbeats 1000000 in
theorem share_in (a b d : Int) (w : World) (h1 : -9223372036854775808 ≤ a) (h2 : a ≤ 9223372036854775807) (k1 : -9223372036854775808 ≤ b) (k2 : b ≤ 9223372036854775807) (j1 : -9223372036854775808 ≤ d) (j2 : d ≤ 9223372036854775807) (h0 : (d == 0) = false) (hm : okW (mag a b d) = true) :
    Calls zP 107 #[zG #[J zq a, J zq b], J zq d] w fun e w' => e = zR (.tuple #[J zq (signed (neg3 a b d) (mag a b d)), J zq 0]) ∧ Ext w w' := by
  have hlo : a.natAbs * b.natAbs % 18446744073709551616 < 18446744073709551616 := Nat.mod_lt _ (by omega)
  have hd0 : 0 < d.natAbs := by
    have : d ≠ 0 := by simpa using h0
    omega
  have hn := nearest_any (a.natAbs * b.natAbs / 18446744073709551616) (a.natAbs * b.natAbs % 18446744073709551616) d.natAbs hlo (by omega) hd0
  rw [Nat.mul_comm (a.natAbs * b.natAbs / 18446744073709551616), Nat.div_add_mod] at hn
  have hN : Hid (∀ w, Calls zP 137 #[zG #[J zu ((a.natAbs * b.natAbs / 18446744073709551616 : Nat) : Int), J zu ((a.natAbs * b.natAbs % 18446744073709551616 : Nat) : Int)], J zu (d.natAbs : Int)] w fun e w' => e = zR (J zu (mag a b d : Int)) ∧ Ext w w') := hn
  have hT : Hid (∀ w, Calls zP 138 #[zG #[J zu (a.natAbs : Int), J zu (b.natAbs : Int)]] w fun e w' => e = zR (zG #[J zu ((a.natAbs * b.natAbs / 18446744073709551616 : Nat) : Int), J zu ((a.natAbs * b.natAbs % 18446744073709551616 : Nat) : Int)]) ∧ Ext w w') := fun w => times_any _ _ (by omega) (by omega) w
  clear hn hlo hd0
  generalize ((a.natAbs * b.natAbs / 18446744073709551616 : Nat) : Int) = x at *
  generalize ((a.natAbs * b.natAbs % 18446744073709551616 : Nat) : Int) = y at *
  have hS : Hid (∀ w, Calls zP 140 #[J zq d] w fun e w' => e = zR (J zu (d.natAbs : Int)) ∧ w' = w) := fun w => size_any d w j1 j2
  have hE : Hid (∀ w, Calls zP 139 #[zG #[J zq a, J zq b], .func (.func 140) #[] #[]] w fun e w' => e = zR (zG #[J zu (a.natAbs : Int), J zu (b.natAbs : Int)]) ∧ Ext w w') := fun w => eachSize_any a b w h1 h2 k1 k2
  generalize (a.natAbs : Int) = A at *
  generalize (b.natAbs : Int) = B at *
  generalize (d.natAbs : Int) = D at *
  have hml : (mag a b d : Int) ≤ 35184372088832 := by have := mag_le a b d; omega
  have hm0 : 0 ≤ (mag a b d : Int) := Int.natCast_nonneg _
  generalize (mag a b d : Int) = m at *
  have hk : okW (-m) = true := by unfold okW at *; simp at *; omega
  go_enter Tryz.func107, Tryz.ntmps107
  go_wp2_with fail
  refine (hE.out _).mono ?_
  rintro e w1 ⟨rfl, x1⟩
  go_wp2_with fail
  refine (hT.out _).mono ?_
  rintro e w2 ⟨rfl, x2⟩
  go_wp2_with fail
  refine (hS.out _).mono ?_
  rintro e w3 ⟨rfl, x3⟩
  have x3' := x3.symm
  clear x3
  subst x3'
  go_wp2_with fail
  refine (hN.out _).mono ?_
  rintro e w4 ⟨rfl, x4⟩
  have x5 := (x1.trans x2).trans x4
  obtain ⟨c0, c1⟩ := x5.cells2
  have X : Hid (Ext w w4) := ((Ext.refl w).alloc _).trans x5
  clear x1 x2 x4 x5 hE hT hS hN
  go_wp2_with fail
  · have hs : Hid (-m = signed (neg3 a b d) m) := by
      have hw : neg3 a b d = true := by assumption
      show -m = signed (neg3 a b d) m
      rw [hw]; rfl
    refine (fit_yes _ _ hk).mono ?_
    rintro e w5 ⟨rfl, x5⟩
    have x5' := x5.symm
    clear x5
    subst x5'
    go_wp2_with fail
    go_ret2
    exact ⟨ret2_ints hs.out rfl, X.out⟩
  · have hs : Hid (m = signed (neg3 a b d) m) := by
      have hw : neg3 a b d = false := by assumption
      show m = signed (neg3 a b d) m
      rw [hw]; rfl
    refine (fit_yes _ _ hm).mono ?_
    rintro e w5 ⟨rfl, x5⟩
    have x5' := x5.symm
    clear x5
    subst x5'
    go_wp2_with fail
    go_ret2
    exact ⟨ret2_ints hs.out rfl, X.out⟩
set_option maxHeartbeats 1000000 in
theorem share_out (a b d : Int) (w : World) (h1 : -9223372036854775808 ≤ a) (h2 : a ≤ 9223372036854775807) (k1 : -9223372036854775808 ≤ b) (k2 : b ≤ 9223372036854775807) (j1 : -9223372036854775808 ≤ d) (j2 : d ≤ 9223372036854775807) (h0 : (d == 0) = false) (hm : okW (mag a b d) = false) :
    Calls zP 107 #[zG #[J zq a, J zq b], J zq d] w fun e w' => e = zR (.tuple #[J zq 0, J zq 2]) ∧ Ext w w' := by
  have hlo : a.natAbs * b.natAbs % 18446744073709551616 < 18446744073709551616 := Nat.mod_lt _ (by omega)
  have hd0 : 0 < d.natAbs := by
    have : d ≠ 0 := by simpa using h0
    omega
  have hn := nearest_any (a.natAbs * b.natAbs / 18446744073709551616) (a.natAbs * b.natAbs % 18446744073709551616) d.natAbs hlo (by omega) hd0
  rw [Nat.mul_comm (a.natAbs * b.natAbs / 18446744073709551616), Nat.div_add_mod] at hn
  have hN : Hid (∀ w, Calls zP 137 #[zG #[J zu ((a.natAbs * b.natAbs / 18446744073709551616 : Nat) : Int), J zu ((a.natAbs * b.natAbs % 18446744073709551616 : Nat) : Int)], J zu (d.natAbs : Int)] w fun e w' => e = zR (J zu (mag a b d : Int)) ∧ Ext w w') := hn
  have hT : Hid (∀ w, Calls zP 138 #[zG #[J zu (a.natAbs : Int), J zu (b.natAbs : Int)]] w fun e w' => e = zR (zG #[J zu ((a.natAbs * b.natAbs / 18446744073709551616 : Nat) : Int), J zu ((a.natAbs * b.natAbs % 18446744073709551616 : Nat) : Int)]) ∧ Ext w w') := fun w => times_any _ _ (by omega) (by omega) w
  clear hn hlo hd0
  generalize ((a.natAbs * b.natAbs / 18446744073709551616 : Nat) : Int) = x at *
  generalize ((a.natAbs * b.natAbs % 18446744073709551616 : Nat) : Int) = y at *
  have hS : Hid (∀ w, Calls zP 140 #[J zq d] w fun e w' => e = zR (J zu (d.natAbs : Int)) ∧ w' = w) := fun w => size_any d w j1 j2
  have hE : Hid (∀ w, Calls zP 139 #[zG #[J zq a, J zq b], .func (.func 140) #[] #[]] w fun e w' => e = zR (zG #[J zu (a.natAbs : Int), J zu (b.natAbs : Int)]) ∧ Ext w w') := fun w => eachSize_any a b w h1 h2 k1 k2
  generalize (a.natAbs : Int) = A at *
  generalize (b.natAbs : Int) = B at *
  generalize (d.natAbs : Int) = D at *
  have hml : (mag a b d : Int) ≤ 35184372088832 := by have := mag_le a b d; omega
  have hm0 : 0 ≤ (mag a b d : Int) := Int.natCast_nonneg _
  generalize (mag a b d : Int) = m at *
  have hk : okW (-m) = false := by unfold okW at *; simp at *; omega
  go_enter Tryz.func107, Tryz.ntmps107
  go_wp2_with fail
  refine (hE.out _).mono ?_
  rintro e w1 ⟨rfl, x1⟩
  go_wp2_with fail
  refine (hT.out _).mono ?_
  rintro e w2 ⟨rfl, x2⟩
  go_wp2_with fail
  refine (hS.out _).mono ?_
  rintro e w3 ⟨rfl, x3⟩
  have x3' := x3.symm
  clear x3
  subst x3'
  go_wp2_with fail
  refine (hN.out _).mono ?_
  rintro e w4 ⟨rfl, x4⟩
  have x5 := (x1.trans x2).trans x4
  obtain ⟨c0, c1⟩ := x5.cells2
  have X : Hid (Ext w w4) := ((Ext.refl w).alloc _).trans x5
  clear x1 x2 x4 x5 hE hT hS hN
  go_wp2_with fail
  · skip
    refine (fit_no _ _ hk).mono ?_
    rintro e w5 ⟨rfl, x5⟩
    have x5' := x5.symm
    clear x5
    subst x5'
    go_wp2_with fail
    go_ret2
    exact ⟨rfl, X.out⟩
  · skip
    refine (fit_no _ _ hm).mono ?_
    rintro e w5 ⟨rfl, x5⟩
    have x5' := x5.symm
    clear x5
    subst x5'
    go_wp2_with fail
    go_ret2
    exact ⟨rfl, X.out⟩
set_option maxHeartbeats 400000 in
theorem share_zero (a b : Int) (w : World) :
    Calls zP 107 #[zG #[J zq a, J zq b], J zq 0] w fun e w' => e = zR (.tuple #[J zq 0, J zq 3]) ∧ Ext w w' := by
  go_enter Tryz.func107, Tryz.ntmps107
  go_wp2_with fail
  go_ret2
  exact ⟨rfl, (Ext.refl _).alloc _⟩
theorem share_any (a b d : Int) (w : World) (h1 : -9223372036854775808 ≤ a) (h2 : a ≤ 9223372036854775807) (k1 : -9223372036854775808 ≤ b) (k2 : b ≤ 9223372036854775807) (j1 : -9223372036854775808 ≤ d) (j2 : d ≤ 9223372036854775807) :
    Calls zP 107 #[zG #[J zq a, J zq b], J zq d] w fun e w' => e = zR (.tuple #[J zq (shareR a b d).1, J zq (shareR a b d).2]) ∧ Ext w w' := by
  unfold shareR
  cases h0 : (d == 0)
  · cases hm : okW (mag a b d)
    · exact share_out a b d w h1 h2 k1 k2 j1 j2 h0 hm
    · exact share_in a b d w h1 h2 k1 k2 j1 j2 h0 hm
  · obtain rfl : d = 0 := by simpa using h0
    exact share_zero a b w
set_option maxHeartbeats 400000 in
theorem prodc_any (a b : Int) (w : World) (h1 : okW a = true) (h2 : okW b = true) :
    Calls zP 121 #[zG #[J zq a, J zq b]] w fun e w' => e = zR (.tuple #[J zq (prodV a b).1, J zq (prodV a b).2]) ∧ Ext w w' := by
  have g1 := okW_bounds h1
  have g2 := okW_bounds h2
  have hP : Hid (∀ w, Calls zP 107 #[zG #[J zq a, J zq b], J zq 1073741824] w fun e w' => e = zR (.tuple #[J zq (prodV a b).1, J zq (prodV a b).2]) ∧ Ext w w') := fun w => share_any _ _ _ w (by omega) (by omega) (by omega) (by omega) (by omega) (by omega)
  generalize (prodV a b).1 = x at *
  generalize (prodV a b).2 = y at *
  clear h1 h2
  go_enter Tryz.func121, Tryz.ntmps121
  go_wp2_with fail
  refine (hP.out _).mono ?_
  rintro e w1 ⟨rfl, x1⟩
  go_wp2_with fail
  go_ret2
  exact ⟨rfl, ((Ext.refl _).alloc _).trans x1⟩
set_option maxHeartbeats 400000 in
theorem mul_op (a b : Int) (w : World) (h1 : okW a = true) (h2 : okW b = true) :
    Calls zP 120 #[zG #[J zq a, J zq b], .func (.func 121) #[] #[]] w fun e w' => e = zR (.tuple #[J zq (prodV a b).1, J zq (prodV a b).2]) ∧ Ext w w' := by
  have hP : Hid (∀ w, Calls zP 121 #[zG #[J zq a, J zq b]] w fun e w' => e = zR (.tuple #[J zq (prodV a b).1, J zq (prodV a b).2]) ∧ Ext w w') := fun w => prodc_any a b w h1 h2
  generalize (prodV a b).1 = x at *
  generalize (prodV a b).2 = y at *
  have hw : (okW a && okW b) = true := by rw [h1, h2]; rfl
  have hW : Hid (∀ w, Calls zP 160 #[zG #[J zq a, J zq b]] w fun e w' => e = zR (.bool true) ∧ Ext w w') := by
    intro w
    have := words_any a b w
    rw [hw] at this
    exact this
  clear h1 h2 hw
  go_enter Tryz.func120, Tryz.ntmps120
  go_wp2_with fail
  refine (hW.out _).mono ?_
  rintro e w1 ⟨rfl, x1⟩
  obtain ⟨c0, c1⟩ := x1.cells2
  have X : Hid (Ext w w1) := ((Ext.refl w).alloc _).trans x1
  clear x1 hW
  go_wp2_with fail
  refine (hP.out _).mono ?_
  rintro e w2 ⟨rfl, x2⟩
  go_wp2_with fail
  go_ret2
  exact ⟨rfl, X.out.trans x2⟩
set_option maxHeartbeats 400000 in
theorem mul_form (a b : Int) (w : World) (h : (okW a && okW b) = false) :
    Calls zP 120 #[zG #[J zq a, J zq b], .func (.func 121) #[] #[]] w fun e w' => e = zR (.tuple #[J zq 0, J zq 1]) ∧ Ext w w' := by
  have hW : Hid (∀ w, Calls zP 160 #[zG #[J zq a, J zq b]] w fun e w' => e = zR (.bool false) ∧ Ext w w') := by
    intro w
    have := words_any a b w
    rw [h] at this
    exact this
  clear h
  go_enter Tryz.func120, Tryz.ntmps120
  go_wp2_with fail
  refine (hW.out _).mono ?_
  rintro e w1 ⟨rfl, x1⟩
  go_wp2_with fail
  go_ret2
  exact ⟨rfl, ((Ext.refl w).alloc _).trans x1⟩
theorem mul_operate (a b : Int) (w : World) :
    Calls zP 120 #[zG #[J zq a, J zq b], .func (.func 121) #[] #[]] w fun e w' => e = zR (.tuple #[J zq (mulR a b).1, J zq (mulR a b).2]) ∧ Ext w w' := by
  unfold mulR
  cases h : (okW a && okW b)
  · rw [if_neg (by decide)]
    exact mul_form a b w h
  · rw [if_pos rfl]
    rw [Bool.and_eq_true] at h
    exact mul_op a b w h.1 h.2
set_option maxHeartbeats 400000 in
theorem mul_any (a b : Int) (w : World) :
    Calls zP 90 #[J zq a, J zq b] w fun e w' => e = zR (.tuple #[J zq (mulR a b).1, J zq (mulR a b).2]) ∧ Ext w w' := by
  have hP : Hid (∀ w, Calls zP 120 #[zG #[J zq a, J zq b], .func (.func 121) #[] #[]] w fun e w' => e = zR (.tuple #[J zq (mulR a b).1, J zq (mulR a b).2]) ∧ Ext w w') := fun w => mul_operate _ _ w
  generalize (mulR a b).1 = x at *
  generalize (mulR a b).2 = y at *
  go_enter Tryz.func90, Tryz.ntmps90
  go_wp2_with fail
  refine (hP.out _).mono ?_
  rintro e w1 ⟨rfl, x1⟩
  go_wp2_with fail
  go_ret2
  exact ⟨rfl, x1⟩
set_option maxHeartbeats 400000 in
theorem ratio_any (n d : Int) (w : World) (h1 : -9223372036854775808 ≤ n) (h2 : n ≤ 9223372036854775807) (k1 : -9223372036854775808 ≤ d) (k2 : d ≤ 9223372036854775807) :
    Calls zP 81 #[J zq n, J zq d] w fun e w' => e = zR (.tuple #[J zq (shareR n 1 d).1, J zq (shareR n 1 d).2]) ∧ Ext w w' := by
  have hP : Hid (∀ w, Calls zP 107 #[zG #[J zq n, J zq 1], J zq d] w fun e w' => e = zR (.tuple #[J zq (shareR n 1 d).1, J zq (shareR n 1 d).2]) ∧ Ext w w') := fun w => share_any _ _ _ w h1 h2 (by omega) (by omega) k1 k2
  generalize (shareR n 1 d).1 = x at *
  generalize (shareR n 1 d).2 = y at *
  go_enter Tryz.func81, Tryz.ntmps81
  go_wp2_with fail
  refine (hP.out _).mono ?_
  rintro e w1 ⟨rfl, x1⟩
  go_wp2_with fail
  go_ret2
  exact ⟨rfl, x1⟩
def IsNear (n d z : Int) : Prop := -d ≤ 2 * (n - z * d) ∧ 2 * (n - z * d) ≤ d ∧ ((2 * (n - z * d) = d ∨ 2 * (n - z * d) = -d) → z % 2 = 0)
theorem IsNear.unique {n d z z' : Int} (hd : 0 < d) (h : IsNear n d z) (h' : IsNear n d z') : z = z' := by
  obtain ⟨a1, a2, a3⟩ := h
  obtain ⟨b1, b2, b3⟩ := h'
  rcases Int.lt_trichotomy z z' with hl | he | hl
  · exfalso
    have h1 : (z + 1) * d ≤ z' * d := Int.mul_le_mul_of_nonneg_right (by omega) (by omega)
    rw [Int.add_mul, Int.one_mul] at h1
    have e : z' * d = z * d + d := by omega
    have c1 := a3 (by omega)
    have c2 := b3 (by omega)
    have e2 : (z' - (z + 1)) * d = 0 := by rw [Int.sub_mul, Int.add_mul]; omega
    rcases Int.mul_eq_zero.1 e2 with h | h <;> omega
  · exact he
  · exfalso
    have h1 : (z' + 1) * d ≤ z * d := Int.mul_le_mul_of_nonneg_right (by omega) (by omega)
    rw [Int.add_mul, Int.one_mul] at h1
    have e : z * d = z' * d + d := by omega
    have c1 := a3 (by omega)
    have c2 := b3 (by omega)
    have e2 : (z - (z' + 1)) * d = 0 := by rw [Int.sub_mul, Int.add_mul]; omega
    rcases Int.mul_eq_zero.1 e2 with h | h <;> omega
theorem IsNear.neg {n d z : Int} (h : IsNear n d z) : IsNear (-n) d (-z) := by
  obtain ⟨a1, a2, a3⟩ := h
  have e : 2 * (-n - -z * d) = -(2 * (n - z * d)) := by rw [Int.neg_mul]; omega
  unfold IsNear
  rw [e]
  exact ⟨by omega, by omega, fun h => by have := a3 (by omega); omega⟩
theorem IsNear.scale {n d z g : Int} (hg : 0 < g) (h : IsNear n d z) : IsNear (g * n) (g * d) z := by
  obtain ⟨a1, a2, a3⟩ := h
  have e : 2 * (g * n - z * (g * d)) = g * (2 * (n - z * d)) := by rw [Int.mul_left_comm z, ← Int.mul_sub, Int.mul_left_comm]
  unfold IsNear
  rw [e]
  refine ⟨?_, Int.mul_le_mul_of_nonneg_left a2 (by omega), fun h => a3 ?_⟩
  · rw [← Int.mul_neg]; exact Int.mul_le_mul_of_nonneg_left a1 (by omega)
  · rw [← Int.mul_neg] at h
    rcases h with h | h
    · exact .inl (Int.eq_of_mul_eq_mul_left (by omega) h)
    · exact .inr (Int.eq_of_mul_eq_mul_left (by omega) h)
def nearI (n d : Int) : Int :=
  if 2 * (n * 2 / d / 2) = n * 2 / d then n * 2 / d / 2
  else if n * 2 % d = 0 ∧ 2 * (n * 2 / d / 2 / 2) = n * 2 / d / 2 then n * 2 / d / 2
  else n * 2 / d / 2 + 1
theorem nearI_spec (n d : Int) (hd : 0 < d) : IsNear n d (nearI n d) := by
  have h := Int.emod_add_mul_ediv (n * 2) d
  have h1 := Int.emod_nonneg (n * 2) (show d ≠ 0 by omega)
  have h2 := Int.emod_lt_of_pos (n * 2) hd
  unfold nearI
  generalize n * 2 % d = r at *
  generalize n * 2 / d = q at *
  have hq : q = 2 * (q / 2) ∨ q = 2 * (q / 2) + 1 := by omega
  generalize q / 2 = k at *
  split
  · rename_i e
    unfold IsNear
    have e2 : d * q = 2 * (k * d) := by rw [← e, Int.mul_left_comm, Int.mul_comm d k]
    exact ⟨by omega, by omega, fun hh => by omega⟩
  · have e : q = 2 * k + 1 := by omega
    have e2 : d * q = 2 * (k * d) + d := by rw [e, Int.mul_add, Int.mul_left_comm, Int.mul_comm d k, Int.mul_one]
    split
    · rename_i hh
      unfold IsNear
      exact ⟨by omega, by omega, fun _ => by omega⟩
    · rename_i hh
      have e3 : (k + 1) * d = k * d + d := by rw [Int.add_mul, Int.one_mul]
      unfold IsNear
      rw [e3]
      refine ⟨by omega, by omega, fun h5 => ?_⟩
      have hr : r = 0 := by omega
      have : ¬ 2 * (k / 2) = k := fun h6 => hh ⟨hr, h6⟩
      omega
theorem near_isNear (n d : Nat) (hd : 0 < d) : IsNear (n : Int) (d : Int) (Num.near n d : Int) := by
  have h := Nat.mod_add_div n d
  have h2 := Nat.mod_lt n hd
  unfold Num.near
  generalize n % d = r at *
  generalize n / d = q at *
  have h' : (n : Int) = (r : Int) + (q : Int) * (d : Int) := by rw [← h, Int.natCast_add, Int.natCast_mul, Int.mul_comm (d : Int)]
  have e3 : ((q : Int) + 1) * (d : Int) = (q : Int) * (d : Int) + (d : Int) := by rw [Int.add_mul, Int.one_mul]
  unfold IsNear
  split
  · rw [Int.natCast_add, Int.natCast_one, e3]
    exact ⟨by omega, by omega, fun hh => by omega⟩
  · split
    · split
      · rw [Int.natCast_add, Int.natCast_one, e3]
        exact ⟨by omega, by omega, fun hh => by omega⟩
      · exact ⟨by omega, by omega, fun hh => by omega⟩
    · exact ⟨by omega, by omega, fun hh => by omega⟩
theorem near_ge (n d : Nat) : n / d ≤ Num.near n d := by
  unfold Num.near
  split
  · omega
  · split
    · split <;> omega
    · omega
def over (x d : Int) : Int := if d < 0 then -x else x
theorem signed_over (a b d : Int) : over (a * b) d = signed (neg3 a b d) ((a.natAbs * b.natAbs : Nat) : Int) := by
  have ha : a = signed (decide (a < 0)) (a.natAbs : Int) := by unfold signed; split <;> rename_i h <;> simp at h <;> omega
  have hb : b = signed (decide (b < 0)) (b.natAbs : Int) := by unfold signed; split <;> rename_i h <;> simp at h <;> omega
  have e : a * b = signed (decide (a < 0) != decide (b < 0)) ((a.natAbs * b.natAbs : Nat) : Int) := by
    rw [Int.natCast_mul]
    conv => lhs; rw [ha, hb]
    unfold signed
    cases decide (a < 0) <;> cases decide (b < 0) <;> simp [Int.mul_neg, Int.neg_mul]
  unfold over neg3
  rw [e]
  by_cases h : d < 0
  · rw [if_pos h, decide_eq_true h]
    cases (decide (a < 0) != decide (b < 0)) <;> simp [signed]
  · rw [if_neg h, decide_eq_false h]
    cases (decide (a < 0) != decide (b < 0)) <;> simp [signed]
theorem share_word (a b d z : Int) (hd : d ≠ 0) (hz : IsNear (over (a * b) d) (d.natAbs : Int) z) : shareR a b d = if okW z then (z, 0) else (0, 2) := by
  have hD : 0 < d.natAbs := by omega
  have hn := near_isNear (a.natAbs * b.natAbs) d.natAbs hD
  have hs : IsNear (over (a * b) d) (d.natAbs : Int) (signed (neg3 a b d) (Num.near (a.natAbs * b.natAbs) d.natAbs : Int)) := by
    rw [signed_over]
    cases neg3 a b d
    · exact hn
    · exact hn.neg
  have e := hz.unique (by omega) hs
  have h0 : (d == 0) = false := beq_eq_false_iff_ne.2 hd
  unfold shareR
  rw [h0, if_neg (by simp)]
  have hge := near_ge (a.natAbs * b.natAbs) d.natAbs
  unfold mag nearW
  split
  · rename_i hbig
    have k1 : okW ((35184372088832 : Nat) : Int) = false := by decide
    have k2 : okW z = false := by
      rw [e]
      unfold okW signed
      split <;> simp <;> omega
    rw [k1, k2]
    simp
  · have k : okW z = okW ((Num.near (a.natAbs * b.natAbs) d.natAbs : Nat) : Int) := by
      rw [e, Bool.eq_iff_iff]
      unfold okW signed
      split <;> simp <;> omega
    rw [k, ← e]
theorem over_pos (x d : Int) (h : 0 < d) : over x d = x := by unfold over; rw [if_neg (by omega)]
end Go.Proofs.YtoeecldhbabmbaaGreat
namespace Go.Proofs.YtoeecldhbabmbaaGreat.Num
open Go.RowKit
def GRel (P : Nat → Prop) (r b : Int) : Prop := ∃ R : Nat, r = R ∧ P R ∧
  ((b = 0 ∧ ¬ P (R + 1) ∧ R < 70368744177664) ∨ ∃ j : Nat, j ≤ 45 ∧ b = ((2 ^ j : Nat) : Int) ∧ (∃ m, R = m * 2 ^ (j + 1)) ∧ ¬ P (R + 2 ^ (j + 1)) ∧ R + 2 ^ (j + 1) ≤ 70368744177664)
theorem gr_start (P : Nat → Prop) (h0 : P 0) (h1 : ¬ P 70368744177664) : GRel P 0 35184372088832 := by
  refine ⟨0, rfl, h0, .inr ⟨45, by omega, by decide, ⟨0, by omega⟩, ?_, by decide⟩⟩
  have : 0 + 2 ^ (45 + 1) = 70368744177664 := by decide
  rw [this]; exact h1
theorem gr_round (P : Nat → Prop) (r b : Int) (h : GRel P r b) : (b = 0 ∧ ∃ R : Nat, r = R ∧ P R ∧ ¬ P (R + 1) ∧ R < 70368744177664) ∨
    (0 < b ∧ b ≤ 35184372088832 ∧ 0 ≤ r ∧ r < 70368744177664 ∧ ∃ X : Nat, bits BinOp.or IntKind.u64 r b = (X : Int) ∧ X < 70368744177664 ∧
      (P X → GRel P X (b / 2)) ∧ (¬ P X → GRel P r (b / 2))) := by
  obtain ⟨R, rfl, h1, h2⟩ := h
  rcases h2 with ⟨hb, h3, h4⟩ | ⟨j, hj, rfl, ⟨m, hm⟩, h3, h4⟩
  · exact .inl ⟨hb, R, rfl, h1, h3, h4⟩
  · right
    have hp : 0 < 2 ^ j := Nat.pow_pos (by omega)
    have hps : 2 ^ (j + 1) = 2 * 2 ^ j := by rw [Nat.pow_succ]; omega
    have hp45 : 2 ^ j ≤ 35184372088832 := by
      have := Nat.pow_le_pow_right (n := 2) (by omega) hj
      simpa using this
    have hor : bits BinOp.or IntKind.u64 (R : Int) ((2 ^ j : Nat) : Int) = ((R + 2 ^ j : Nat) : Int) := by
      have := or_shift m (2 ^ j) (j + 1) (by omega) (by omega) (by rw [← hm]; omega)
      rw [← hm] at this
      exact this
    refine ⟨by omega, by omega, by omega, by omega, R + 2 ^ j, hor, by omega, fun hx => ?_, fun hx => ?_⟩
    · refine ⟨R + 2 ^ j, rfl, hx, ?_⟩
      cases j with
      | zero => left; refine ⟨by simp, ?_, by omega⟩; simpa [Nat.add_assoc] using h3
      | succ j =>
        right
        refine ⟨j, by omega, ?_, ⟨2 * m + 1, ?_⟩, ?_, by omega⟩
        · rw [Nat.pow_succ]; omega
        · rw [hm, hps, Nat.add_mul, Nat.one_mul, Nat.mul_assoc, Nat.mul_left_comm]
        · have : R + 2 ^ (j + 1) + 2 ^ (j + 1) = R + 2 ^ (j + 1 + 1) := by omega
          rw [this]; exact h3
    · refine ⟨R, rfl, h1, ?_⟩
      cases j with
      | zero => left; refine ⟨by simp, ?_, by omega⟩; simpa using hx
      | succ j =>
        right
        refine ⟨j, by omega, ?_, ⟨m * 2, ?_⟩, hx, by omega⟩
        · rw [Nat.pow_succ]; omega
        · rw [hm, hps, Nat.mul_assoc]
end Go.Proofs.YtoeecldhbabmbaaGreat.Num
