/- Contracts: nearest, share, operate, Mul, wakes. -/
import Derived.Test.YtkcfgkedgjpeoaaMul
namespace Go.Proofs.Ytkcfgkedgjpeoaa
open Go.RowKit

set_option maxHeartbeats 400000 in
theorem nearest_out (hi lo d : Int) (w : World) (h : d ≤ hi) :
    Calls Try.prog 53 #[.agg #[.int .u64 hi, .int .u64 lo], .int .u64 d] w fun e w' => e = .returned (.int .u64 35184372088832) ∧ Ext w w' := by
  go_enter Try.func53, Try.ntmps53
  go_wp2
  go_ret
  exact ⟨rfl, (Ext.refl _).alloc _⟩

set_option maxHeartbeats 1000000 in
theorem nearest_in (hi lo d q r : Int) (w : World) (h1 : ¬ d ≤ hi) (hd : d < 18446744073709551616) (hr0 : 0 ≤ r) (hrd : r < d) (hq0 : 0 ≤ q)
    (hH : Hid (∀ w, Calls Try.prog 70 #[.int .u64 hi, .int .u64 lo, .int .u64 d] w fun e w' => e = .returned (.tuple #[.int .u64 q, .int .u64 r]) ∧ Ext w w')) (V : Int)
    (hV : Hid (V = if 35184372088832 ≤ q then 35184372088832 else if d - r < r ∨ r = d - r ∧ q % 2 = 1 then q + 1 else q)) :
    Calls Try.prog 53 #[.agg #[.int .u64 hi, .int .u64 lo], .int .u64 d] w fun e w' => e = .returned (.int .u64 V) ∧ Ext w w' := by
  by_cases h2 : 35184372088832 ≤ q
  · have hE : Hid (35184372088832 = V) := by
      show 35184372088832 = V
      rw [hV.out, if_pos h2]
    go_enter Try.func53, Try.ntmps53
    go_wp2_with (go_at_call 70; refine (hH.out _).mono ?_; rintro e w' ⟨rfl, hx⟩)
    go_ret
    exact ⟨ret_u64 hE.out, ((Ext.refl _).alloc _).trans hx⟩
  · by_cases h3 : d - r < r
    · have hE : Hid (q + 1 = V) := by
        show q + 1 = V
        rw [hV.out, if_neg h2, if_pos (Or.inl h3)]
      go_enter Try.func53, Try.ntmps53
      go_wp2_with (go_at_call 70; refine (hH.out _).mono ?_; rintro e w' ⟨rfl, hx⟩)
      go_ret
      exact ⟨ret_u64 hE.out, ((Ext.refl _).alloc _).trans hx⟩
    · by_cases h4 : r = d - r
      · have h4b : (r == d - r) = true := by rw [beq_iff_eq]; exact h4
        by_cases h5 : q % 2 = 1
        · have hE : Hid (q + 1 = V) := by
            show q + 1 = V
            rw [hV.out, if_neg h2, if_pos (Or.inr ⟨h4, h5⟩)]
          clear h4
          go_enter Try.func53, Try.ntmps53
          go_wp2_with (go_at_call 70; refine (hH.out _).mono ?_; rintro e w' ⟨rfl, hx⟩)
          go_ret
          exact ⟨ret_u64 hE.out, ((Ext.refl _).alloc _).trans hx⟩
        · have hE : Hid (q = V) := by
            show q = V
            rw [hV.out, if_neg h2, if_neg (by omega)]
          have h5b : (q % 2 == 1) = false := by simpa using h5
          clear h4 h5
          go_enter Try.func53, Try.ntmps53
          go_wp2_with (go_at_call 70; refine (hH.out _).mono ?_; rintro e w' ⟨rfl, hx⟩)
          go_ret
          exact ⟨ret_u64 hE.out, ((Ext.refl _).alloc _).trans hx⟩
      · have hE : Hid (q = V) := by
          show q = V
          rw [hV.out, if_neg h2, if_neg (by omega)]
        have h4b : (r == d - r) = false := by simpa using h4
        clear h4
        go_enter Try.func53, Try.ntmps53
        go_wp2_with (go_at_call 70; refine (hH.out _).mono ?_; rintro e w' ⟨rfl, hx⟩)
        go_ret
        exact ⟨ret_u64 hE.out, ((Ext.refl _).alloc _).trans hx⟩

theorem nearest_any (hi lo d : Nat) (hl : lo < 18446744073709551616) (hd : d < 18446744073709551616) (h0 : 0 < d) (w : World) :
    Calls Try.prog 53 #[.agg #[.int .u64 hi, .int .u64 lo], .int .u64 d] w fun e w' => e = .returned (.int .u64 (nearW (hi * 18446744073709551616 + lo) d : Int)) ∧ Ext w w' := by
  by_cases h1 : d ≤ hi
  · have e : nearW (hi * 18446744073709551616 + lo) d = 35184372088832 := by
      unfold nearW
      rw [if_pos]
      rw [Nat.le_div_iff_mul_le h0]
      omega
    rw [e]
    exact nearest_out _ _ _ w (by omega)
  · have hm := Nat.mod_lt (hi * 18446744073709551616 + lo) (show 0 < d by omega)
    exact nearest_in hi lo d (dQ hi lo d) (dR hi lo d) w (by omega) (by omega) (Int.natCast_nonneg _) (Int.ofNat_lt.2 hm) (Int.natCast_nonneg _) (fun w => div64_any hi lo d hl hd (by omega) w) _ (nearW_int _ _)

set_option maxHeartbeats 1000000 in
theorem share_in (a b d : Int) (w : World) (h1 : -9223372036854775808 ≤ a) (h2 : a ≤ 9223372036854775807) (k1 : -9223372036854775808 ≤ b) (k2 : b ≤ 9223372036854775807) (j1 : -9223372036854775808 ≤ d) (j2 : d ≤ 9223372036854775807) (h0 : (d == 0) = false) (hm : okW (mag a b d) = true) :
    Calls Try.prog 41 #[.agg #[.int .i64 a, .int .i64 b], .int .i64 d] w fun e w' => e = .returned (.tuple #[.int .i64 (signed (neg3 a b d) (mag a b d)), .int .i64 0]) ∧ Ext w w' := by
  have hlo : a.natAbs * b.natAbs % 18446744073709551616 < 18446744073709551616 := Nat.mod_lt _ (by omega)
  have hd0 : 0 < d.natAbs := by
    have : d ≠ 0 := by simpa using h0
    omega
  have hn := nearest_any (a.natAbs * b.natAbs / 18446744073709551616) (a.natAbs * b.natAbs % 18446744073709551616) d.natAbs hlo (by omega) hd0
  rw [Nat.mul_comm (a.natAbs * b.natAbs / 18446744073709551616), Nat.div_add_mod] at hn
  have hN : Hid (∀ w, Calls Try.prog 53 #[.agg #[.int .u64 ((a.natAbs * b.natAbs / 18446744073709551616 : Nat) : Int), .int .u64 ((a.natAbs * b.natAbs % 18446744073709551616 : Nat) : Int)], .int .u64 (d.natAbs : Int)] w fun e w' => e = .returned (.int .u64 (mag a b d : Int)) ∧ Ext w w') := hn
  have hT : Hid (∀ w, Calls Try.prog 54 #[.agg #[.int .u64 (a.natAbs : Int), .int .u64 (b.natAbs : Int)]] w fun e w' => e = .returned (.agg #[.int .u64 ((a.natAbs * b.natAbs / 18446744073709551616 : Nat) : Int), .int .u64 ((a.natAbs * b.natAbs % 18446744073709551616 : Nat) : Int)]) ∧ Ext w w') := fun w => times_any _ _ (by omega) (by omega) w
  clear hn hlo hd0
  generalize ((a.natAbs * b.natAbs / 18446744073709551616 : Nat) : Int) = x at *
  generalize ((a.natAbs * b.natAbs % 18446744073709551616 : Nat) : Int) = y at *
  have hS : Hid (∀ w, Calls Try.prog 56 #[.int .i64 d] w fun e w' => e = .returned (.int .u64 (d.natAbs : Int)) ∧ w' = w) := fun w => size_any d w j1 j2
  have hE : Hid (∀ w, Calls Try.prog 55 #[.agg #[.int .i64 a, .int .i64 b], .func (.func 56) #[] #[]] w fun e w' => e = .returned (.agg #[.int .u64 (a.natAbs : Int), .int .u64 (b.natAbs : Int)]) ∧ Ext w w') := fun w => eachSize_any a b w h1 h2 k1 k2
  generalize (a.natAbs : Int) = A at *
  generalize (b.natAbs : Int) = B at *
  generalize (d.natAbs : Int) = D at *
  have hml : (mag a b d : Int) ≤ 35184372088832 := by have := mag_le a b d; omega
  have hm0 : 0 ≤ (mag a b d : Int) := Int.natCast_nonneg _
  generalize (mag a b d : Int) = m at *
  have hk : okW (-m) = true := by unfold okW at *; simp at *; omega
  go_enter Try.func41, Try.ntmps41
  go_wp2_with fail
  refine (hE.out _).mono ?_
  rintro e w1 ⟨rfl, x1⟩
  go_wp2_with fail
  refine (hT.out _).mono ?_
  rintro e w2 ⟨rfl, x2⟩
  go_wp2_with fail
  refine (hS.out _).mono ?_
  rintro e w3 ⟨rfl, x3⟩
  have x3' := x3.symm
  clear x3
  subst x3'
  go_wp2_with fail
  refine (hN.out _).mono ?_
  rintro e w4 ⟨rfl, x4⟩
  have x5 := (x1.trans x2).trans x4
  obtain ⟨c0, c1⟩ := x5.cells2
  have X : Hid (Ext w w4) := ((Ext.refl w).alloc _).trans x5
  clear x1 x2 x4 x5 hE hT hS hN
  go_wp2_with fail
  · have hs : Hid (-m = signed (neg3 a b d) m) := by
      have hw : neg3 a b d = true := by assumption
      show -m = signed (neg3 a b d) m
      rw [hw]; rfl
    refine (fit_yes _ _ hk).mono ?_
    rintro e w5 ⟨rfl, x5⟩
    have x5' := x5.symm
    clear x5
    subst x5'
    go_wp2_with fail
    go_ret2
    exact ⟨ret2_ints hs.out rfl, X.out⟩
  · have hs : Hid (m = signed (neg3 a b d) m) := by
      have hw : neg3 a b d = false := by assumption
      show m = signed (neg3 a b d) m
      rw [hw]; rfl
    refine (fit_yes _ _ hm).mono ?_
    rintro e w5 ⟨rfl, x5⟩
    have x5' := x5.symm
    clear x5
    subst x5'
    go_wp2_with fail
    go_ret2
    exact ⟨ret2_ints hs.out rfl, X.out⟩
set_option maxHeartbeats 1000000 in
theorem share_out (a b d : Int) (w : World) (h1 : -9223372036854775808 ≤ a) (h2 : a ≤ 9223372036854775807) (k1 : -9223372036854775808 ≤ b) (k2 : b ≤ 9223372036854775807) (j1 : -9223372036854775808 ≤ d) (j2 : d ≤ 9223372036854775807) (h0 : (d == 0) = false) (hm : okW (mag a b d) = false) :
    Calls Try.prog 41 #[.agg #[.int .i64 a, .int .i64 b], .int .i64 d] w fun e w' => e = .returned (.tuple #[.int .i64 0, .int .i64 2]) ∧ Ext w w' := by
  have hlo : a.natAbs * b.natAbs % 18446744073709551616 < 18446744073709551616 := Nat.mod_lt _ (by omega)
  have hd0 : 0 < d.natAbs := by
    have : d ≠ 0 := by simpa using h0
    omega
  have hn := nearest_any (a.natAbs * b.natAbs / 18446744073709551616) (a.natAbs * b.natAbs % 18446744073709551616) d.natAbs hlo (by omega) hd0
  rw [Nat.mul_comm (a.natAbs * b.natAbs / 18446744073709551616), Nat.div_add_mod] at hn
  have hN : Hid (∀ w, Calls Try.prog 53 #[.agg #[.int .u64 ((a.natAbs * b.natAbs / 18446744073709551616 : Nat) : Int), .int .u64 ((a.natAbs * b.natAbs % 18446744073709551616 : Nat) : Int)], .int .u64 (d.natAbs : Int)] w fun e w' => e = .returned (.int .u64 (mag a b d : Int)) ∧ Ext w w') := hn
  have hT : Hid (∀ w, Calls Try.prog 54 #[.agg #[.int .u64 (a.natAbs : Int), .int .u64 (b.natAbs : Int)]] w fun e w' => e = .returned (.agg #[.int .u64 ((a.natAbs * b.natAbs / 18446744073709551616 : Nat) : Int), .int .u64 ((a.natAbs * b.natAbs % 18446744073709551616 : Nat) : Int)]) ∧ Ext w w') := fun w => times_any _ _ (by omega) (by omega) w
  clear hn hlo hd0
  generalize ((a.natAbs * b.natAbs / 18446744073709551616 : Nat) : Int) = x at *
  generalize ((a.natAbs * b.natAbs % 18446744073709551616 : Nat) : Int) = y at *
  have hS : Hid (∀ w, Calls Try.prog 56 #[.int .i64 d] w fun e w' => e = .returned (.int .u64 (d.natAbs : Int)) ∧ w' = w) := fun w => size_any d w j1 j2
  have hE : Hid (∀ w, Calls Try.prog 55 #[.agg #[.int .i64 a, .int .i64 b], .func (.func 56) #[] #[]] w fun e w' => e = .returned (.agg #[.int .u64 (a.natAbs : Int), .int .u64 (b.natAbs : Int)]) ∧ Ext w w') := fun w => eachSize_any a b w h1 h2 k1 k2
  generalize (a.natAbs : Int) = A at *
  generalize (b.natAbs : Int) = B at *
  generalize (d.natAbs : Int) = D at *
  have hml : (mag a b d : Int) ≤ 35184372088832 := by have := mag_le a b d; omega
  have hm0 : 0 ≤ (mag a b d : Int) := Int.natCast_nonneg _
  generalize (mag a b d : Int) = m at *
  have hk : okW (-m) = false := by unfold okW at *; simp at *; omega
  go_enter Try.func41, Try.ntmps41
  go_wp2_with fail
  refine (hE.out _).mono ?_
  rintro e w1 ⟨rfl, x1⟩
  go_wp2_with fail
  refine (hT.out _).mono ?_
  rintro e w2 ⟨rfl, x2⟩
  go_wp2_with fail
  refine (hS.out _).mono ?_
  rintro e w3 ⟨rfl, x3⟩
  have x3' := x3.symm
  clear x3
  subst x3'
  go_wp2_with fail
  refine (hN.out _).mono ?_
  rintro e w4 ⟨rfl, x4⟩
  have x5 := (x1.trans x2).trans x4
  obtain ⟨c0, c1⟩ := x5.cells2
  have X : Hid (Ext w w4) := ((Ext.refl w).alloc _).trans x5
  clear x1 x2 x4 x5 hE hT hS hN
  go_wp2_with fail
  · skip
    refine (fit_no _ _ hk).mono ?_
    rintro e w5 ⟨rfl, x5⟩
    have x5' := x5.symm
    clear x5
    subst x5'
    go_wp2_with fail
    go_ret2
    exact ⟨rfl, X.out⟩
  · skip
    refine (fit_no _ _ hm).mono ?_
    rintro e w5 ⟨rfl, x5⟩
    have x5' := x5.symm
    clear x5
    subst x5'
    go_wp2_with fail
    go_ret2
    exact ⟨rfl, X.out⟩

set_option maxHeartbeats 400000 in
theorem share_zero (a b : Int) (w : World) :
    Calls Try.prog 41 #[.agg #[.int .i64 a, .int .i64 b], .int .i64 0] w fun e w' => e = .returned (.tuple #[.int .i64 0, .int .i64 3]) ∧ Ext w w' := by
  go_enter Try.func41, Try.ntmps41
  go_wp2_with fail
  go_ret2
  exact ⟨rfl, (Ext.refl _).alloc _⟩
end Go.Proofs.Ytkcfgkedgjpeoaa
