/- Contracts: below, rootDown, Sqrt. -/
import Derived.Test.YtfcmacbhadpldaaFaces
import Derived.Test.YtfcmacbhadpldaaTwos
import Derived.Test.YtfcmacbhadpldaaRootNum
namespace Go.Proofs.Ytfcmacbhadpldaa
open Go.RowKit

theorem Ext.keep {w w' : World} (h : Ext w w') {b o : Nat} {v : Value} (hc : w.cell? ⟨b, o, none⟩ = some v) : w'.cell? ⟨b, o, none⟩ = some v := by
  rw [(h.lay).1 b o (cell_lt hc)]
  exact hc

def lowB (a b c d : Int) : Bool := if a = c then decide (b < d) else decide (a < c)

set_option maxHeartbeats 400000 in
theorem below_any (a b c d : Int) (w : World) :
    Calls Try.prog 77 #[.agg #[.int .u64 a, .int .u64 b], .agg #[.int .u64 c, .int .u64 d]] w fun e w' => e = .returned (.bool (lowB a b c d)) ∧ Ext w w' := by
  by_cases h : a = c
  · have hb : Hid (decide (b < d) = lowB a b c d) := by show _ = _; unfold lowB; rw [if_pos h]
    have h' : (a != c) = false := by simp [h]
    subst h
    generalize lowB a b a d = V at *
    go_enter Try.func77, Try.ntmps77
    go_wp2_with fail
    go_ret
    exact ⟨ret_bool hb.out, ((Ext.refl _).alloc _).alloc _⟩
  · have hb : Hid (decide (a < c) = lowB a b c d) := by show _ = _; unfold lowB; rw [if_neg h]
    have h' : (a != c) = true := by simp [h]
    clear h
    generalize lowB a b c d = V at *
    go_enter Try.func77, Try.ntmps77
    go_wp2_with fail
    go_ret
    exact ⟨ret_bool hb.out, ((Ext.refl _).alloc _).alloc _⟩

theorem lowB_wide (hi lo x y : Nat) (h1 : lo < 18446744073709551616) (h2 : y < 18446744073709551616) : lowB hi lo x y = decide (hi * 18446744073709551616 + lo < x * 18446744073709551616 + y) := by
  unfold lowB
  split
  · rw [decide_eq_decide]; omega
  · rw [decide_eq_decide]; omega

set_option maxHeartbeats 2000000 in
theorem rootDown_any (hi lo : Nat) (w : World) (h1 : lo < 18446744073709551616) (hN : hi * 18446744073709551616 + lo < 75557863725914323419136) :
    Calls Try.prog 51 #[.agg #[.int .u64 hi, .int .u64 lo]] w fun e w' => (∃ R : Nat, e = .returned (.int .u64 (R : Int)) ∧ R * R ≤ hi * 18446744073709551616 + lo ∧ hi * 18446744073709551616 + lo < (R + 1) * (R + 1) ∧ R < 274877906944) ∧ Ext w w' := by
  have st := Num.root_start _ hN
  have HB : Hid (∀ (X : Nat) (w : World), Calls Try.prog 77 #[.agg #[.int .u64 hi, .int .u64 lo], .agg #[.int .u64 ((X * X / 18446744073709551616 : Nat) : Int), .int .u64 ((X * X % 18446744073709551616 : Nat) : Int)]] w fun e w' => e = .returned (.bool (decide (hi * 18446744073709551616 + lo < X * X))) ∧ Ext w w') := by
    intro X w
    have h := below_any hi lo ((X * X / 18446744073709551616 : Nat) : Int) ((X * X % 18446744073709551616 : Nat) : Int) w
    rw [lowB_wide _ _ _ _ h1 (Nat.mod_lt _ (by omega)), Nat.mul_comm (X * X / 18446744073709551616), Nat.div_add_mod] at h
    exact h
  clear hN h1
  generalize hi * 18446744073709551616 + lo = N at *
  go_enter Try.func51, Try.ntmps51
  go_wp2_with fail
  go_loopw [3, 4] (fun r b wr => ∃ R B : Int, r = .int .u64 R ∧ b = .int .u64 B ∧ Num.RRel N R B ∧ Ext (w.alloc (.cells #[.int .u64 hi, .int .u64 lo] 66)) wr) (fun _ b _ => (intOf b).toNat)
  case atStart => exact ⟨0, 137438953472, rfl, rfl, st, Ext.refl _⟩
  case round =>
    obtain ⟨R, B, rfl, rfl, hR, hx⟩ := hrel
    clear st
    obtain ⟨c0, c1⟩ := hx.cells2
    have X0 : Hid (Ext w wr) := ((Ext.refl _).alloc _).trans hx
    have hy : ∀ {u v : World}, Ext wr.drew u → Ext u v → Ext wr v := fun h k => ((Ext.refl wr).drew.trans h).trans k
    rcases Num.root_round N R B hR with ⟨rfl, Rn, rfl, g1, g2, g3⟩ | ⟨g1, g2, g3, g4, X, g5, g6, g7, g8⟩
    · go_wp2_with fail
      go_ret
      exact ⟨⟨Rn, rfl, g1, g2, g3⟩, X0.out⟩
    · by_cases hX : N < X * X
      · have HX : Hid (∀ w : World, Calls Try.prog 77 #[.agg #[.int .u64 hi, .int .u64 lo], .agg #[.int .u64 ((X * X / 18446744073709551616 : Nat) : Int), .int .u64 ((X * X % 18446744073709551616 : Nat) : Int)]] w fun e w' => e = .returned (.bool true) ∧ Ext w w') := by
          intro w
          have h := HB.out X w
          rw [decide_eq_true hX] at h
          exact h
        have HT : Hid (∀ w : World, Calls Try.prog 53 #[.agg #[.int .u64 (X : Int), .int .u64 (X : Int)]] w fun e w' => e = .returned (.agg #[.int .u64 ((X * X / 18446744073709551616 : Nat) : Int), .int .u64 ((X * X % 18446744073709551616 : Nat) : Int)]) ∧ Ext w w') := fun w => times_any X X (by omega) (by omega) w
        have hn : Num.RRel N R (B / 2) := g8 hX
        clear g6 g7 g8 hX HB hR
        generalize ((X * X / 18446744073709551616 : Nat) : Int) = p at *
        generalize ((X * X % 18446744073709551616 : Nat) : Int) = q at *
        generalize (X : Int) = x at *
        go_wp2_with fail
        go_region_with (first | (go_at_call 53; refine (HT.out _).mono ?_; rintro e w1 ⟨rfl, x1⟩; have k0 := x1.keep c0; have k1 := x1.keep c1) | (go_at_call 77; refine (HX.out _).mono ?_; rintro e w2 ⟨rfl, x2⟩))
        all_goals
          go_wp2_with fail
          go_roundw
          case rel => exact ⟨R, B / 2, by go_num, by go_num, hn, hx.trans (hy x1 x2)⟩
          case measure => simp [intOf]; omega
      · have HX : Hid (∀ w : World, Calls Try.prog 77 #[.agg #[.int .u64 hi, .int .u64 lo], .agg #[.int .u64 ((X * X / 18446744073709551616 : Nat) : Int), .int .u64 ((X * X % 18446744073709551616 : Nat) : Int)]] w fun e w' => e = .returned (.bool false) ∧ Ext w w') := by
          intro w
          have h := HB.out X w
          rw [decide_eq_false hX] at h
          exact h
        have HT : Hid (∀ w : World, Calls Try.prog 53 #[.agg #[.int .u64 (X : Int), .int .u64 (X : Int)]] w fun e w' => e = .returned (.agg #[.int .u64 ((X * X / 18446744073709551616 : Nat) : Int), .int .u64 ((X * X % 18446744073709551616 : Nat) : Int)]) ∧ Ext w w') := fun w => times_any X X (by omega) (by omega) w
        have hn : Num.RRel N X (B / 2) := g7 (by omega)
        clear g6 g7 g8 hX HB hR
        generalize ((X * X / 18446744073709551616 : Nat) : Int) = p at *
        generalize ((X * X % 18446744073709551616 : Nat) : Int) = q at *
        generalize (X : Int) = x at *
        go_wp2_with fail
        go_region_with (first | (go_at_call 53; refine (HT.out _).mono ?_; rintro e w1 ⟨rfl, x1⟩; have k0 := x1.keep c0; have k1 := x1.keep c1) | (go_at_call 77; refine (HX.out _).mono ?_; rintro e w2 ⟨rfl, x2⟩))
        all_goals
          go_wp2_with fail
          go_roundw
          case rel => exact ⟨x, B / 2, by go_num, by go_num, hn, hx.trans (hy x1 x2)⟩
          case measure => simp [intOf]; omega

set_option maxHeartbeats 400000 in
theorem sqrt_yes (a : Int) (w : World) (h : okW a = true) (h0 : 0 ≤ a) :
    Calls Try.prog 27 #[.int .i64 a] w fun e w' => (∃ R : Nat, e = .returned (.tuple #[.int .i64 (R : Int), .int .i64 0]) ∧ ((R * R : Nat) : Int) ≤ a ∧ a < (((R + 1) * (R + 1) : Nat) : Int) ∧ (R : Int) < 274877906944) ∧ Ext w w' := by
  have hb := okW_bounds h
  have hc : chk a = 0 := by unfold chk; rw [if_pos h]
  obtain ⟨n, rfl⟩ := Int.eq_ofNat_of_zero_le h0
  have HR : Hid (∀ w, Calls Try.prog 51 #[.agg #[.int .u64 0, .int .u64 (n : Int)]] w fun e w' => (∃ R : Nat, e = .returned (.int .u64 (R : Int)) ∧ R * R ≤ 0 * 18446744073709551616 + n ∧ 0 * 18446744073709551616 + n < (R + 1) * (R + 1) ∧ R < 274877906944) ∧ Ext w w') := fun w => rootDown_any 0 n w (by omega) (by omega)
  rw [Nat.zero_mul, Nat.zero_add] at HR
  have hP : Hid (∀ R : Nat, R * R ≤ n → n < (R + 1) * (R + 1) → R < 274877906944 → ((R * R : Nat) : Int) ≤ (n : Int) ∧ (n : Int) < (((R + 1) * (R + 1) : Nat) : Int) ∧ (R : Int) < 274877906944) := fun R p1 p2 p3 => ⟨by omega, by omega, by omega⟩
  generalize (n : Int) = a at *
  go_enter Try.func27, Try.ntmps27
  go_wp2_with (go_at_call 22; refine (check_any _ _).mono ?_; rintro e wx ⟨rfl, hwx⟩; have hwy := hwx.symm; clear hwx; subst hwy)
  refine (HR.out _).mono ?_
  rintro e w1 ⟨⟨R, rfl, p1, p2, p3⟩, x1⟩
  have p4 : Hid _ := hP.out R p1 p2 p3
  have p5 := p4.out.2.2
  clear p1 p2 p3 hP
  have p6 : 0 ≤ (R : Int) := Int.natCast_nonneg _
  have p7 : Hid (∃ Q : Nat, (R : Int) = Q ∧ ((Q * Q : Nat) : Int) ≤ a ∧ a < (((Q + 1) * (Q + 1) : Nat) : Int) ∧ (Q : Int) < 274877906944) := ⟨R, rfl, p4.out⟩
  clear p4
  generalize (R : Int) = r at *
  go_wp2_with fail
  go_ret2
  obtain ⟨Q, rfl, q1, q2, q3⟩ := p7.out
  exact ⟨⟨Q, rfl, q1, q2, q3⟩, x1⟩

set_option maxHeartbeats 400000 in
theorem sqrt_no (a : Int) (w : World) (h : (okW a && decide (0 ≤ a)) = false) :
    Calls Try.prog 27 #[.int .i64 a] w fun e w' => e = .returned (.tuple #[.int .i64 0, .int .i64 1]) ∧ Ext w w' := by
  cases ha : okW a
  · have hc : chk a = 1 := by unfold chk; rw [ha]; rfl
    clear h ha
    go_enter Try.func27, Try.ntmps27
    go_wp2_with (go_at_call 22; refine (check_any _ _).mono ?_; rintro e wx ⟨rfl, hwx⟩; have hwy := hwx.symm; clear hwx; subst hwy)
    go_ret2
    exact ⟨rfl, Ext.refl _⟩
  · have hc : chk a = 0 := by unfold chk; rw [if_pos ha]
    have h0 : a < 0 := by rw [ha] at h; simpa using h
    clear h ha
    go_enter Try.func27, Try.ntmps27
    go_wp2_with (go_at_call 22; refine (check_any _ _).mono ?_; rintro e wx ⟨rfl, hwx⟩; have hwy := hwx.symm; clear hwx; subst hwy)
    go_ret2
    exact ⟨rfl, Ext.refl _⟩
end Go.Proofs.Ytfcmacbhadpldaa
