/- Contracts: rootNearest, Root. -/
import Derived.Test.YtfcmacbhadpldaaRoot
namespace Go.Proofs.Ytfcmacbhadpldaa
open Go.RowKit

/-- X is the nearest whole number to the root of N -/
def NearRoot (N X : Nat) : Prop := 4 * N < (2 * X + 1) * (2 * X + 1) ∧ (X = 0 ∨ (2 * X - 1) * (2 * X - 1) < 4 * N)
theorem nearRoot_down {N R : Nat} (h1 : R * R ≤ N) (h : N ≤ R * (R + 1)) : NearRoot N R := by
  refine ⟨?_, ?_⟩
  · have : (2 * R + 1) * (2 * R + 1) = 4 * (R * (R + 1)) + 1 := by
      simp only [Nat.mul_add, Nat.add_mul, Nat.mul_one, Nat.one_mul]
      have : 2 * R * (2 * R) = 4 * (R * R) := by rw [Nat.mul_mul_mul_comm]
      omega
    omega
  · by_cases h0 : R = 0
    · exact .inl h0
    · right
      obtain ⟨k, rfl⟩ : ∃ k, R = k + 1 := ⟨R - 1, by omega⟩
      have e : 2 * (k + 1) - 1 = 2 * k + 1 := by omega
      rw [e]
      have e2 : (2 * k + 1) * (2 * k + 1) + (4 * k + 3) = 4 * ((k + 1) * (k + 1)) := by
        simp only [Nat.mul_add, Nat.add_mul, Nat.mul_one, Nat.one_mul]
        have : 2 * k * (2 * k) = 4 * (k * k) := by rw [Nat.mul_mul_mul_comm]
        omega
      omega
theorem nearRoot_up {N R : Nat} (h2 : N < (R + 1) * (R + 1)) (h : R * (R + 1) < N) : NearRoot N (R + 1) := by
  refine ⟨?_, .inr ?_⟩
  · have e2 : (2 * (R + 1) + 1) * (2 * (R + 1) + 1) = 4 * ((R + 1) * (R + 1)) + (4 * R + 5) := by
      simp only [Nat.mul_add, Nat.add_mul, Nat.mul_one, Nat.one_mul]
      have : 2 * R * (2 * R) = 4 * (R * R) := by rw [Nat.mul_mul_mul_comm]
      omega
    omega
  · have e : 2 * (R + 1) - 1 = 2 * R + 1 := by omega
    rw [e]
    have : (2 * R + 1) * (2 * R + 1) = 4 * (R * (R + 1)) + 1 := by
      simp only [Nat.mul_add, Nat.add_mul, Nat.mul_one, Nat.one_mul]
      have : 2 * R * (2 * R) = 4 * (R * R) := by rw [Nat.mul_mul_mul_comm]
      omega
    omega

set_option maxHeartbeats 2000000 in
theorem rootNearest_any (hi lo : Nat) (w : World) (h1 : lo < 18446744073709551616) (hN : hi * 18446744073709551616 + lo < 75557863725914323419136) :
    Calls Try.prog 52 #[.agg #[.int .u64 hi, .int .u64 lo]] w fun e w' => (∃ X : Nat, e = .returned (.int .u64 (X : Int)) ∧ NearRoot (hi * 18446744073709551616 + lo) X ∧ X ≤ 274877906944) ∧ Ext w w' := by
  have HB : Hid (∀ (P : Nat) (w : World), Calls Try.prog 77 #[.agg #[.int .u64 ((P / 18446744073709551616 : Nat) : Int), .int .u64 ((P % 18446744073709551616 : Nat) : Int)], .agg #[.int .u64 hi, .int .u64 lo]] w fun e w' => e = .returned (.bool (decide (P < hi * 18446744073709551616 + lo))) ∧ Ext w w') := by
    intro P w
    have h := below_any ((P / 18446744073709551616 : Nat) : Int) ((P % 18446744073709551616 : Nat) : Int) hi lo w
    rw [lowB_wide _ _ _ _ (Nat.mod_lt _ (by omega)) h1, Nat.mul_comm (P / 18446744073709551616), Nat.div_add_mod] at h
    exact h
  have HR : Hid (∀ w : World, Calls Try.prog 51 #[.agg #[.int .u64 hi, .int .u64 lo]] w fun e w' => (∃ R : Nat, e = .returned (.int .u64 (R : Int)) ∧ R * R ≤ hi * 18446744073709551616 + lo ∧ hi * 18446744073709551616 + lo < (R + 1) * (R + 1) ∧ R < 274877906944) ∧ Ext w w') := fun w => rootDown_any hi lo w h1 hN
  clear hN h1
  generalize hi * 18446744073709551616 + lo = N at *
  go_enter Try.func52, Try.ntmps52
  go_wp2_with fail
  refine (HR.out _).mono ?_
  rintro e w1 ⟨⟨R, rfl, r1, r2, r3⟩, x1⟩
  obtain ⟨c0, c1⟩ := x1.cells2
  have X0 : Hid (Ext w w1) := ((Ext.refl w).alloc _).trans x1
  have HT : Hid (∀ w : World, Calls Try.prog 53 #[.agg #[.int .u64 (R : Int), .int .u64 ((R + 1 : Nat) : Int)]] w fun e w' => e = .returned (.agg #[.int .u64 ((R * (R + 1) / 18446744073709551616 : Nat) : Int), .int .u64 ((R * (R + 1) % 18446744073709551616 : Nat) : Int)]) ∧ Ext w w') := fun w => times_any R (R + 1) (by omega) (by omega) w
  have eR : ((R + 1 : Nat) : Int) = (R : Int) + 1 := by omega
  rw [eR] at HT
  clear eR
  have hy : ∀ {u v : World}, Ext w1.drew u → Ext u v → Ext w1 v := fun h k => ((Ext.refl w1).drew.trans h).trans k
  clear x1 HR
  have HX := HB.out (R * (R + 1))
  by_cases hX : R * (R + 1) < N
  · have F1 : Hid (∃ X : Nat, (R : Int) + 1 = (X : Int) ∧ NearRoot N X ∧ X ≤ 274877906944) := ⟨R + 1, by omega, nearRoot_up r2 hX, by omega⟩
    have HX' : Hid (∀ w : World, Calls Try.prog 77 #[.agg #[.int .u64 ((R * (R + 1) / 18446744073709551616 : Nat) : Int), .int .u64 ((R * (R + 1) % 18446744073709551616 : Nat) : Int)], .agg #[.int .u64 hi, .int .u64 lo]] w fun e w' => e = .returned (.bool true) ∧ Ext w w') := by
      intro w
      have h := HX w
      rw [decide_eq_true hX] at h
      exact h
    have R3 : 0 ≤ (R : Int) ∧ (R : Int) < 274877906944 := by omega
    clear HX HB r1 r2 r3 hX
    generalize ((R * (R + 1) / 18446744073709551616 : Nat) : Int) = p at *
    generalize ((R * (R + 1) % 18446744073709551616 : Nat) : Int) = q at *
    generalize (R : Int) = r at *
    obtain ⟨R3a, R3b⟩ := R3
    obtain ⟨s, hs1, hs2⟩ : ∃ s : Int, IntKind.u64.wrap s = s ∧ r + 1 = s := ⟨r + 1, Num.wrapI _ (by omega) (by omega), rfl⟩
    rw [hs2] at HT F1
    go_wp2_with fail
    go_region_with (first | (go_at_call 53; refine (HT.out _).mono ?_; rintro e w2 ⟨rfl, x2⟩; have k0 := x2.keep c0; have k1 := x2.keep c1) | (go_at_call 77; refine (HX'.out _).mono ?_; rintro e w3 ⟨rfl, x3⟩))
    all_goals
      go_wp2_with fail
      go_ret
      obtain ⟨X, g1, g2, g3⟩ := F1.out
      exact ⟨⟨X, ret_u64 g1, g2, g3⟩, X0.out.trans (hy x2 x3)⟩
  · have F1 : Hid (∃ X : Nat, (R : Int) = (X : Int) ∧ NearRoot N X ∧ X ≤ 274877906944) := ⟨R, by omega, nearRoot_down r1 (by omega), by omega⟩
    have HX' : Hid (∀ w : World, Calls Try.prog 77 #[.agg #[.int .u64 ((R * (R + 1) / 18446744073709551616 : Nat) : Int), .int .u64 ((R * (R + 1) % 18446744073709551616 : Nat) : Int)], .agg #[.int .u64 hi, .int .u64 lo]] w fun e w' => e = .returned (.bool false) ∧ Ext w w') := by
      intro w
      have h := HX w
      rw [decide_eq_false hX] at h
      exact h
    have R3 : 0 ≤ (R : Int) ∧ (R : Int) < 274877906944 := by omega
    clear HX HB r1 r2 r3 hX
    generalize ((R * (R + 1) / 18446744073709551616 : Nat) : Int) = p at *
    generalize ((R * (R + 1) % 18446744073709551616 : Nat) : Int) = q at *
    generalize (R : Int) = r at *
    obtain ⟨R3a, R3b⟩ := R3
    obtain ⟨s, hs1, hs2⟩ : ∃ s : Int, IntKind.u64.wrap s = s ∧ r + 1 = s := ⟨r + 1, Num.wrapI _ (by omega) (by omega), rfl⟩
    rw [hs2] at HT
    go_wp2_with fail
    go_region_with (first | (go_at_call 53; refine (HT.out _).mono ?_; rintro e w2 ⟨rfl, x2⟩; have k0 := x2.keep c0; have k1 := x2.keep c1) | (go_at_call 77; refine (HX'.out _).mono ?_; rintro e w3 ⟨rfl, x3⟩))
    all_goals
      go_wp2_with fail
      go_ret
      obtain ⟨X, g1, g2, g3⟩ := F1.out
      exact ⟨⟨X, ret_u64 g1, g2, g3⟩, X0.out.trans (hy x2 x3)⟩

set_option maxHeartbeats 1000000 in
theorem root_yes (a : Int) (w : World) (h : okW a = true) (h0 : 0 ≤ a) :
    Calls Try.prog 28 #[.int .i64 a] w fun e w' => (∃ X : Nat, e = .returned (.tuple #[.int .i64 (X : Int), .int .i64 0]) ∧ NearRoot (a.toNat * 1073741824) X ∧ (X : Int) ≤ 274877906944) ∧ Ext w w' := by
  have hb := okW_bounds h
  have hc : chk a = 0 := by unfold chk; rw [if_pos h]
  obtain ⟨n, rfl⟩ := Int.eq_ofNat_of_zero_le h0
  rw [Int.toNat_natCast]
  have HT : Hid (∀ w : World, Calls Try.prog 53 #[.agg #[.int .u64 (n : Int), .int .u64 ((1073741824 : Nat) : Int)]] w fun e w' => e = .returned (.agg #[.int .u64 ((n * 1073741824 / 18446744073709551616 : Nat) : Int), .int .u64 ((n * 1073741824 % 18446744073709551616 : Nat) : Int)]) ∧ Ext w w') := fun w => times_any n 1073741824 (by omega) (by omega) w
  have HR : Hid (∀ w : World, Calls Try.prog 52 #[.agg #[.int .u64 ((n * 1073741824 / 18446744073709551616 : Nat) : Int), .int .u64 ((n * 1073741824 % 18446744073709551616 : Nat) : Int)]] w fun e w' => (∃ X : Nat, e = .returned (.int .u64 (X : Int)) ∧ NearRoot (n * 1073741824) X ∧ X ≤ 274877906944) ∧ Ext w w') := by
    intro w
    have h := rootNearest_any (n * 1073741824 / 18446744073709551616) (n * 1073741824 % 18446744073709551616) w (Nat.mod_lt _ (by omega)) (by rw [Nat.mul_comm (n * 1073741824 / 18446744073709551616), Nat.div_add_mod]; omega)
    rw [Nat.mul_comm (n * 1073741824 / 18446744073709551616), Nat.div_add_mod] at h
    exact h
  generalize ((n * 1073741824 / 18446744073709551616 : Nat) : Int) = p at *
  generalize ((n * 1073741824 % 18446744073709551616 : Nat) : Int) = q at *
  generalize (n : Int) = a at *
  go_enter Try.func28, Try.ntmps28
  go_wp2_with (go_at_call 22; refine (check_any _ _).mono ?_; rintro e wx ⟨rfl, hwx⟩; have hwy := hwx.symm; clear hwx; subst hwy)
  refine (HT.out _).mono ?_
  rintro e w1 ⟨rfl, x1⟩
  go_wp2_with fail
  refine (HR.out _).mono ?_
  rintro e w2 ⟨⟨X, rfl, r1, r2⟩, x2⟩
  have F1 : Hid (∃ Y : Nat, (X : Int) = (Y : Int) ∧ NearRoot (n * 1073741824) Y ∧ (Y : Int) ≤ 274877906944) := ⟨X, rfl, r1, by omega⟩
  have R3 : 0 ≤ (X : Int) ∧ (X : Int) ≤ 274877906944 := by omega
  clear r1 r2
  generalize (X : Int) = r at *
  obtain ⟨R3a, R3b⟩ := R3
  go_wp2_with fail
  go_ret2
  obtain ⟨Y, rfl, g2, g3⟩ := F1.out
  exact ⟨⟨Y, rfl, g2, g3⟩, x1.trans x2⟩

set_option maxHeartbeats 400000 in
theorem root_no (a : Int) (w : World) (h : (okW a && decide (0 ≤ a)) = false) :
    Calls Try.prog 28 #[.int .i64 a] w fun e w' => e = .returned (.tuple #[.int .i64 0, .int .i64 1]) ∧ Ext w w' := by
  cases ha : okW a
  · have hc : chk a = 1 := by unfold chk; rw [ha]; rfl
    clear h ha
    go_enter Try.func28, Try.ntmps28
    go_wp2_with (go_at_call 22; refine (check_any _ _).mono ?_; rintro e wx ⟨rfl, hwx⟩; have hwy := hwx.symm; clear hwx; subst hwy)
    go_ret2
    exact ⟨rfl, Ext.refl _⟩
  · have hc : chk a = 0 := by unfold chk; rw [if_pos ha]
    have h0 : a < 0 := by rw [ha] at h; simpa using h
    clear h ha
    go_enter Try.func28, Try.ntmps28
    go_wp2_with (go_at_call 22; refine (check_any _ _).mono ?_; rintro e wx ⟨rfl, hwx⟩; have hwy := hwx.symm; clear hwx; subst hwy)
    go_ret2
    exact ⟨rfl, Ext.refl _⟩
end Go.Proofs.Ytfcmacbhadpldaa
