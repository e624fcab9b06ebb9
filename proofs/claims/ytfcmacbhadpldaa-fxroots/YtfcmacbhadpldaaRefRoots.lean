/- The reference of layer 1: Sqrt, Root. -/
import Derived.Test.YtfcmacbhadpldaaRootNear
namespace Go.Proofs.Ytfcmacbhadpldaa
open Go.RowKit

theorem fit_45 (a : Nat) (h : (a : Int) < 35184372088832) : Fit 45 (a : Int) := by
  unfold Fit
  have e : (2 : Nat) ^ 45 = 35184372088832 := by decide
  rw [Int.natAbs_natCast, e]
  omega

set_option maxHeartbeats 1000000 in
theorem refsqrt_any (a : Nat) (w : World) (h : (a : Int) < 35184372088832) :
    Calls Try.prog 25 #[.int .i64 (a : Int)] w fun e w' => (∃ s : Nat, e = .returned (.int .i64 (s : Int)) ∧ s * s ≤ a ∧ a < (s + 1) * (s + 1)) ∧ Ext w w' := by
  have f := fit_45 a h
  have HA : Hid (∀ w', Calls Try.prog 32 #[.int .i64 (a : Int)] w' fun e w'' => (∃ r, e = .returned r ∧ IsI w'' r (a : Int)) ∧ Ext w' w'') := fun w' => from_any (a : Int) w' (by omega) (by omega)
  have HR : Hid (∀ r w', IsI w' r (a : Int) → Calls Try.prog 48 #[r, .int .i64 2] w' fun e w'' => (∃ (r' : Value) (s : Nat), e = .returned r' ∧ IsI w'' r' (s : Int) ∧ s * s ≤ a ∧ a < (s + 1) * (s + 1)) ∧ Ext w' w'') := fun r w' hr => root2_isI a 45 r w' hr (by omega) f
  have HS : Hid (∀ (s : Nat) r w', s * s ≤ a → IsI w' r (s : Int) → Calls Try.prog 47 #[r] w' fun e w'' => e = .returned (.tuple #[.int .i64 (s : Int), .bool true]) ∧ Ext w' w'') := fun s r w' hs hr => by
    have hle : s ≤ a := by
      rcases Nat.eq_zero_or_pos s with h0 | h0
      · omega
      · exact Nat.le_trans (Nat.le_mul_of_pos_left s h0) hs
    have k := small_any (s : Int) r w' hr ((f.of_le (by rw [Int.natAbs_natCast, Int.natAbs_natCast]; exact hle)).small (by omega))
    have e : smallR (s : Int) = ((s : Int), true) := by unfold smallR; rw [if_pos (by omega)]
    rw [e] at k
    exact k
  obtain ⟨A, gA⟩ : ∃ A : Int, (a : Int) = A := ⟨_, rfl⟩
  have HR' : Hid (∀ r w', IsI w' r A → Calls Try.prog 48 #[r, .int .i64 2] w' fun e w'' => (∃ (r' : Value) (s : Nat), e = .returned r' ∧ IsI w'' r' (s : Int) ∧ s * s ≤ a ∧ a < (s + 1) * (s + 1)) ∧ Ext w' w'') := by rw [← gA]; exact HR
  rw [gA] at HA ⊢
  clear f h gA HR
  go_enter Try.func25, Try.ntmps25
  go_wp2_with fail
  refine (HA.out _).mono ?_
  rintro e w1 ⟨⟨r1, rfl, hr1⟩, x1⟩
  go_wp2_with fail
  refine (HR'.out _ _ hr1).mono ?_
  rintro e w2 ⟨⟨r2, s, rfl, hr2, hs1, hs2⟩, x2⟩
  have HB : Hid (s * s ≤ a ∧ a < (s + 1) * (s + 1)) := ⟨hs1, hs2⟩
  clear hs1 hs2
  go_wp2_with fail
  refine (HS.out s _ _ HB.out.1 hr2).mono ?_
  rintro e w3 ⟨rfl, x3⟩
  go_wp2_with fail
  go_ret
  exact ⟨⟨s, rfl, HB.out⟩, (x1.trans x2).trans x3⟩

set_option maxHeartbeats 1000000 in
theorem refroot_any (a : Nat) (w : World) (h : (a : Int) < 35184372088832) :
    Calls Try.prog 26 #[.int .i64 (a : Int)] w fun e w' => (∃ s : Nat, e = .returned (.tuple #[.int .i64 (s : Int), .int .i64 0]) ∧ NearRoot (a * 1073741824) s) ∧ Ext w w' := by
  have f := fit_45 a h
  have e30 : (a : Int) * 2 ^ 30 = ((a * 1073741824 : Nat) : Int) := by
    have : (2 : Int) ^ 30 = 1073741824 := by decide
    rw [this, Int.natCast_mul]; rfl
  have f2 : Fit 75 ((a * 1073741824 : Nat) : Int) := by rw [← e30]; exact f.shl 30
  have HA : Hid (∀ w', Calls Try.prog 32 #[.int .i64 (a : Int)] w' fun e w'' => (∃ r, e = .returned r ∧ IsI w'' r (a : Int)) ∧ Ext w' w'') := fun w' => from_any (a : Int) w' (by omega) (by omega)
  have HL : Hid (∀ r w', IsI w' r (a : Int) → Calls Try.prog 34 #[r, .int .i64 30] w' fun e w'' => (∃ r', e = .returned r' ∧ IsI w'' r' ((a * 1073741824 : Nat) : Int)) ∧ Ext w' w'') := fun r w' hr => by
    have k := left_isI (a : Int) 30 r w' hr (f.small (by omega)) (by omega) ((f.shl 30).small (by omega))
    rw [e30] at k
    exact k
  have HQ : Hid (∀ r w', IsI w' r ((a * 1073741824 : Nat) : Int) → Calls Try.prog 50 #[r] w' fun e w'' => (∃ q, e = .returned q ∧ IsQ w'' q ((a * 1073741824 : Nat) : Int) 1) ∧ Ext w' w'') := fun r w' hr => qfrom_any _ r w' hr
  have HR : Hid (∀ q w', IsQ w' q ((a * 1073741824 : Nat) : Int) 1 → Calls Try.prog 49 #[q] w' fun e w'' => (∃ (r : Value) (s : Nat), e = .returned r ∧ IsI w'' r (s : Int) ∧ NearRoot (a * 1073741824) s) ∧ Ext w' w'') := fun q w' hq => rootnear_any _ 75 q w' hq (by omega) (by omega) f2
  have HS : Hid (∀ (s : Nat) r w', NearRoot (a * 1073741824) s → IsI w' r (s : Int) → Calls Try.prog 44 #[r] w' fun e w'' => e = .returned (.tuple #[.int .i64 (s : Int), .int .i64 0]) ∧ Ext w' w'') := fun s r w' hs hr => by
    have hb : s < 35184372088832 := by
      apply Nat.lt_of_not_le
      intro hge
      rcases hs.2 with h2 | h2
      · omega
      · have : (2 * 35184372088832 - 1) * (2 * 35184372088832 - 1) ≤ (2 * s - 1) * (2 * s - 1) := Nat.mul_le_mul (by omega) (by omega)
        omega
    have k := word_any (s : Int) r w' hr ((fit_45 s (by omega)).small (by omega))
    have e : wordR (s : Int) = ((s : Int), 0) := by unfold wordR; rw [if_pos (by unfold okW; simp; omega)]
    rw [e] at k
    exact k
  clear f f2 e30 h
  generalize ((a * 1073741824 : Nat) : Int) = A30 at *
  generalize a * 1073741824 = N30 at *
  generalize (a : Int) = A at *
  go_enter Try.func26, Try.ntmps26
  go_wp2_with fail
  refine (HA.out _).mono ?_
  rintro e w1 ⟨⟨r1, rfl, hr1⟩, x1⟩
  go_wp2_with fail
  refine (HL.out _ _ hr1).mono ?_
  rintro e w2 ⟨⟨r2, rfl, hr2⟩, x2⟩
  go_wp2_with fail
  refine (HQ.out _ _ hr2).mono ?_
  rintro e w3 ⟨⟨r3, rfl, hr3⟩, x3⟩
  go_wp2_with fail
  refine (HR.out _ _ hr3).mono ?_
  rintro e w4 ⟨⟨r4, s, rfl, hr4, hs⟩, x4⟩
  have HB : Hid (NearRoot N30 s) := hs
  clear hs
  go_wp2_with fail
  refine (HS.out s _ _ HB.out hr4).mono ?_
  rintro e w5 ⟨rfl, x5⟩
  go_wp2_with fail
  go_ret2
  exact ⟨⟨s, rfl, HB.out⟩, (((x1.trans x2).trans x3).trans x4).trans x5⟩
end Go.Proofs.Ytfcmacbhadpldaa
