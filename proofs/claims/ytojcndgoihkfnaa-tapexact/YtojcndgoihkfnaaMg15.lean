/- Plain numbers: the greatest number that is within, bit by bit. wide: greatest, nearer. -/
import Derived.Test.YtojcndgoihkfnaaMg0
import Derived.Test.YtojcndgoihkfnaaW3m
namespace Go.Proofs.Ytojcndgoihkfnaa.Num
open Go.RowKit

def GRel (P : Nat → Prop) (r b : Int) : Prop := ∃ R : Nat, r = R ∧ P R ∧
  ((b = 0 ∧ ¬ P (R + 1) ∧ R < 70368744177664) ∨ ∃ j : Nat, j ≤ 45 ∧ b = ((2 ^ j : Nat) : Int) ∧ (∃ m, R = m * 2 ^ (j + 1)) ∧ ¬ P (R + 2 ^ (j + 1)) ∧ R + 2 ^ (j + 1) ≤ 70368744177664)

theorem gr_start (P : Nat → Prop) (h0 : P 0) (h1 : ¬ P 70368744177664) : GRel P 0 35184372088832 := by
  refine ⟨0, rfl, h0, .inr ⟨45, by omega, by decide, ⟨0, by omega⟩, ?_, by decide⟩⟩
  have : 0 + 2 ^ (45 + 1) = 70368744177664 := by decide
  rw [this]; exact h1

theorem gr_round (P : Nat → Prop) (r b : Int) (h : GRel P r b) : (b = 0 ∧ ∃ R : Nat, r = R ∧ P R ∧ ¬ P (R + 1) ∧ R < 70368744177664) ∨
    (0 < b ∧ b ≤ 35184372088832 ∧ 0 ≤ r ∧ r < 70368744177664 ∧ ∃ X : Nat, bits BinOp.or IntKind.u64 r b = (X : Int) ∧ X < 70368744177664 ∧
      (P X → GRel P X (b / 2)) ∧ (¬ P X → GRel P r (b / 2))) := by
  obtain ⟨R, rfl, h1, h2⟩ := h
  rcases h2 with ⟨hb, h3, h4⟩ | ⟨j, hj, rfl, ⟨m, hm⟩, h3, h4⟩
  · exact .inl ⟨hb, R, rfl, h1, h3, h4⟩
  · right
    have hp : 0 < 2 ^ j := Nat.pow_pos (by omega)
    have hps : 2 ^ (j + 1) = 2 * 2 ^ j := by rw [Nat.pow_succ]; omega
    have hp45 : 2 ^ j ≤ 35184372088832 := by
      have := Nat.pow_le_pow_right (n := 2) (by omega) hj
      simpa using this
    have hor : bits BinOp.or IntKind.u64 (R : Int) ((2 ^ j : Nat) : Int) = ((R + 2 ^ j : Nat) : Int) := by
      have := or_shift m (2 ^ j) (j + 1) (by omega) (by omega) (by rw [← hm]; omega)
      rw [← hm] at this
      exact this
    refine ⟨by omega, by omega, by omega, by omega, R + 2 ^ j, hor, by omega, fun hx => ?_, fun hx => ?_⟩
    · refine ⟨R + 2 ^ j, rfl, hx, ?_⟩
      cases j with
      | zero => left; refine ⟨by simp, ?_, by omega⟩; simpa [Nat.add_assoc] using h3
      | succ j =>
        right
        refine ⟨j, by omega, ?_, ⟨2 * m + 1, ?_⟩, ?_, by omega⟩
        · rw [Nat.pow_succ]; omega
        · rw [hm, hps, Nat.add_mul, Nat.one_mul, Nat.mul_assoc, Nat.mul_left_comm]
        · have : R + 2 ^ (j + 1) + 2 ^ (j + 1) = R + 2 ^ (j + 1 + 1) := by omega
          rw [this]; exact h3
    · refine ⟨R, rfl, h1, ?_⟩
      cases j with
      | zero => left; refine ⟨by simp, ?_, by omega⟩; simpa using hx
      | succ j =>
        right
        refine ⟨j, by omega, ?_, ⟨m * 2, ?_⟩, hx, by omega⟩
        · rw [Nat.pow_succ]; omega
        · rw [hm, hps, Nat.mul_assoc]
end Go.Proofs.Ytojcndgoihkfnaa.Num

namespace Go.Proofs.Ytojcndgoihkfnaa
open Go.RowKit Go.Shelf

theorem inW_of {z : Int} (h : z.natAbs < 3138550867693340381917894711603833208051177722232017256448) : InW z := by unfold InW; omega
theorem isW_small (k : Int) (h0 : 0 ≤ k) (h1 : k < 18446744073709551616) : IsW (.agg #[.int .u64 k, .int .u64 0, .int .u64 0]) k := isW_of (by rw [l0_cast]; omega) (by rw [l1_cast]; omega) (by rw [l2_cast]; omega)

set_option maxRecDepth 20000 in
set_option maxHeartbeats 4000000 in
theorem greatestR_any (P : Nat → Prop) [DecidablePred P] (g h : Nat) (w : World) (h0 : P 0) (h1 : ¬ P 70368744177664)
    (H : Hid (∀ (X : Nat) w', X < 70368744177664 → Ext w w' → Calls Try.prog 79 #[.int .u64 (X : Int), .pointer (some ⟨g, 0, none⟩), .pointer (some ⟨h, 0, none⟩)] w' fun e w'' => e = .returned (.bool (decide (P X))) ∧ Ext w' w'')) :
    Calls Try.prog 78 #[.func (.func 79) #[] #[.pointer (some ⟨g, 0, none⟩), .pointer (some ⟨h, 0, none⟩)]] w fun e w' => (∃ R : Nat, e = .returned (.int .u64 (R : Int)) ∧ P R ∧ ¬ P (R + 1) ∧ R < 70368744177664) ∧ Ext w w' := by
  have st := Num.gr_start P h0 h1
  clear h0 h1
  go_enter Try.func78, Try.ntmps78
  go_wp2_with fail
  go_loopw [3, 4] (fun r b wr => ∃ R B : Int, r = .int .u64 R ∧ b = .int .u64 B ∧ Num.GRel P R B ∧ Ext w wr) (fun _ b _ => (intOf b).toNat)
  case atStart => exact ⟨0, 35184372088832, rfl, rfl, st, Ext.refl _⟩
  case round =>
    obtain ⟨R, B, rfl, rfl, hR, hx⟩ := hrel
    clear st
    rcases Num.gr_round P R B hR with ⟨rfl, Rn, rfl, g1, g2, g3⟩ | ⟨g1, g2, g3, g4, X, g5, g6, g7, g8⟩
    · go_wp2_with fail
      go_ret
      exact ⟨⟨Rn, rfl, g1, g2, g3⟩, hx⟩
    · have HX : Hid _ := fun w' hw => H.out X w' g6 hw
      by_cases hX : P X
      · have hn : Num.GRel P X (B / 2) := g7 hX
        have hd : decide (P X) = true := decide_eq_true hX
        clear g6 g7 g8 hX hR
        go_wp2_with fail
        refine (HX.out _ hx).mono ?_
        rintro e w1 ⟨rfl, x1⟩
        rw [hd]
        have X1 := hx.trans x1
        clear x1 hx
        go_wp2_with fail
        go_roundw
        case rel => exact ⟨X, B / 2, by go_num, by go_num, hn, X1⟩
        case measure => simp [intOf]; omega
      · have hn : Num.GRel P R (B / 2) := g8 hX
        have hd : decide (P X) = false := decide_eq_false hX
        clear g6 g7 g8 hX hR
        go_wp2_with fail
        refine (HX.out _ hx).mono ?_
        rintro e w1 ⟨rfl, x1⟩
        rw [hd]
        have X1 := hx.trans x1
        clear x1 hx
        go_wp2_with fail
        go_roundw
        case rel => exact ⟨R, B / 2, by go_num, by go_num, hn, X1⟩
        case measure => simp [intOf]; omega

def upw (k s : Int) : Int := if 0 < s ∨ s = 0 ∧ k % 2 = 1 then k + 1 else k
set_option maxHeartbeats 4000000 in
theorem nearer_any (k s : Int) (w : World) (h0 : 0 ≤ k) (h1 : k < 70368744177664) :
    Calls Try.prog 83 #[.int .u64 k, .int .i64 s] w fun e w' => (∃ r, e = .returned r ∧ IsW r (upw k s)) ∧ Ext w w' := by
  have hw : 0 ≤ upw k s ∧ upw k s ≤ 70368744177664 := by unfold upw; split <;> omega
  have HR : Hid (IsW (.agg #[.int .u64 (upw k s), .int .u64 0, .int .u64 0]) (upw k s)) := isW_small _ (by omega) (by omega)
  clear hw
  by_cases c1 : 0 < s
  · rw [show upw k s = k + 1 from if_pos (Or.inl c1)] at *
    go_enter Try.func83, Try.ntmps83
    go_wp2_with fail
    exact bodyPost_ret (v := .agg #[.int .u64 (k + 1), .int .u64 0, .int .u64 0]) (by simp [results, Try.results83, go_sem]) rfl ⟨⟨_, rfl, HR.out⟩, by repeat (first | with_reducible assumption | with_reducible exact Ext.refl _ | with_reducible refine Ext.drew ?_ | with_reducible refine Ext.drewN ?_ _ | with_reducible refine Ext.alloc ?_ _ | with_reducible refine Ext.set ?_ (by first | exact Nat.le_refl _ | (dsimp only; omega) | (simp; done)) _)⟩
  · by_cases c2 : s = 0
    · by_cases c3 : k % 2 = 1
      · rw [show upw k s = k + 1 from if_pos (Or.inr ⟨c2, c3⟩)] at *
        subst c2
        go_enter Try.func83, Try.ntmps83
        go_wp2_with fail
        exact bodyPost_ret (v := .agg #[.int .u64 (k + 1), .int .u64 0, .int .u64 0]) (by simp [results, Try.results83, go_sem]) rfl ⟨⟨_, rfl, HR.out⟩, by repeat (first | with_reducible assumption | with_reducible exact Ext.refl _ | with_reducible refine Ext.drew ?_ | with_reducible refine Ext.drewN ?_ _ | with_reducible refine Ext.alloc ?_ _ | with_reducible refine Ext.set ?_ (by first | exact Nat.le_refl _ | (dsimp only; omega) | (simp; done)) _)⟩
      · rw [show upw k s = k from if_neg (by omega)] at *
        have h4 : (k % 2 == 1) = false := by rw [beq_eq_false_iff_ne]; exact c3
        subst c2
        go_enter Try.func83, Try.ntmps83
        go_wp2_with fail
        exact bodyPost_ret (v := .agg #[.int .u64 k, .int .u64 0, .int .u64 0]) (by simp [results, Try.results83, go_sem]) rfl ⟨⟨_, rfl, HR.out⟩, by repeat (first | with_reducible assumption | with_reducible exact Ext.refl _ | with_reducible refine Ext.drew ?_ | with_reducible refine Ext.drewN ?_ _ | with_reducible refine Ext.alloc ?_ _ | with_reducible refine Ext.set ?_ (by first | exact Nat.le_refl _ | (dsimp only; omega) | (simp; done)) _)⟩
    · rw [show upw k s = k from if_neg (by omega)] at *
      have h4 : (s == 0) = false := by rw [beq_eq_false_iff_ne]; exact c2
      go_enter Try.func83, Try.ntmps83
      go_wp2_with fail
      exact bodyPost_ret (v := .agg #[.int .u64 k, .int .u64 0, .int .u64 0]) (by simp [results, Try.results83, go_sem]) rfl ⟨⟨_, rfl, HR.out⟩, by repeat (first | with_reducible assumption | with_reducible exact Ext.refl _ | with_reducible refine Ext.drew ?_ | with_reducible refine Ext.drewN ?_ _ | with_reducible refine Ext.alloc ?_ _ | with_reducible refine Ext.set ?_ (by first | exact Nat.le_refl _ | (dsimp only; omega) | (simp; done)) _)⟩
end Go.Proofs.Ytojcndgoihkfnaa
