/- wide: Sign, Word, down, Nearest. -/
import Derived.Test.YtojcndgoihkfnaaW2m
import Derived.Test.YtojcndgoihkfnaaLeafm
namespace Go.Proofs.Ytojcndgoihkfnaa
open Go.RowKit Go.Shelf
theorem eqarr3 {P : Program} (t e : TypeId) (k k' : IntKind) (h : P.underlying t = some (.array 3 e)) (he : P.underlying e = some (.int k')) (hs : ∀ w, (Go.sizeOf e).run P w = .ok 1 w) (ha : ∀ w, (isAgg e).run P w = .ok false w) (x y z a b c : Int) (w : World) :
    (Op.equalIn 10000 t (.agg #[.int k x, .int k y, .int k z]) (.agg #[.int k a, .int k b, .int k c])).run P w = .ok (x == a && (y == b && z == c)) w := by
  have hi : ∀ (u v : Int) (w : World), (Op.equalIn 9999 e (.int k u) (.int k v)).run P w = .ok (u == v) w := fun u v w => run_equalIn_int (P := P) w 9998 e k k' u v he
  show (Op.equalIn (9999 + 1) t _ _).run P w = _
  rw [Op.equalIn]
  by_cases hx : x = a <;> by_cases hy : y = b <;> by_cases hz : z = c <;> simp [run_underlying h, hs, List.range', go_sem, ha, hi, hx, hy, hz]
theorem eqw (x y z a b c : Int) (w : World) : (Op.equalIn 10000 103 (.agg #[.int .u64 x, .int .u64 y, .int .u64 z]) (.agg #[.int .u64 a, .int .u64 b, .int .u64 c])).run Try.prog w = .ok (x == a && (y == b && z == c)) w :=
  eqarr3 103 59 .u64 .u64 (by kernel_rfl) Try.underlying59 Try.sizeOf59 Try.isAgg59 x y z a b c w

set_option maxHeartbeats 1000000 in
theorem sign_zero (w : World) :
    Calls Try.prog 82 #[.agg #[.int .u64 0, .int .u64 0, .int .u64 0]] w fun e w' => e = .returned (.int .i64 0) ∧ Ext w w' := by
  have he := eqw 0 0 0 0 0 0
  go_enter Try.func82, Try.ntmps82
  go_wp2_with fail
  go_ret
  exact ⟨rfl, by repeat (first | with_reducible assumption | with_reducible exact Ext.refl _ | with_reducible refine Ext.alloc ?_ _)⟩
set_option maxHeartbeats 1000000 in
theorem sign_neg_raw (x y t : Int) (w : World) (hn : (x == 0 && (y == 0 && t == 0)) = false) (ht : (t / 9223372036854775808 == 1) = true) :
    Calls Try.prog 82 #[.agg #[.int .u64 x, .int .u64 y, .int .u64 t]] w fun e w' => e = .returned (.int .i64 (-1)) ∧ Ext w w' := by
  have he := eqw x y t 0 0 0
  rw [hn] at he
  clear hn
  go_enter Try.func82, Try.ntmps82
  go_wp2_with fail
  go_ret
  exact ⟨rfl, by repeat (first | with_reducible assumption | with_reducible exact Ext.refl _ | with_reducible refine Ext.alloc ?_ _)⟩
set_option maxHeartbeats 1000000 in
theorem sign_pos_raw (x y t : Int) (w : World) (hn : (x == 0 && (y == 0 && t == 0)) = false) (ht : (t / 9223372036854775808 == 1) = false) :
    Calls Try.prog 82 #[.agg #[.int .u64 x, .int .u64 y, .int .u64 t]] w fun e w' => e = .returned (.int .i64 1) ∧ Ext w w' := by
  have he := eqw x y t 0 0 0
  rw [hn] at he
  clear hn
  go_enter Try.func82, Try.ntmps82
  go_wp2_with fail
  go_ret
  exact ⟨rfl, by repeat (first | with_reducible assumption | with_reducible exact Ext.refl _ | with_reducible refine Ext.alloc ?_ _)⟩

/-- the sign of a number -/
def sgnw (z : Int) : Int := if z = 0 then 0 else if z < 0 then -1 else 1
theorem signw_any (z : Int) (u : Value) (w : World) (hu : IsW u z) (hz : InW z) :
    Calls Try.prog 82 #[u] w fun e w' => e = .returned (.int .i64 (sgnw z)) ∧ Ext w w' := by
  obtain ⟨x0, x1, x2, rfl, e0, e1, e2⟩ := hu
  have hi := zero_iff hz
  have hn := sign_neg hz
  have hb := l2_lt z
  by_cases h : z = 0
  · subst h
    have := zero_limbs
    have h0 : x0 = 0 := by omega
    have h1 : x1 = 0 := by omega
    have h2 : x2 = 0 := by omega
    subst h0 h1 h2
    exact sign_zero w
  · have hne : (x0 == 0 && (x1 == 0 && x2 == 0)) = false := by
      rw [Bool.eq_false_iff]
      intro hh
      simp only [Bool.and_eq_true, beq_iff_eq] at hh
      exact h (hi.1 ⟨by omega, by omega, by omega⟩)
    by_cases hneg : z < 0
    · have e : sgnw z = -1 := by unfold sgnw; rw [if_neg h, if_pos hneg]
      rw [e]
      have := hn.2 hneg
      exact sign_neg_raw x0 x1 x2 w hne (by rw [beq_iff_eq]; omega)
    · have e : sgnw z = 1 := by unfold sgnw; rw [if_neg h, if_neg hneg]
      rw [e]
      have : ¬ 9223372036854775808 ≤ l2 z := fun hh => hneg (hn.1 hh)
      exact sign_pos_raw x0 x1 x2 w hne (by rw [beq_eq_false_iff_ne]; omega)

theorem bits_or_comm (a b : Int) : bits BinOp.or IntKind.u64 a b = bits BinOp.or IntKind.u64 b a := by
  simp [bits, Nat.or_comm]
theorem or_limbs (x y : Nat) (hx : x < 18446744073709551616) :
    bits BinOp.or IntKind.u64 ((x : Int) / 1073741824) (IntKind.u64.wrap ((y : Int) * 17179869184)) = ((x / 1073741824 + y * 17179869184 % 18446744073709551616 : Nat) : Int) := by
  have e1 : IntKind.u64.wrap ((y : Int) * 17179869184) = ((y % 1073741824 * 2 ^ 34 : Nat) : Int) := by
    rw [IntKind.wrap_u64, show (2 : Nat) ^ 34 = 17179869184 by decide]; omega
  have e2 : (x : Int) / 1073741824 = ((x / 1073741824 : Nat) : Int) := by omega
  have h34 : (2 : Nat) ^ 34 = 17179869184 := by decide
  rw [bits_or_comm, e1, e2, Num.or_shift (y % 1073741824) (x / 1073741824) 34 (by omega) (by rw [h34]; omega) (by rw [h34]; omega), h34]
  omega
/-- what is added ahead of rounding down -/
def oddQ (z : Int) : Int := z / 1073741824 % 2
theorem odd_limb (z : Int) : bits BinOp.and IntKind.u64 ((l0 z : Int) / 1073741824) 1 = oddQ z := by
  have h := l0_lt z
  have e : (l0 z : Int) / 1073741824 = ((l0 z / 1073741824 : Nat) : Int) := by omega
  have c := l0_cast z
  rw [e, show (1 : Int) = ((1 : Nat) : Int) by rfl, bits_and_u64_nat _ _ (by omega) (by omega), Nat.and_one_is_mod]
  unfold oddQ
  omega
/-- z / 2^30, rounded to the nearest, halves to even -/
def nearQ (z : Int) : Int := (z + (536870911 + oddQ z)) / 1073741824
end Go.Proofs.Ytojcndgoihkfnaa
