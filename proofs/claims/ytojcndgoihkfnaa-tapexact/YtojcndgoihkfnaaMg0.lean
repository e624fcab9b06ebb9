/- Plain numbers: one step of a long division by a normalized divisor of two digits; rounding to the nearest, halves to even. Plain numbers: what bits.Div64 reckons with. What every walk needs, without a function of the program. What walks over variables of arrays and structs need. Plain numbers: a whole number as three limbs of 64 bits, in two's complement. -/
import Derived.WalkKit
import Derived.Lib.BitFns
import Derived.Laws.Bits64b
import Derived.Shelf.Bits.Mul64
import Derived.Test.YtojcndgoihkfnaaRows
import Derived.Deep.QuietTactic
import Derived.BigQuiet
import Derived.Deep.RegionWith
import Derived.WalkLawsBesides
import Derived.WalkSpells
import Derived.BigRegion
namespace Go.Proofs.Ytojcndgoihkfnaa.Num

/-- R(n / d): the nearest whole number, halves to even. -/
def near (n d : Nat) : Nat :=
  if n % d > d - n % d then n / d + 1
  else if n % d = d - n % d then (if n / d % 2 = 1 then n / d + 1 else n / d)
  else n / d

theorem mul_lt_of_div {a b n : Nat} (hb : 0 < b) : a ≤ n / b ↔ a * b ≤ n := Nat.le_div_iff_mul_le hb

/-- q is no lower than the quotient; the test says that it is too great: q - 1 is no lower either. -/
theorem step_test {u c y1 y0 q r B : Nat} (hY : u < y1 * B + y0) (hc : c < B) (hq : q * y1 + r = u) 
    (ht : B ≤ q ∨ B * r + c < q * y0) (hpos : 0 < y1 * B + y0) :
    (u * B + c) / (y1 * B + y0) + 1 ≤ q := by
  have h : u * B + c < q * (y1 * B + y0) := by
    rcases ht with ht | ht
    · have h1 : (u + 1) * B ≤ (y1 * B + y0) * B := Nat.mul_le_mul_right B hY
      have h2 : B * (y1 * B + y0) ≤ q * (y1 * B + y0) := Nat.mul_le_mul_right _ ht
      rw [Nat.add_mul, Nat.one_mul] at h1
      rw [Nat.mul_comm B] at h2
      omega
    · have h3 : q * (y1 * B + y0) = q * y1 * B + q * y0 := by rw [Nat.mul_add, Nat.mul_assoc]
      have h4 : u * B = q * y1 * B + r * B := by rw [← hq, Nat.add_mul]
      rw [Nat.mul_comm B r] at ht
      omega
  have := (Nat.div_lt_iff_lt_mul hpos).2 h
  omega

theorem step_ok {u c y1 y0 q r B : Nat} (hq : q * y1 + r = u) (ht : q * y0 ≤ B * r + c) (hpos : 0 < y1 * B + y0)
    (hup : (u * B + c) / (y1 * B + y0) ≤ q) : q = (u * B + c) / (y1 * B + y0) := by
  have h3 : q * (y1 * B + y0) = q * y1 * B + q * y0 := by rw [Nat.mul_add, Nat.mul_assoc]
  have h4 : u * B = q * y1 * B + r * B := by rw [← hq, Nat.add_mul]
  rw [Nat.mul_comm B r] at ht
  have : q ≤ (u * B + c) / (y1 * B + y0) := (Nat.le_div_iff_mul_le hpos).2 (by omega)
  omega

/-- the first guess -/
theorem first_up {u c y1 y0 B : Nat} (h1 : 0 < y1) (hB : 0 < B) : (u * B + c % B) / (y1 * B + y0) ≤ u / y1 := by
  have ha : (u * B + c % B) / (y1 * B + y0) ≤ (u * B + c % B) / (y1 * B) := by
    apply Nat.div_le_div_left (by omega)
    exact Nat.mul_pos h1 hB
  have hb : (u * B + c % B) / (y1 * B) = u / y1 := by
    rw [Nat.mul_comm y1 B, ← Nat.div_div_eq_div_mul, Nat.mul_comm u B, Nat.mul_add_div hB, Nat.div_eq_of_lt (Nat.mod_lt _ hB), Nat.add_zero]
  omega

theorem first_le {u y1 y0 B : Nat} (h1 : 0 < y1) (hY : u < y1 * B + y0) (h0 : y0 ≤ 2 * y1) : u / y1 ≤ B + 1 := by
  have : u / y1 < B + 2 := by
    rw [Nat.div_lt_iff_lt_mul h1, Nat.mul_comm]
    have : y1 * (B + 2) = y1 * B + 2 * y1 := by rw [Nat.mul_add]; omega
    omega
  omega

end Go.Proofs.Ytojcndgoihkfnaa.Num

namespace Go.Proofs.Ytojcndgoihkfnaa.Num
open Go.RowKit

theorem and_mask (a : Nat) (ha : a < 18446744073709551616) : bits .and .u64 (a : Int) 4294967295 = ((a % 4294967296 : Nat) : Int) := Mul64.maskN a ha

theorem or_shift (h l s : Nat) (hs : s ≤ 63) (hl : l < 2 ^ s) (hh : h * 2 ^ s < 18446744073709551616) :
    bits .or .u64 ((h * 2 ^ s : Nat) : Int) ((l : Nat) : Int) = ((h * 2 ^ s + l : Nat) : Int) := by
  have hl' : l < 18446744073709551616 := Nat.lt_of_lt_of_le hl (by have := Nat.pow_le_pow_right (n := 2) (by omega) (show s ≤ 64 by omega); simpa using this)
  rw [bits_or_u64_nat _ _ hh hl']
  have : h * 2 ^ s ||| l = h * 2 ^ s + l := by
    rw [Nat.mul_comm, ← Nat.two_pow_add_eq_or_of_lt hl]
  rw [this]

theorem bl_spec : ∀ (k x : Nat), x ≠ 0 → x < 2 ^ k → k ≤ 64 → ∃ m, Lib.bitLen x = m + 1 ∧ 2 ^ m ≤ x ∧ x < 2 ^ (m + 1) := by
  intro k
  induction k with
  | zero => intro x h0 h; simp at h; omega
  | succ k ih =>
    intro x h0 h hk
    have hx : x < 2 ^ 64 := Nat.lt_of_lt_of_le h (Nat.pow_le_pow_right (by omega) hk)
    rw [Lib.bitLen_half x h0 hx]
    by_cases h1 : x / 2 = 0
    · refine ⟨0, ?_, by simp; omega, by simp; omega⟩
      rw [h1]; rfl
    · obtain ⟨m, a, b, c⟩ := ih (x / 2) h1 (by rw [Nat.pow_succ] at h; omega) (by omega)
      refine ⟨m + 1, by omega, ?_, ?_⟩
      · rw [Nat.pow_succ]; omega
      · rw [Nat.pow_succ]; omega

theorem wrapNat (a : Nat) (ha : a < 18446744073709551616) : IntKind.u64.wrap (a : Int) = (a : Int) := by rw [IntKind.wrap_u64]; omega
theorem wrapMod (a : Nat) : IntKind.u64.wrap (a : Int) = ((a % 18446744073709551616 : Nat) : Int) := by rw [IntKind.wrap_u64]; omega

theorem cast_shl (a s : Nat) : (a : Int) * 2 ^ s = ((a * 2 ^ s : Nat) : Int) := by simp [Int.natCast_mul, Int.natCast_pow]
theorem cast_shr (a s : Nat) : (a : Int) / 2 ^ s = ((a / 2 ^ s : Nat) : Int) := by simp [Int.natCast_ediv, Int.natCast_pow]

/-- the shift: what Div64 makes of hi, lo, y -/
theorem setup (hi lo y : Nat) (hl : lo < 18446744073709551616) (hy : y < 18446744073709551616) (hlt : hi < y) :
    ∃ s Y u v : Nat, s ≤ 63 ∧ 64 - (Lib.bitLen (y : Int).toNat : Int) = s ∧ 9223372036854775808 ≤ Y ∧ Y < 18446744073709551616 ∧ Y = y * 2 ^ s ∧
      u < Y ∧ v < 18446744073709551616 ∧ u * 18446744073709551616 + v = (hi * 18446744073709551616 + lo) * 2 ^ s ∧
      IntKind.u64.wrap (↑y * 2 ^ s) = ↑Y ∧ bits BinOp.or IntKind.u64 (IntKind.u64.wrap (↑hi * 2 ^ s)) (↑lo / 2 ^ (64 - s)) = ↑u ∧ IntKind.u64.wrap (↑lo * 2 ^ s) = ↑v := by
  obtain ⟨m, h1, h2, h3⟩ := bl_spec 64 y (by omega) (by simpa using hy) (by omega)
  have hm : m ≤ 63 := by
    have := Lib.bitLen_le y 64 (by omega) (by simpa using hy)
    omega
  have ep : 2 ^ m * 2 ^ (63 - m) = 9223372036854775808 := by rw [← Nat.pow_add, show m + (63 - m) = 63 by omega]
  have e64 : 2 ^ (63 - m) * 2 ^ (m + 1) = 18446744073709551616 := by rw [← Nat.pow_add, show 63 - m + (m + 1) = 64 by omega]
  have hp : 0 < 2 ^ (63 - m) := Nat.pow_pos (by omega)
  have hYlo : 9223372036854775808 ≤ y * 2 ^ (63 - m) := by rw [← ep]; exact Nat.mul_le_mul_right _ h2
  have hYhi : y * 2 ^ (63 - m) < 18446744073709551616 := by rw [← e64, Nat.mul_comm]; exact (Nat.mul_lt_mul_left hp).2 h3
  have hsub : 64 - (63 - m) = m + 1 := by omega
  have hlow : lo / 2 ^ (m + 1) < 2 ^ (63 - m) := by
    rw [Nat.div_lt_iff_lt_mul (Nat.pow_pos (by omega)), e64]; exact hl
  have hhi1 : (hi + 1) * 2 ^ (63 - m) ≤ y * 2 ^ (63 - m) := Nat.mul_le_mul_right _ hlt
  rw [Nat.add_mul, Nat.one_mul] at hhi1
  refine ⟨63 - m, y * 2 ^ (63 - m), hi * 2 ^ (63 - m) + lo / 2 ^ (m + 1), lo * 2 ^ (63 - m) % 18446744073709551616, by omega, ?_, hYlo, hYhi, rfl, by omega, Nat.mod_lt _ (by omega), ?_, ?_, ?_, ?_⟩
  · rw [Int.toNat_natCast, h1]; omega
  · have e1 : lo * 2 ^ (63 - m) = (lo / 2 ^ (m + 1)) * 18446744073709551616 + lo * 2 ^ (63 - m) % 18446744073709551616 := by
      have e2 : lo * 2 ^ (63 - m) / 18446744073709551616 = lo / 2 ^ (m + 1) := by
        rw [← e64, Nat.mul_comm lo, Nat.mul_div_mul_left _ _ hp]
      have := Nat.div_add_mod (lo * 2 ^ (63 - m)) 18446744073709551616
      rw [e2] at this
      omega
    rw [Nat.add_mul, Nat.add_mul, Nat.mul_right_comm]
    omega
  · rw [cast_shl, wrapNat _ hYhi]
  · rw [cast_shl, wrapNat _ (by omega), hsub, cast_shr]
    exact or_shift _ _ _ (by omega) hlow (by omega)
  · rw [cast_shl, wrapMod]

/-- what the loop of a step needs: t is the true digit -/
def Steps (u c y1 y0 t : Int) : Prop := ∀ a b : Int, a * y1 + b = u → 0 ≤ b → t ≤ a →
  ((4294967296 ≤ a ∨ 4294967296 * b + c < a * y0) → t + 1 ≤ a) ∧ (a * y0 ≤ 4294967296 * b + c → a = t) ∧ (4294967296 ≤ b → a ≤ 4294967296 → a = t)

theorem steps_of (u c y1 y0 : Nat) (hY : u < y1 * 4294967296 + y0) (hc : c < 4294967296) (h0 : y0 < 4294967296) :
    Steps u c y1 y0 (((u * 4294967296 + c) / (y1 * 4294967296 + y0) : Nat) : Int) := by
  intro a b hab hb hta
  obtain ⟨A, rfl⟩ := Int.eq_ofNat_of_zero_le (Int.le_trans (Int.natCast_nonneg _) hta)
  obtain ⟨B, rfl⟩ := Int.eq_ofNat_of_zero_le hb
  have hq : A * y1 + B = u := by
    have : ((A * y1 + B : Nat) : Int) = u := by rw [Int.natCast_add, Int.natCast_mul]; exact hab
    omega
  have e0 : (A : Int) * y0 = ((A * y0 : Nat) : Int) := (Int.natCast_mul _ _).symm
  have hup : (u * 4294967296 + c) / (y1 * 4294967296 + y0) ≤ A := by omega
  refine ⟨fun ht => ?_, fun ht => ?_, fun ht ha => ?_⟩
  · have := step_test (B := 4294967296) hY hc hq (by rw [e0] at ht; rcases ht with ht | ht; left; omega; right; omega) (by omega)
    omega
  · rw [e0] at ht
    have := step_ok (B := 4294967296) hq (by omega) (by omega) hup
    omega
  · have h1 : A * y0 ≤ 4294967296 * y0 := Nat.mul_le_mul_right _ (by omega)
    have h2 : 4294967296 * y0 ≤ 4294967296 * B := Nat.mul_le_mul_left _ (by omega)
    have := step_ok (B := 4294967296) hq (by omega) (by omega) hup
    omega

theorem wrapI (a : Int) (h0 : 0 ≤ a) (h1 : a < 18446744073709551616) : IntKind.u64.wrap a = a := by rw [IntKind.wrap_u64]; omega
theorem wrap_add (a b : Int) : IntKind.u64.wrap (IntKind.u64.wrap a + b) = IntKind.u64.wrap (a + b) := by simp only [IntKind.wrap_u64]; omega
theorem wrap_sub (a b : Int) : IntKind.u64.wrap (IntKind.u64.wrap a - IntKind.u64.wrap b) = IntKind.u64.wrap (a - b) := by simp only [IntKind.wrap_u64]; omega

/-- the first guess of a step, and its rest, as they are reckoned -/
theorem guess (u y1 y0 : Nat) (h1 : 2147483648 ≤ y1) (h2 : y1 < 4294967296) (h0 : y0 < 4294967296) (hY : u < y1 * 4294967296 + y0) :
    ∃ q r : Int, (u : Int) / (y1 : Int) = q ∧ IntKind.u64.wrap ((u : Int) - IntKind.u64.wrap (q * y1)) = r ∧ q * y1 + r = u ∧ 0 ≤ r ∧ r < 4294967296 ∧ 0 ≤ q ∧ q ≤ 4294967297 ∧
      ∀ c : Nat, c < 4294967296 → (((u * 4294967296 + c) / (y1 * 4294967296 + y0) : Nat) : Int) ≤ q := by
  have hq := first_le (B := 4294967296) (show 0 < y1 by omega) hY (by omega)
  have hdm := Nat.div_add_mod u y1
  have hr := Nat.mod_lt u (show 0 < y1 by omega)
  have hu : u < 18446744073709551616 := by
    have : y1 * 4294967296 ≤ 4294967295 * 4294967296 := Nat.mul_le_mul_right _ (by omega)
    omega
  refine ⟨((u / y1 : Nat) : Int), ((u % y1 : Nat) : Int), ?_, ?_, ?_, Int.natCast_nonneg _, by omega, Int.natCast_nonneg _, by omega, ?_⟩
  · rw [← Int.natCast_ediv]
  · have e1 : ((u / y1 : Nat) : Int) * y1 = ((y1 * (u / y1) : Nat) : Int) := by rw [← Int.natCast_mul, Nat.mul_comm]
    rw [e1, wrapNat _ (by omega)]
    have : (u : Int) - ((y1 * (u / y1) : Nat) : Int) = ((u % y1 : Nat) : Int) := by omega
    rw [this, wrapNat _ (by omega)]
  · have e1 : ((u / y1 : Nat) : Int) * y1 = ((y1 * (u / y1) : Nat) : Int) := by rw [← Int.natCast_mul, Nat.mul_comm]
    rw [e1]; omega
  · intro c hc
    have := first_up (u := u) (c := c) (y1 := y1) (y0 := y0) (B := 4294967296) (by omega) (by omega)
    rw [Nat.mod_eq_of_lt hc] at this
    omega

/-- the rest behind a step -/
theorem rest_of (u c Y : Nat) (hY : 0 < Y) (hYb : Y < 18446744073709551616) :
    IntKind.u64.wrap (IntKind.u64.wrap (IntKind.u64.wrap ((u : Int) * 4294967296) + c) - IntKind.u64.wrap ((((u * 4294967296 + c) / Y : Nat) : Int) * Y)) = (((u * 4294967296 + c) % Y : Nat) : Int) := by
  rw [wrap_add, wrap_sub]
  have h := Nat.div_add_mod (u * 4294967296 + c) Y
  have hm := Nat.mod_lt (u * 4294967296 + c) hY
  have e1 : (((u * 4294967296 + c) / Y : Nat) : Int) * Y = ((Y * ((u * 4294967296 + c) / Y) : Nat) : Int) := by rw [← Int.natCast_mul, Nat.mul_comm]
  rw [e1, wrapI] <;> omega

theorem final0 (u v1 v0 A B m k : Nat) (d1 : A + m = u * 4294967296 + v1) (d2 : B + k = m * 4294967296 + v0) :
    u * 18446744073709551616 + (v1 * 4294967296 + v0) = A * 4294967296 + B + k := by omega

theorem final (hi lo y s Y u v1 v0 : Nat) (hy : y < 18446744073709551616) (hlt : hi < y) (hl : lo < 18446744073709551616) (hY : Y = y * 2 ^ s)
    (h : u * 18446744073709551616 + (v1 * 4294967296 + v0) = (hi * 18446744073709551616 + lo) * 2 ^ s) :
    (u * 4294967296 + v1) / Y * 4294967296 + ((u * 4294967296 + v1) % Y * 4294967296 + v0) / Y = (hi * 18446744073709551616 + lo) / y ∧
    ((u * 4294967296 + v1) % Y * 4294967296 + v0) % Y / 2 ^ s = (hi * 18446744073709551616 + lo) % y ∧ (hi * 18446744073709551616 + lo) / y < 18446744073709551616 := by
  have hp : 0 < 2 ^ s := Nat.pow_pos (by omega)
  have hYp : 0 < Y := by rw [hY]; exact Nat.mul_pos (by omega) hp
  have hb : (hi * 18446744073709551616 + lo) / y < 18446744073709551616 := by
    rw [Nat.div_lt_iff_lt_mul (by omega)]
    omega
  have d1 := Nat.div_add_mod (u * 4294967296 + v1) Y
  have m1 := Nat.mod_lt (u * 4294967296 + v1) hYp
  have d2 := Nat.div_add_mod ((u * 4294967296 + v1) % Y * 4294967296 + v0) Y
  have m2 := Nat.mod_lt ((u * 4294967296 + v1) % Y * 4294967296 + v0) hYp
  have hN : (hi * 18446744073709551616 + lo) * 2 ^ s = Y * ((u * 4294967296 + v1) / Y * 4294967296 + ((u * 4294967296 + v1) % Y * 4294967296 + v0) / Y) + ((u * 4294967296 + v1) % Y * 4294967296 + v0) % Y := by
    rw [← h, Nat.mul_add, ← Nat.mul_assoc]
    exact final0 _ _ _ _ _ _ _ d1 d2
  have q : (hi * 18446744073709551616 + lo) * 2 ^ s / Y = (hi * 18446744073709551616 + lo) / y := by rw [hY, Nat.mul_div_mul_right _ _ hp]
  have r : (hi * 18446744073709551616 + lo) * 2 ^ s % Y = (hi * 18446744073709551616 + lo) % y * 2 ^ s := by rw [hY, Nat.mul_mod_mul_right]
  rw [hN, Nat.mul_add_div hYp, Nat.div_eq_of_lt m2, Nat.add_zero] at q
  rw [hN, Nat.mul_add_mod, Nat.mod_eq_of_lt m2] at r
  refine ⟨q, ?_, hb⟩
  rw [r, Nat.mul_div_cancel _ hp]

/-- All that the walk of Div64 meets, under names. -/
theorem setupI (hi lo y : Nat) (hl : lo < 18446744073709551616) (hy : y < 18446744073709551616) (hlt : hi < y) :
    ∃ (s : Nat) (Y u v y1 y0 v1 v0 q r t u2 q' r' t' : Int), s ≤ 63 ∧ 64 - (Lib.bitLen (y : Int).toNat : Int) = s ∧
      (2147483648 ≤ y1 ∧ y1 < 4294967296 ∧ 0 ≤ y0 ∧ y0 < 4294967296 ∧ 0 ≤ v1 ∧ v1 < 4294967296 ∧ 0 ≤ v0 ∧ v0 < 4294967296 ∧ 0 ≤ u ∧ u < 18446744073709551616 ∧ 0 ≤ v ∧ v < 18446744073709551616 ∧ 9223372036854775808 ≤ Y ∧ Y < 18446744073709551616) ∧
      (IntKind.u64.wrap (↑y * 2 ^ s) = Y ∧ Y / 4294967296 = y1 ∧ bits BinOp.and IntKind.u64 Y 4294967295 = y0 ∧ bits BinOp.or IntKind.u64 (IntKind.u64.wrap (↑hi * 2 ^ s)) (↑lo / 2 ^ (64 - s)) = u ∧
        IntKind.u64.wrap (↑lo * 2 ^ s) = v ∧ v / 4294967296 = v1 ∧ bits BinOp.and IntKind.u64 v 4294967295 = v0) ∧
      (u / y1 = q ∧ IntKind.u64.wrap (u - IntKind.u64.wrap (q * y1)) = r ∧ q * y1 + r = u ∧ 0 ≤ r ∧ r < 4294967296 ∧ 0 ≤ q ∧ q ≤ 4294967297 ∧ 0 ≤ t ∧ t ≤ q ∧ Steps u v1 y1 y0 t) ∧
      (IntKind.u64.wrap (IntKind.u64.wrap (IntKind.u64.wrap (u * 4294967296) + v1) - IntKind.u64.wrap (t * Y)) = u2 ∧ 0 ≤ u2 ∧ u2 < 18446744073709551616) ∧
      (u2 / y1 = q' ∧ IntKind.u64.wrap (u2 - IntKind.u64.wrap (q' * y1)) = r' ∧ q' * y1 + r' = u2 ∧ 0 ≤ r' ∧ r' < 4294967296 ∧ 0 ≤ q' ∧ q' ≤ 4294967297 ∧ 0 ≤ t' ∧ t' ≤ q' ∧ Steps u2 v0 y1 y0 t') ∧
      t * 4294967296 + t' = (((hi * 18446744073709551616 + lo) / y : Nat) : Int) ∧ (((hi * 18446744073709551616 + lo) / y : Nat) : Int) < 18446744073709551616 ∧
      IntKind.u64.wrap (IntKind.u64.wrap (IntKind.u64.wrap (u2 * 4294967296) + v0) - IntKind.u64.wrap (t' * Y)) / 2 ^ s = (((hi * 18446744073709551616 + lo) % y : Nat) : Int) := by
  obtain ⟨s, Y, u, v, h1, h2, h3, h4, h5, h6, h7, h8, g1, g2, g3⟩ := setup hi lo y hl hy hlt
  have eY : Y = Y / 4294967296 * 4294967296 + Y % 4294967296 := by omega
  have eV : v = v / 4294967296 * 4294967296 + v % 4294967296 := by omega
  have hY : u < Y / 4294967296 * 4294967296 + Y % 4294967296 := by omega
  have hY2 : (u * 4294967296 + v / 4294967296) % Y < Y / 4294967296 * 4294967296 + Y % 4294967296 := by
    have := Nat.mod_lt (u * 4294967296 + v / 4294967296) (show 0 < Y by omega)
    omega
  obtain ⟨q, r, a1, a2, a3, a4, a5, a6, a7, a8⟩ := guess u (Y / 4294967296) (Y % 4294967296) (by omega) (by omega) (by omega) hY
  obtain ⟨q', r', b1, b2, b3, b4, b5, b6, b7, b8⟩ := guess ((u * 4294967296 + v / 4294967296) % Y) (Y / 4294967296) (Y % 4294967296) (by omega) (by omega) (by omega) hY2
  have S1 := steps_of u (v / 4294967296) (Y / 4294967296) (Y % 4294967296) hY (by omega) (by omega)
  have S2 := steps_of ((u * 4294967296 + v / 4294967296) % Y) (v % 4294967296) (Y / 4294967296) (Y % 4294967296) hY2 (by omega) (by omega)
  have a9 := a8 (v / 4294967296) (by omega)
  have b9 := b8 (v % 4294967296) (by omega)
  rw [← eY] at a9 b9 S1 S2
  obtain ⟨f1, f2, f3⟩ := final hi lo y s Y u (v / 4294967296) (v % 4294967296) hy hlt hl h5 (by omega)
  have hu2 := Nat.mod_lt (u * 4294967296 + v / 4294967296) (show 0 < Y by omega)
  refine ⟨s, Y, u, v, ((Y / 4294967296 : Nat) : Int), ((Y % 4294967296 : Nat) : Int), ((v / 4294967296 : Nat) : Int), ((v % 4294967296 : Nat) : Int), q, r, _, (((u * 4294967296 + v / 4294967296) % Y : Nat) : Int), q', r', _,
    h1, h2, ⟨by omega, by omega, by omega, by omega, by omega, by omega, by omega, by omega, by omega, by omega, by omega, by omega, by omega, by omega⟩,
    ⟨g1, by omega, Mul64.maskN Y h4, g2, g3, by omega, Mul64.maskN v h7⟩, ⟨a1, a2, a3, a4, a5, a6, a7, Int.natCast_nonneg _, a9, S1⟩,
    ⟨rest_of u (v / 4294967296) Y (by omega) h4, Int.natCast_nonneg _, ?_⟩, ⟨b1, b2, b3, b4, b5, b6, b7, Int.natCast_nonneg _, b9, S2⟩, ?_, ?_, ?_⟩
  · omega
  · rw [← f1, Int.natCast_add, Int.natCast_mul]; rfl
  · exact Int.ofNat_lt.2 f3
  · rw [rest_of ((u * 4294967296 + v / 4294967296) % Y) (v % 4294967296) Y (by omega) h4, ← f2, cast_shr]

/-- a product that does not wrap -/
theorem prod_of (a y0 : Int) (h0 : 0 ≤ a) (h1 : a < 4294967296) (k0 : 0 ≤ y0) (k1 : y0 < 4294967296) : ∃ p : Int, IntKind.u64.wrap (a * y0) = p ∧ a * y0 = p ∧ 0 ≤ p ∧ p < 18446744073709551616 := by
  have h : a * y0 ≤ 4294967295 * 4294967295 := Int.mul_le_mul (by omega) (by omega) k0 (by omega)
  have h' := Int.mul_nonneg h0 k0
  exact ⟨a * y0, wrapI _ h' (by omega), rfl, h', by omega⟩
end Go.Proofs.Ytojcndgoihkfnaa.Num

namespace Go.Proofs.Ytojcndgoihkfnaa
open Go.RowKit

def okW (v : Int) : Bool := decide (-35184372088832 < v) && decide (v < 35184372088832)
def chk (v : Int) : Int := if okW v then 0 else 1
theorem ret_int {k : IntKind} {a b : Int} (h : a = b) : Ending.returned (.int k a) = .returned (.int k b) := by rw [h]
theorem size_neg (v : Int) (h1 : -9223372036854775808 ≤ v) (h : v < 0) : IntKind.u64.wrap (wrap64 (-v)) = (v.natAbs : Int) := by
  rw [IntKind.wrap_u64]; unfold wrap64; omega
/-- Nothing that was there has turned; there may be more. -/
def Ext (w w' : World) : Prop := Below w.heap.size w w'
theorem Ext.refl (w : World) : Ext w w := Below.refl _ _
theorem Ext.size {w w' : World} (h : Ext w w') : w.heap.size ≤ w'.heap.size := Below.size h
theorem Ext.trans {a b c : World} (h : Ext a b) (k : Ext b c) : Ext a c := Below.trans h (Below.mono k h.size)
theorem Ext.drew {a w : World} (h : Ext a w) : Ext a w.drew := Below.drew h
theorem Ext.alloc {a w : World} (h : Ext a w) (o : Obj) : Ext a (w.alloc o) := Below.alloc h h.size o
theorem Ext.lay {w w' : World} (h : Ext w w') : (∀ b o, b < w.heap.size → w'.cell? ⟨b, o, none⟩ = w.cell? ⟨b, o, none⟩) ∧ (∀ b o, b < w.heap.size → w'.frozen? ⟨b, o, none⟩ = w.frozen? ⟨b, o, none⟩) ∧ w.heap.size ≤ w'.heap.size :=
  ⟨fun b o k => Below.cell (p := ⟨b, o, none⟩) h k, fun b o k => Below.frozen (p := ⟨b, o, none⟩) h k, h.size⟩
theorem ret_bool {a b : Bool} (h : a = b) : Ending.returned (.bool a) = .returned (.bool b) := by rw [h]
theorem chk_ok {a : Int} (h : chk a = 0) : okW a = true := by
  unfold chk at h; split at h
  · assumption
  · omega
theorem chk_no {a : Int} (h : ¬ chk a = 0) : okW a = false := by
  unfold chk at h; split at h
  · omega
  · rename_i h2; simpa using h2
theorem words1 {a b : Int} (h : chk a = 0) (k : chk b = 0) : true = (okW a && okW b) := by rw [chk_ok h, chk_ok k]; rfl
theorem words2 {a b : Int} (h : chk a = 0) (k : ¬ chk b = 0) : false = (okW a && okW b) := by rw [chk_ok h, chk_no k]; rfl
theorem words3 {a b : Int} (h : ¬ chk a = 0) : false = (okW a && okW b) := by rw [chk_no h]; rfl
theorem Ext.drewN {a w : World} (h : Ext a w) : ∀ n, Ext a (w.drewN n)
  | 0 => h
  | n + 1 => (Ext.drewN h n).drew
theorem ret2_ints {k l : IntKind} {a b c d : Int} (h : a = b) (g : c = d) : Ending.returned (.tuple #[.int k a, .int l c]) = .returned (.tuple #[.int k b, .int l d]) := by rw [h, g]
def dQ (hi lo y : Nat) : Int := (((hi * 18446744073709551616 + lo) / y : Nat) : Int)
def dR (hi lo y : Nat) : Int := (((hi * 18446744073709551616 + lo) % y : Nat) : Int)
/-- the relation of the loop of a step -/
def DRel (u y1 t : Int) (a b : Value) : Prop := ∃ q r : Int, a = .int .u64 q ∧ b = .int .u64 r ∧ q * y1 + r = u ∧ 0 ≤ r ∧ r < 4294967296 ∧ q ≤ 4294967297 ∧ t ≤ q
theorem step_eq {a b y1 u : Int} (h : a * y1 + b = u) : (a - 1) * y1 + (b + y1) = u := by rw [Int.sub_mul]; omega
/-- R(n / d), or 2^45 for all that is no word. -/
def nearW (n d : Nat) : Nat := if 35184372088832 ≤ n / d then 35184372088832 else Num.near n d
theorem near_eq1 (n d : Nat) (h : n % d > d - n % d) : Num.near n d = n / d + 1 := by unfold Num.near; rw [if_pos h]
theorem near_eq2 (n d : Nat) (h : ¬ n % d > d - n % d) (k : n % d = d - n % d) (j : n / d % 2 = 1) : Num.near n d = n / d + 1 := by unfold Num.near; rw [if_neg h, if_pos k, if_pos j]
theorem near_eq3 (n d : Nat) (h : ¬ n % d > d - n % d) (k : n % d = d - n % d) (j : ¬ n / d % 2 = 1) : Num.near n d = n / d := by unfold Num.near; rw [if_neg h, if_pos k, if_neg j]
theorem near_eq4 (n d : Nat) (h : ¬ n % d > d - n % d) (k : ¬ n % d = d - n % d) : Num.near n d = n / d := by unfold Num.near; rw [if_neg h, if_neg k]
theorem ret_u64 {a b : Int} (h : a = b) : Ending.returned (.int .u64 a) = .returned (.int .u64 b) := by rw [h]
theorem nearW_int (n d : Nat) : ((nearW n d : Nat) : Int) = if (35184372088832 : Int) ≤ ((n / d : Nat) : Int) then 35184372088832 else if (d : Int) - ((n % d : Nat) : Int) < ((n % d : Nat) : Int) ∨ ((n % d : Nat) : Int) = (d : Int) - ((n % d : Nat) : Int) ∧ ((n / d : Nat) : Int) % 2 = 1 then ((n / d : Nat) : Int) + 1 else ((n / d : Nat) : Int) := by
  have key : ∀ (d q r : Nat), (((if 35184372088832 ≤ q then 35184372088832 else (if r > d - r then q + 1 else if r = d - r then (if q % 2 = 1 then q + 1 else q) else q)) : Nat) : Int) = if (35184372088832 : Int) ≤ (q : Int) then 35184372088832 else if (d : Int) - (r : Int) < (r : Int) ∨ (r : Int) = (d : Int) - (r : Int) ∧ (q : Int) % 2 = 1 then (q : Int) + 1 else (q : Int) := by
    intro d q r
    grind
  exact key d (n / d) (n % d)
theorem Ext.cells2 {w w' : World} {u v : Value} {T : TypeId} (h : Ext (w.alloc (.cells #[u, v] T)) w') : w'.cell? ⟨w.heap.size, 0, none⟩ = some u ∧ w'.cell? ⟨w.heap.size, 1, none⟩ = some v := by
  obtain ⟨hc, _, _⟩ := h.lay
  constructor
  · rw [hc _ _ (by simp)]; simp [go_sem]
  · rw [hc _ _ (by simp)]; simp [go_sem]
/-- the quotient of a * b and d, without its sign -/
def mag (a b d : Int) : Nat := nearW (a.natAbs * b.natAbs) d.natAbs
theorem mag_le (a b d : Int) : mag a b d ≤ 35184372088832 := by
  unfold mag nearW Num.near
  grind
def neg3 (a b d : Int) : Bool := (decide (a < 0) != decide (b < 0)) != decide (d < 0)
def signed (n : Bool) (m : Int) : Int := if n then -m else m
def fitR (v : Int) : Int × Int := if okW v then (v, 0) else (0, 2)
def shareR (a b d : Int) : Int × Int := if d == 0 then (0, 3) else if okW (mag a b d) then (signed (neg3 a b d) (mag a b d), 0) else (0, 2)
theorem okW_bounds {v : Int} (h : okW v = true) : -35184372088832 < v ∧ v < 35184372088832 := by
  unfold okW at h
  simpa using h
def sumV (a b : Int) : Int × Int := fitR (a + b)
def diffV (a b : Int) : Int × Int := fitR (a - b)
def prodV (a b : Int) : Int × Int := shareR a b 1073741824
def quoV (a b : Int) : Int × Int := shareR a 1073741824 b
/-- the whole: refused as malformed if one is no word -/
def addR (a b : Int) : Int × Int := if okW a && okW b then sumV a b else (0, 1)
/-- the whole: refused as malformed if one is no word -/
def subR (a b : Int) : Int × Int := if okW a && okW b then diffV a b else (0, 1)
/-- the whole: refused as malformed if one is no word -/
def mulR (a b : Int) : Int × Int := if okW a && okW b then prodV a b else (0, 1)
/-- the whole: refused as malformed if one is no word -/
def divR (a b : Int) : Int × Int := if okW a && okW b then quoV a b else (0, 1)
theorem mul_seven : mulR 1073741824 7 = (7, 0) := by decide +kernel
/-- a list of Two: cell j of entry i holds the number Z i j -/
def Twos (w : World) (b off len : Nat) (Z : Nat → Nat → Int) : Prop :=
  ∀ i, i < len → ∀ j, j < 6 → w.cell? ⟨b, off + i * 6 + j, none⟩ = some (.int .i64 (Z i j)) ∧ -9223372036854775808 ≤ Z i j ∧ Z i j ≤ 9223372036854775807
theorem cell_lt {w : World} {p : Addr} {v : Value} (h : w.cell? p = some v) : p.block < w.heap.size := by
  apply Nat.lt_of_not_le
  intro hle
  have : w.heap[p.block]? = none := Array.getElem?_eq_none hle
  simp [World.cell?, this] at h
theorem Twos.ext {w w' : World} {b off len : Nat} {Z : Nat → Nat → Int} (h : Twos w b off len Z) (hx : Ext w w') : Twos w' b off len Z := by
  intro i hi j hj
  obtain ⟨h1, h2⟩ := h i hi j hj
  refine ⟨?_, h2⟩
  rw [(hx.lay).1 b _ (cell_lt h1)]
  exact h1
theorem Twos.row {w : World} {b off len : Nat} {Z : Nat → Nat → Int} (h : Twos w b off len Z) {k : Nat} (hk : k < len) : ∃ v0 v1 v2 v3 v4 v5 : Int,
    w.cell? ⟨b, off + k * 6, none⟩ = some (.int .i64 v0) ∧ w.cell? ⟨b, off + k * 6 + 1, none⟩ = some (.int .i64 v1) ∧ w.cell? ⟨b, off + k * 6 + 2, none⟩ = some (.int .i64 v2) ∧
    w.cell? ⟨b, off + k * 6 + 3, none⟩ = some (.int .i64 v3) ∧ w.cell? ⟨b, off + k * 6 + 4, none⟩ = some (.int .i64 v4) ∧ w.cell? ⟨b, off + k * 6 + 5, none⟩ = some (.int .i64 v5) ∧
    (-9223372036854775808 ≤ v0 ∧ v0 ≤ 9223372036854775807) ∧ (-9223372036854775808 ≤ v1 ∧ v1 ≤ 9223372036854775807) ∧ (-9223372036854775808 ≤ v2 ∧ v2 ≤ 9223372036854775807) ∧
    (-9223372036854775808 ≤ v3 ∧ v3 ≤ 9223372036854775807) ∧ (-9223372036854775808 ≤ v4 ∧ v4 ≤ 9223372036854775807) ∧ (-9223372036854775808 ≤ v5 ∧ v5 ≤ 9223372036854775807) :=
  ⟨_, _, _, _, _, _, (h k hk 0 (by omega)).1, (h k hk 1 (by omega)).1, (h k hk 2 (by omega)).1, (h k hk 3 (by omega)).1, (h k hk 4 (by omega)).1, (h k hk 5 (by omega)).1,
    (h k hk 0 (by omega)).2, (h k hk 1 (by omega)).2, (h k hk 2 (by omega)).2, (h k hk 3 (by omega)).2, (h k hk 4 (by omega)).2, (h k hk 5 (by omega)).2⟩
theorem Ext.cells6 {w w' : World} {u0 u1 u2 u3 u4 u5 : Value} {T : TypeId} (h : Ext (w.alloc (.cells #[u0, u1, u2, u3, u4, u5] T)) w') :
    w'.cell? ⟨w.heap.size, 0, none⟩ = some u0 ∧ w'.cell? ⟨w.heap.size, 1, none⟩ = some u1 ∧ w'.cell? ⟨w.heap.size, 2, none⟩ = some u2 ∧
    w'.cell? ⟨w.heap.size, 3, none⟩ = some u3 ∧ w'.cell? ⟨w.heap.size, 4, none⟩ = some u4 ∧ w'.cell? ⟨w.heap.size, 5, none⟩ = some u5 := by
  obtain ⟨hc, _, _⟩ := h.lay
  refine ⟨?_, ?_, ?_, ?_, ?_, ?_⟩ <;> (rw [hc _ _ (by simp)]; simp [go_sem])
end Go.Proofs.Ytojcndgoihkfnaa

namespace Go.Proofs.Ytojcndgoihkfnaa
open Go.RowKit

theorem Ext.set {a w : World} (h : Ext a w) {p : Addr} (hb : a.heap.size ≤ p.block) (v : Value) : Ext a (w.setCell p v) := Below.setCell h hb v
/-- three cells of a variable, which may be written -/
def H3 (w : World) (b : Nat) (u v x : Value) : Prop :=
  w.cell? ⟨b, 0, none⟩ = some u ∧ w.cell? ⟨b, 1, none⟩ = some v ∧ w.cell? ⟨b, 2, none⟩ = some x ∧
  w.frozen? ⟨b, 0, none⟩ = false ∧ w.frozen? ⟨b, 1, none⟩ = false ∧ w.frozen? ⟨b, 2, none⟩ = false ∧ b < w.heap.size
theorem H3.ext {w w' : World} {b : Nat} {u v x : Value} (h : H3 w b u v x) (hx : Ext w w') : H3 w' b u v x := by
  obtain ⟨h0, h1, h2, f0, f1, f2, hb⟩ := h
  obtain ⟨hc, hf, hs⟩ := hx.lay
  refine ⟨?_, ?_, ?_, ?_, ?_, ?_, by omega⟩
  · rw [hc _ _ hb]; exact h0
  · rw [hc _ _ hb]; exact h1
  · rw [hc _ _ hb]; exact h2
  · rw [hf _ _ hb]; exact f0
  · rw [hf _ _ hb]; exact f1
  · rw [hf _ _ hb]; exact f2
theorem h3_at {w : World} {b : Nat} {u v x : Value} {T : TypeId} (h : w.heap.size = b) : H3 (w.alloc (.cells #[u, v, x] T)) b u v x := by
  subst h
  refine ⟨?_, ?_, ?_, ?_, ?_, ?_, ?_⟩ <;> simp [go_sem]
theorem H3.alloc {w : World} {b : Nat} {u v x : Value} (h : H3 w b u v x) (o : Obj) : H3 (w.alloc o) b u v x := h.ext ((Ext.refl _).alloc o)
theorem H3.drew {w : World} {b : Nat} {u v x : Value} (h : H3 w b u v x) : H3 w.drew b u v x := h.ext (Ext.refl _).drew
/-- a variable of one cell -/
def H1 (w : World) (b : Nat) (u : Value) : Prop := w.cell? ⟨b, 0, none⟩ = some u ∧ w.frozen? ⟨b, 0, none⟩ = false ∧ b < w.heap.size
theorem H1.ext {w w' : World} {b : Nat} {u : Value} (h : H1 w b u) (hx : Ext w w') : H1 w' b u := by
  obtain ⟨h0, f0, hb⟩ := h
  obtain ⟨hc, hf, hs⟩ := hx.lay
  refine ⟨?_, ?_, by omega⟩
  · rw [hc _ _ hb]; exact h0
  · rw [hf _ _ hb]; exact f0
theorem h1_at {w : World} {b : Nat} {u : Value} {T : TypeId} (h : w.heap.size = b) : H1 (w.alloc (.cells #[u] T)) b u := by
  subst h
  refine ⟨?_, ?_, ?_⟩ <;> simp [go_sem]
theorem H1.alloc {w : World} {b : Nat} {u : Value} (h : H1 w b u) (o : Obj) : H1 (w.alloc o) b u := h.ext ((Ext.refl _).alloc o)
end Go.Proofs.Ytojcndgoihkfnaa

namespace Go.Proofs.Ytojcndgoihkfnaa

/-- the three limbs of a whole number, modulo 2^192 -/
def l0 (z : Int) : Nat := (z % 18446744073709551616).toNat
def l1 (z : Int) : Nat := (z / 18446744073709551616 % 18446744073709551616).toNat
def l2 (z : Int) : Nat := (z / 18446744073709551616 / 18446744073709551616 % 18446744073709551616).toNat
theorem l0_cast (z : Int) : (l0 z : Int) = z % 18446744073709551616 := by unfold l0; omega
theorem l1_cast (z : Int) : (l1 z : Int) = z / 18446744073709551616 % 18446744073709551616 := by unfold l1; omega
theorem l2_cast (z : Int) : (l2 z : Int) = z / 18446744073709551616 / 18446744073709551616 % 18446744073709551616 := by unfold l2; omega
theorem l0_lt (z : Int) : l0 z < 18446744073709551616 := by unfold l0; omega
theorem l1_lt (z : Int) : l1 z < 18446744073709551616 := by unfold l1; omega
theorem l2_lt (z : Int) : l2 z < 18446744073709551616 := by unfold l2; omega

/-- one limb of a sum -/
theorem add_step (a b : Int) (c : Int) : (a + b + c) % 18446744073709551616 = (a % 18446744073709551616 + b % 18446744073709551616 + c) % 18446744073709551616 ∧
    (a + b + c) / 18446744073709551616 = a / 18446744073709551616 + b / 18446744073709551616 + (a % 18446744073709551616 + b % 18446744073709551616 + c) / 18446744073709551616 := by omega
/-- one limb of a difference -/
def borw (x y c : Nat) : Nat := if x < y + c then 1 else 0
theorem sub_step (a b : Int) (c : Nat) (hc : c ≤ 1) (x y : Nat) (hx : (x : Int) = a % 18446744073709551616) (hy : (y : Int) = b % 18446744073709551616) :
    (a - b - c) % 18446744073709551616 = ((x + 18446744073709551616 - y - c) % 18446744073709551616 : Nat) ∧
    (a - b - c) / 18446744073709551616 = a / 18446744073709551616 - b / 18446744073709551616 - (borw x y c : Nat) := by
  unfold borw
  split <;> omega
theorem plus_limbs (a b : Int) : let c0 := (l0 a + l0 b + 0) / 18446744073709551616
    let c1 := (l1 a + l1 b + c0) / 18446744073709551616
    (l0 a + l0 b + 0) % 18446744073709551616 = l0 (a + b) ∧ (l1 a + l1 b + c0) % 18446744073709551616 = l1 (a + b) ∧ (l2 a + l2 b + c1) % 18446744073709551616 = l2 (a + b) := by
  intro c0 c1
  have h0 := add_step a b 0
  have h1 := add_step (a / 18446744073709551616) (b / 18446744073709551616) c0
  have h2 := add_step (a / 18446744073709551616 / 18446744073709551616) (b / 18446744073709551616 / 18446744073709551616) c1
  have e0 : (c0 : Int) = ((l0 a : Int) + l0 b + 0) / 18446744073709551616 := by simp [c0]
  have e1 : (c1 : Int) = ((l1 a : Int) + l1 b + c0) / 18446744073709551616 := by simp [c1]
  rw [l0_cast, l0_cast] at e0
  rw [l1_cast, l1_cast] at e1
  rw [← e0, Int.add_zero] at h0
  rw [← e1] at h1
  refine ⟨?_, ?_, ?_⟩
  · apply Int.ofNat.inj; show ((_ : Nat) : Int) = ((_ : Nat) : Int)
    rw [l0_cast, Int.natCast_emod, Int.natCast_add, Int.natCast_add, l0_cast, l0_cast]
    exact h0.1.symm
  · apply Int.ofNat.inj; show ((_ : Nat) : Int) = ((_ : Nat) : Int)
    rw [l1_cast, Int.natCast_emod, Int.natCast_add, Int.natCast_add, l1_cast, l1_cast, h0.2]
    exact h1.1.symm
  · apply Int.ofNat.inj; show ((_ : Nat) : Int) = ((_ : Nat) : Int)
    rw [l2_cast, Int.natCast_emod, Int.natCast_add, Int.natCast_add, l2_cast, l2_cast, h0.2, h1.2]
    exact h2.1.symm
theorem minus_limbs (a b : Int) : let c0 := borw (l0 a) (l0 b) 0
    let c1 := borw (l1 a) (l1 b) c0
    (l0 a + 18446744073709551616 - l0 b - 0) % 18446744073709551616 = l0 (a - b) ∧ (l1 a + 18446744073709551616 - l1 b - c0) % 18446744073709551616 = l1 (a - b) ∧ (l2 a + 18446744073709551616 - l2 b - c1) % 18446744073709551616 = l2 (a - b) := by
  intro c0 c1
  have hc0 : c0 ≤ 1 := by simp only [c0, borw]; split <;> omega
  have hc1 : c1 ≤ 1 := by simp only [c1, borw]; split <;> omega
  have h0 := sub_step a b 0 (by omega) (l0 a) (l0 b) (l0_cast _) (l0_cast _)
  have h1 := sub_step (a / 18446744073709551616) (b / 18446744073709551616) c0 hc0 (l1 a) (l1 b) (l1_cast _) (l1_cast _)
  have h2 := sub_step (a / 18446744073709551616 / 18446744073709551616) (b / 18446744073709551616 / 18446744073709551616) c1 hc1 (l2 a) (l2 b) (l2_cast _) (l2_cast _)
  rw [Int.natCast_zero, Int.sub_zero] at h0
  refine ⟨?_, ?_, ?_⟩
  · apply Int.ofNat.inj; show ((_ : Nat) : Int) = ((_ : Nat) : Int)
    rw [l0_cast]; exact h0.1.symm
  · apply Int.ofNat.inj; show ((_ : Nat) : Int) = ((_ : Nat) : Int)
    rw [l1_cast, h0.2]; exact h1.1.symm
  · apply Int.ofNat.inj; show ((_ : Nat) : Int) = ((_ : Nat) : Int)
    rw [l2_cast, h0.2, h1.2]; exact h2.1.symm
/-- one limb of a product -/
theorem mul_step (a k c : Int) : (a * k + c) % 18446744073709551616 = (a % 18446744073709551616 * k + c) % 18446744073709551616 ∧
    (a * k + c) / 18446744073709551616 = a / 18446744073709551616 * k + (a % 18446744073709551616 * k + c) / 18446744073709551616 := by
  have e : a * k = 18446744073709551616 * (a / 18446744073709551616 * k) + a % 18446744073709551616 * k := by
    rw [← Int.mul_assoc, ← Int.add_mul, Int.mul_ediv_add_emod]
  generalize a / 18446744073709551616 * k = q at *
  generalize a % 18446744073709551616 * k = r at *
  omega
def mc (x k c : Nat) : Nat := (x * k + c) / 18446744073709551616
theorem mc_lt (x k c : Nat) (hx : x < 18446744073709551616) (hk : k < 18446744073709551616) (hc : c < 18446744073709551616) : mc x k c < 18446744073709551616 := by
  have h : x * k ≤ 18446744073709551615 * 18446744073709551615 := Nat.mul_le_mul (by omega) (by omega)
  unfold mc
  generalize x * k = p at *
  omega
theorem mc_parts (x k c : Nat) :
    (x * k % 18446744073709551616 + c + 0) % 18446744073709551616 = (x * k + c) % 18446744073709551616 ∧
    x * k / 18446744073709551616 + (x * k % 18446744073709551616 + c + 0) / 18446744073709551616 = mc x k c := by
  unfold mc
  generalize x * k = p
  omega
theorem times_limbs (a : Int) (k : Nat) : let c0 := mc (l0 a) k 0
    let c1 := mc (l1 a) k c0
    (l0 a * k + 0) % 18446744073709551616 = l0 (a * k) ∧ (l1 a * k + c0) % 18446744073709551616 = l1 (a * k) ∧ (l2 a * k + c1) % 18446744073709551616 = l2 (a * k) := by
  intro c0 c1
  have h0 := mul_step a k 0
  have h1 := mul_step (a / 18446744073709551616) k c0
  have h2 := mul_step (a / 18446744073709551616 / 18446744073709551616) k c1
  have e0 : (c0 : Int) = ((l0 a : Int) * k + 0) / 18446744073709551616 := by simp [c0, mc]
  have e1 : (c1 : Int) = ((l1 a : Int) * k + c0) / 18446744073709551616 := by simp [c1, mc]
  rw [l0_cast] at e0
  rw [l1_cast] at e1
  rw [← e0, Int.add_zero] at h0
  rw [← e1] at h1
  refine ⟨?_, ?_, ?_⟩
  · apply Int.ofNat.inj; show ((_ : Nat) : Int) = ((_ : Nat) : Int)
    rw [l0_cast, Int.natCast_emod, Int.natCast_add, Int.natCast_mul, l0_cast]
    exact h0.1.symm
  · apply Int.ofNat.inj; show ((_ : Nat) : Int) = ((_ : Nat) : Int)
    rw [l1_cast, Int.natCast_emod, Int.natCast_add, Int.natCast_mul, l1_cast, h0.2]
    exact h1.1.symm
  · apply Int.ofNat.inj; show ((_ : Nat) : Int) = ((_ : Nat) : Int)
    rw [l2_cast, Int.natCast_emod, Int.natCast_add, Int.natCast_mul, l2_cast, h0.2, h1.2]
    exact h2.1.symm
end Go.Proofs.Ytojcndgoihkfnaa
