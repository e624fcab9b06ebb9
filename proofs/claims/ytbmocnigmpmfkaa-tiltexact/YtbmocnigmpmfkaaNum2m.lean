/- Plain numbers: what bits.Div64 reckons with. -/
import Derived.Test.YtbmocnigmpmfkaaNumm
import Derived.WalkKit
import Derived.Lib.BitFns
import Derived.Laws.Bits64b
import Derived.Shelf.Bits.Mul64
namespace Go.Proofs.Ytbmocnigmpmfkaa.Num
open Go.RowKit

theorem and_mask (a : Nat) (ha : a < 18446744073709551616) : bits .and .u64 (a : Int) 4294967295 = ((a % 4294967296 : Nat) : Int) := Mul64.maskN a ha

theorem or_shift (h l s : Nat) (hs : s ≤ 63) (hl : l < 2 ^ s) (hh : h * 2 ^ s < 18446744073709551616) :
    bits .or .u64 ((h * 2 ^ s : Nat) : Int) ((l : Nat) : Int) = ((h * 2 ^ s + l : Nat) : Int) := by
  have hl' : l < 18446744073709551616 := Nat.lt_of_lt_of_le hl (by have := Nat.pow_le_pow_right (n := 2) (by omega) (show s ≤ 64 by omega); simpa using this)
  rw [bits_or_u64_nat _ _ hh hl']
  have : h * 2 ^ s ||| l = h * 2 ^ s + l := by
    rw [Nat.mul_comm, ← Nat.two_pow_add_eq_or_of_lt hl]
  rw [this]

theorem bl_spec : ∀ (k x : Nat), x ≠ 0 → x < 2 ^ k → k ≤ 64 → ∃ m, Lib.bitLen x = m + 1 ∧ 2 ^ m ≤ x ∧ x < 2 ^ (m + 1) := by
  intro k
  induction k with
  | zero => intro x h0 h; simp at h; omega
  | succ k ih =>
    intro x h0 h hk
    have hx : x < 2 ^ 64 := Nat.lt_of_lt_of_le h (Nat.pow_le_pow_right (by omega) hk)
    rw [Lib.bitLen_half x h0 hx]
    by_cases h1 : x / 2 = 0
    · refine ⟨0, ?_, by simp; omega, by simp; omega⟩
      rw [h1]; rfl
    · obtain ⟨m, a, b, c⟩ := ih (x / 2) h1 (by rw [Nat.pow_succ] at h; omega) (by omega)
      refine ⟨m + 1, by omega, ?_, ?_⟩
      · rw [Nat.pow_succ]; omega
      · rw [Nat.pow_succ]; omega

theorem wrapNat (a : Nat) (ha : a < 18446744073709551616) : IntKind.u64.wrap (a : Int) = (a : Int) := by rw [IntKind.wrap_u64]; omega
theorem wrapMod (a : Nat) : IntKind.u64.wrap (a : Int) = ((a % 18446744073709551616 : Nat) : Int) := by rw [IntKind.wrap_u64]; omega

theorem cast_shl (a s : Nat) : (a : Int) * 2 ^ s = ((a * 2 ^ s : Nat) : Int) := by simp [Int.natCast_mul, Int.natCast_pow]
theorem cast_shr (a s : Nat) : (a : Int) / 2 ^ s = ((a / 2 ^ s : Nat) : Int) := by simp [Int.natCast_ediv, Int.natCast_pow]

/-- the shift: what Div64 makes of hi, lo, y -/
theorem setup (hi lo y : Nat) (hl : lo < 18446744073709551616) (hy : y < 18446744073709551616) (hlt : hi < y) :
    ∃ s Y u v : Nat, s ≤ 63 ∧ 64 - (Lib.bitLen (y : Int).toNat : Int) = s ∧ 9223372036854775808 ≤ Y ∧ Y < 18446744073709551616 ∧ Y = y * 2 ^ s ∧
      u < Y ∧ v < 18446744073709551616 ∧ u * 18446744073709551616 + v = (hi * 18446744073709551616 + lo) * 2 ^ s ∧
      IntKind.u64.wrap (↑y * 2 ^ s) = ↑Y ∧ bits BinOp.or IntKind.u64 (IntKind.u64.wrap (↑hi * 2 ^ s)) (↑lo / 2 ^ (64 - s)) = ↑u ∧ IntKind.u64.wrap (↑lo * 2 ^ s) = ↑v := by
  obtain ⟨m, h1, h2, h3⟩ := bl_spec 64 y (by omega) (by simpa using hy) (by omega)
  have hm : m ≤ 63 := by
    have := Lib.bitLen_le y 64 (by omega) (by simpa using hy)
    omega
  have ep : 2 ^ m * 2 ^ (63 - m) = 9223372036854775808 := by rw [← Nat.pow_add, show m + (63 - m) = 63 by omega]
  have e64 : 2 ^ (63 - m) * 2 ^ (m + 1) = 18446744073709551616 := by rw [← Nat.pow_add, show 63 - m + (m + 1) = 64 by omega]
  have hp : 0 < 2 ^ (63 - m) := Nat.pow_pos (by omega)
  have hYlo : 9223372036854775808 ≤ y * 2 ^ (63 - m) := by rw [← ep]; exact Nat.mul_le_mul_right _ h2
  have hYhi : y * 2 ^ (63 - m) < 18446744073709551616 := by rw [← e64, Nat.mul_comm]; exact (Nat.mul_lt_mul_left hp).2 h3
  have hsub : 64 - (63 - m) = m + 1 := by omega
  have hlow : lo / 2 ^ (m + 1) < 2 ^ (63 - m) := by
    rw [Nat.div_lt_iff_lt_mul (Nat.pow_pos (by omega)), e64]; exact hl
  have hhi1 : (hi + 1) * 2 ^ (63 - m) ≤ y * 2 ^ (63 - m) := Nat.mul_le_mul_right _ hlt
  rw [Nat.add_mul, Nat.one_mul] at hhi1
  refine ⟨63 - m, y * 2 ^ (63 - m), hi * 2 ^ (63 - m) + lo / 2 ^ (m + 1), lo * 2 ^ (63 - m) % 18446744073709551616, by omega, ?_, hYlo, hYhi, rfl, by omega, Nat.mod_lt _ (by omega), ?_, ?_, ?_, ?_⟩
  · rw [Int.toNat_natCast, h1]; omega
  · have e1 : lo * 2 ^ (63 - m) = (lo / 2 ^ (m + 1)) * 18446744073709551616 + lo * 2 ^ (63 - m) % 18446744073709551616 := by
      have e2 : lo * 2 ^ (63 - m) / 18446744073709551616 = lo / 2 ^ (m + 1) := by
        rw [← e64, Nat.mul_comm lo, Nat.mul_div_mul_left _ _ hp]
      have := Nat.div_add_mod (lo * 2 ^ (63 - m)) 18446744073709551616
      rw [e2] at this
      omega
    rw [Nat.add_mul, Nat.add_mul, Nat.mul_right_comm]
    omega
  · rw [cast_shl, wrapNat _ hYhi]
  · rw [cast_shl, wrapNat _ (by omega), hsub, cast_shr]
    exact or_shift _ _ _ (by omega) hlow (by omega)
  · rw [cast_shl, wrapMod]

/-- what the loop of a step needs: t is the true digit -/
def Steps (u c y1 y0 t : Int) : Prop := ∀ a b : Int, a * y1 + b = u → 0 ≤ b → t ≤ a →
  ((4294967296 ≤ a ∨ 4294967296 * b + c < a * y0) → t + 1 ≤ a) ∧ (a * y0 ≤ 4294967296 * b + c → a = t) ∧ (4294967296 ≤ b → a ≤ 4294967296 → a = t)

theorem steps_of (u c y1 y0 : Nat) (hY : u < y1 * 4294967296 + y0) (hc : c < 4294967296) (h0 : y0 < 4294967296) :
    Steps u c y1 y0 (((u * 4294967296 + c) / (y1 * 4294967296 + y0) : Nat) : Int) := by
  intro a b hab hb hta
  obtain ⟨A, rfl⟩ := Int.eq_ofNat_of_zero_le (Int.le_trans (Int.natCast_nonneg _) hta)
  obtain ⟨B, rfl⟩ := Int.eq_ofNat_of_zero_le hb
  have hq : A * y1 + B = u := by
    have : ((A * y1 + B : Nat) : Int) = u := by rw [Int.natCast_add, Int.natCast_mul]; exact hab
    omega
  have e0 : (A : Int) * y0 = ((A * y0 : Nat) : Int) := (Int.natCast_mul _ _).symm
  have hup : (u * 4294967296 + c) / (y1 * 4294967296 + y0) ≤ A := by omega
  refine ⟨fun ht => ?_, fun ht => ?_, fun ht ha => ?_⟩
  · have := step_test (B := 4294967296) hY hc hq (by rw [e0] at ht; rcases ht with ht | ht; left; omega; right; omega) (by omega)
    omega
  · rw [e0] at ht
    have := step_ok (B := 4294967296) hq (by omega) (by omega) hup
    omega
  · have h1 : A * y0 ≤ 4294967296 * y0 := Nat.mul_le_mul_right _ (by omega)
    have h2 : 4294967296 * y0 ≤ 4294967296 * B := Nat.mul_le_mul_left _ (by omega)
    have := step_ok (B := 4294967296) hq (by omega) (by omega) hup
    omega

theorem wrapI (a : Int) (h0 : 0 ≤ a) (h1 : a < 18446744073709551616) : IntKind.u64.wrap a = a := by rw [IntKind.wrap_u64]; omega
theorem wrap_add (a b : Int) : IntKind.u64.wrap (IntKind.u64.wrap a + b) = IntKind.u64.wrap (a + b) := by simp only [IntKind.wrap_u64]; omega
theorem wrap_sub (a b : Int) : IntKind.u64.wrap (IntKind.u64.wrap a - IntKind.u64.wrap b) = IntKind.u64.wrap (a - b) := by simp only [IntKind.wrap_u64]; omega

/-- the first guess of a step, and its rest, as they are reckoned -/
theorem guess (u y1 y0 : Nat) (h1 : 2147483648 ≤ y1) (h2 : y1 < 4294967296) (h0 : y0 < 4294967296) (hY : u < y1 * 4294967296 + y0) :
    ∃ q r : Int, (u : Int) / (y1 : Int) = q ∧ IntKind.u64.wrap ((u : Int) - IntKind.u64.wrap (q * y1)) = r ∧ q * y1 + r = u ∧ 0 ≤ r ∧ r < 4294967296 ∧ 0 ≤ q ∧ q ≤ 4294967297 ∧
      ∀ c : Nat, c < 4294967296 → (((u * 4294967296 + c) / (y1 * 4294967296 + y0) : Nat) : Int) ≤ q := by
  have hq := first_le (B := 4294967296) (show 0 < y1 by omega) hY (by omega)
  have hdm := Nat.div_add_mod u y1
  have hr := Nat.mod_lt u (show 0 < y1 by omega)
  have hu : u < 18446744073709551616 := by
    have : y1 * 4294967296 ≤ 4294967295 * 4294967296 := Nat.mul_le_mul_right _ (by omega)
    omega
  refine ⟨((u / y1 : Nat) : Int), ((u % y1 : Nat) : Int), ?_, ?_, ?_, Int.natCast_nonneg _, by omega, Int.natCast_nonneg _, by omega, ?_⟩
  · rw [← Int.natCast_ediv]
  · have e1 : ((u / y1 : Nat) : Int) * y1 = ((y1 * (u / y1) : Nat) : Int) := by rw [← Int.natCast_mul, Nat.mul_comm]
    rw [e1, wrapNat _ (by omega)]
    have : (u : Int) - ((y1 * (u / y1) : Nat) : Int) = ((u % y1 : Nat) : Int) := by omega
    rw [this, wrapNat _ (by omega)]
  · have e1 : ((u / y1 : Nat) : Int) * y1 = ((y1 * (u / y1) : Nat) : Int) := by rw [← Int.natCast_mul, Nat.mul_comm]
    rw [e1]; omega
  · intro c hc
    have := first_up (u := u) (c := c) (y1 := y1) (y0 := y0) (B := 4294967296) (by omega) (by omega)
    rw [Nat.mod_eq_of_lt hc] at this
    omega

/-- the rest behind a step -/
theorem rest_of (u c Y : Nat) (hY : 0 < Y) (hYb : Y < 18446744073709551616) :
    IntKind.u64.wrap (IntKind.u64.wrap (IntKind.u64.wrap ((u : Int) * 4294967296) + c) - IntKind.u64.wrap ((((u * 4294967296 + c) / Y : Nat) : Int) * Y)) = (((u * 4294967296 + c) % Y : Nat) : Int) := by
  rw [wrap_add, wrap_sub]
  have h := Nat.div_add_mod (u * 4294967296 + c) Y
  have hm := Nat.mod_lt (u * 4294967296 + c) hY
  have e1 : (((u * 4294967296 + c) / Y : Nat) : Int) * Y = ((Y * ((u * 4294967296 + c) / Y) : Nat) : Int) := by rw [← Int.natCast_mul, Nat.mul_comm]
  rw [e1, wrapI] <;> omega

theorem final0 (u v1 v0 A B m k : Nat) (d1 : A + m = u * 4294967296 + v1) (d2 : B + k = m * 4294967296 + v0) :
    u * 18446744073709551616 + (v1 * 4294967296 + v0) = A * 4294967296 + B + k := by omega

theorem final (hi lo y s Y u v1 v0 : Nat) (hy : y < 18446744073709551616) (hlt : hi < y) (hl : lo < 18446744073709551616) (hY : Y = y * 2 ^ s)
    (h : u * 18446744073709551616 + (v1 * 4294967296 + v0) = (hi * 18446744073709551616 + lo) * 2 ^ s) :
    (u * 4294967296 + v1) / Y * 4294967296 + ((u * 4294967296 + v1) % Y * 4294967296 + v0) / Y = (hi * 18446744073709551616 + lo) / y ∧
    ((u * 4294967296 + v1) % Y * 4294967296 + v0) % Y / 2 ^ s = (hi * 18446744073709551616 + lo) % y ∧ (hi * 18446744073709551616 + lo) / y < 18446744073709551616 := by
  have hp : 0 < 2 ^ s := Nat.pow_pos (by omega)
  have hYp : 0 < Y := by rw [hY]; exact Nat.mul_pos (by omega) hp
  have hb : (hi * 18446744073709551616 + lo) / y < 18446744073709551616 := by
    rw [Nat.div_lt_iff_lt_mul (by omega)]
    omega
  have d1 := Nat.div_add_mod (u * 4294967296 + v1) Y
  have m1 := Nat.mod_lt (u * 4294967296 + v1) hYp
  have d2 := Nat.div_add_mod ((u * 4294967296 + v1) % Y * 4294967296 + v0) Y
  have m2 := Nat.mod_lt ((u * 4294967296 + v1) % Y * 4294967296 + v0) hYp
  have hN : (hi * 18446744073709551616 + lo) * 2 ^ s = Y * ((u * 4294967296 + v1) / Y * 4294967296 + ((u * 4294967296 + v1) % Y * 4294967296 + v0) / Y) + ((u * 4294967296 + v1) % Y * 4294967296 + v0) % Y := by
    rw [← h, Nat.mul_add, ← Nat.mul_assoc]
    exact final0 _ _ _ _ _ _ _ d1 d2
  have q : (hi * 18446744073709551616 + lo) * 2 ^ s / Y = (hi * 18446744073709551616 + lo) / y := by rw [hY, Nat.mul_div_mul_right _ _ hp]
  have r : (hi * 18446744073709551616 + lo) * 2 ^ s % Y = (hi * 18446744073709551616 + lo) % y * 2 ^ s := by rw [hY, Nat.mul_mod_mul_right]
  rw [hN, Nat.mul_add_div hYp, Nat.div_eq_of_lt m2, Nat.add_zero] at q
  rw [hN, Nat.mul_add_mod, Nat.mod_eq_of_lt m2] at r
  refine ⟨q, ?_, hb⟩
  rw [r, Nat.mul_div_cancel _ hp]

/-- All that the walk of Div64 meets, under names. -/
theorem setupI (hi lo y : Nat) (hl : lo < 18446744073709551616) (hy : y < 18446744073709551616) (hlt : hi < y) :
    ∃ (s : Nat) (Y u v y1 y0 v1 v0 q r t u2 q' r' t' : Int), s ≤ 63 ∧ 64 - (Lib.bitLen (y : Int).toNat : Int) = s ∧
      (2147483648 ≤ y1 ∧ y1 < 4294967296 ∧ 0 ≤ y0 ∧ y0 < 4294967296 ∧ 0 ≤ v1 ∧ v1 < 4294967296 ∧ 0 ≤ v0 ∧ v0 < 4294967296 ∧ 0 ≤ u ∧ u < 18446744073709551616 ∧ 0 ≤ v ∧ v < 18446744073709551616 ∧ 9223372036854775808 ≤ Y ∧ Y < 18446744073709551616) ∧
      (IntKind.u64.wrap (↑y * 2 ^ s) = Y ∧ Y / 4294967296 = y1 ∧ bits BinOp.and IntKind.u64 Y 4294967295 = y0 ∧ bits BinOp.or IntKind.u64 (IntKind.u64.wrap (↑hi * 2 ^ s)) (↑lo / 2 ^ (64 - s)) = u ∧
        IntKind.u64.wrap (↑lo * 2 ^ s) = v ∧ v / 4294967296 = v1 ∧ bits BinOp.and IntKind.u64 v 4294967295 = v0) ∧
      (u / y1 = q ∧ IntKind.u64.wrap (u - IntKind.u64.wrap (q * y1)) = r ∧ q * y1 + r = u ∧ 0 ≤ r ∧ r < 4294967296 ∧ 0 ≤ q ∧ q ≤ 4294967297 ∧ 0 ≤ t ∧ t ≤ q ∧ Steps u v1 y1 y0 t) ∧
      (IntKind.u64.wrap (IntKind.u64.wrap (IntKind.u64.wrap (u * 4294967296) + v1) - IntKind.u64.wrap (t * Y)) = u2 ∧ 0 ≤ u2 ∧ u2 < 18446744073709551616) ∧
      (u2 / y1 = q' ∧ IntKind.u64.wrap (u2 - IntKind.u64.wrap (q' * y1)) = r' ∧ q' * y1 + r' = u2 ∧ 0 ≤ r' ∧ r' < 4294967296 ∧ 0 ≤ q' ∧ q' ≤ 4294967297 ∧ 0 ≤ t' ∧ t' ≤ q' ∧ Steps u2 v0 y1 y0 t') ∧
      t * 4294967296 + t' = (((hi * 18446744073709551616 + lo) / y : Nat) : Int) ∧ (((hi * 18446744073709551616 + lo) / y : Nat) : Int) < 18446744073709551616 ∧
      IntKind.u64.wrap (IntKind.u64.wrap (IntKind.u64.wrap (u2 * 4294967296) + v0) - IntKind.u64.wrap (t' * Y)) / 2 ^ s = (((hi * 18446744073709551616 + lo) % y : Nat) : Int) := by
  obtain ⟨s, Y, u, v, h1, h2, h3, h4, h5, h6, h7, h8, g1, g2, g3⟩ := setup hi lo y hl hy hlt
  have eY : Y = Y / 4294967296 * 4294967296 + Y % 4294967296 := by omega
  have eV : v = v / 4294967296 * 4294967296 + v % 4294967296 := by omega
  have hY : u < Y / 4294967296 * 4294967296 + Y % 4294967296 := by omega
  have hY2 : (u * 4294967296 + v / 4294967296) % Y < Y / 4294967296 * 4294967296 + Y % 4294967296 := by
    have := Nat.mod_lt (u * 4294967296 + v / 4294967296) (show 0 < Y by omega)
    omega
  obtain ⟨q, r, a1, a2, a3, a4, a5, a6, a7, a8⟩ := guess u (Y / 4294967296) (Y % 4294967296) (by omega) (by omega) (by omega) hY
  obtain ⟨q', r', b1, b2, b3, b4, b5, b6, b7, b8⟩ := guess ((u * 4294967296 + v / 4294967296) % Y) (Y / 4294967296) (Y % 4294967296) (by omega) (by omega) (by omega) hY2
  have S1 := steps_of u (v / 4294967296) (Y / 4294967296) (Y % 4294967296) hY (by omega) (by omega)
  have S2 := steps_of ((u * 4294967296 + v / 4294967296) % Y) (v % 4294967296) (Y / 4294967296) (Y % 4294967296) hY2 (by omega) (by omega)
  have a9 := a8 (v / 4294967296) (by omega)
  have b9 := b8 (v % 4294967296) (by omega)
  rw [← eY] at a9 b9 S1 S2
  obtain ⟨f1, f2, f3⟩ := final hi lo y s Y u (v / 4294967296) (v % 4294967296) hy hlt hl h5 (by omega)
  have hu2 := Nat.mod_lt (u * 4294967296 + v / 4294967296) (show 0 < Y by omega)
  refine ⟨s, Y, u, v, ((Y / 4294967296 : Nat) : Int), ((Y % 4294967296 : Nat) : Int), ((v / 4294967296 : Nat) : Int), ((v % 4294967296 : Nat) : Int), q, r, _, (((u * 4294967296 + v / 4294967296) % Y : Nat) : Int), q', r', _,
    h1, h2, ⟨by omega, by omega, by omega, by omega, by omega, by omega, by omega, by omega, by omega, by omega, by omega, by omega, by omega, by omega⟩,
    ⟨g1, by omega, Mul64.maskN Y h4, g2, g3, by omega, Mul64.maskN v h7⟩, ⟨a1, a2, a3, a4, a5, a6, a7, Int.natCast_nonneg _, a9, S1⟩,
    ⟨rest_of u (v / 4294967296) Y (by omega) h4, Int.natCast_nonneg _, ?_⟩, ⟨b1, b2, b3, b4, b5, b6, b7, Int.natCast_nonneg _, b9, S2⟩, ?_, ?_, ?_⟩
  · omega
  · rw [← f1, Int.natCast_add, Int.natCast_mul]; rfl
  · exact Int.ofNat_lt.2 f3
  · rw [rest_of ((u * 4294967296 + v / 4294967296) % Y) (v % 4294967296) Y (by omega) h4, ← f2, cast_shr]

/-- a product that does not wrap -/
theorem prod_of (a y0 : Int) (h0 : 0 ≤ a) (h1 : a < 4294967296) (k0 : 0 ≤ y0) (k1 : y0 < 4294967296) : ∃ p : Int, IntKind.u64.wrap (a * y0) = p ∧ a * y0 = p ∧ 0 ≤ p ∧ p < 18446744073709551616 := by
  have h : a * y0 ≤ 4294967295 * 4294967295 := Int.mul_le_mul (by omega) (by omega) k0 (by omega)
  have h' := Int.mul_nonneg h0 k0
  exact ⟨a * y0, wrapI _ h' (by omega), rfl, h', by omega⟩
end Go.Proofs.Ytbmocnigmpmfkaa.Num
