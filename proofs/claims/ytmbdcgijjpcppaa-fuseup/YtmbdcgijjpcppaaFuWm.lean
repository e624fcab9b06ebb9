/- FuseUp: what a leaning does to what is shown. -/
import Derived.Test.YtmbdcgijjpcppaaFuVm
namespace Go.Proofs.Ytmbdcgijjpcppaa
open Go.RowKit Go.Shelf
theorem abs_sq (x : Int) : (x.natAbs : Int) * x.natAbs = x * x := by
  have := Int.natAbs_mul_self (a := x)
  rw [← this]; simp
theorem abs_le_sq (x : Int) : (x.natAbs : Int) ≤ x * x := by
  rw [← abs_sq]
  rcases Nat.eq_zero_or_pos x.natAbs with h | h
  · rw [h]; decide
  · have := Nat.mul_le_mul_left x.natAbs h
    have e : ((x.natAbs * x.natAbs : Nat) : Int) = (x.natAbs : Int) * x.natAbs := by simp
    rw [← e]; omega
theorem dot_id (KK K2 x y z s0 s1 s2 m0 m1 m2 t0 t1 t2 : Int) : (m0 * t0 + m1 * t1 + m2 * t2 - (m0 * s0 + m1 * s1 + m2 * s2)) * (KK + (x * x + y * y + z * z)) = m0 * (t0 * (KK + (x * x + y * y + z * z)) - ((KK - (x * x + y * y + z * z)) * s0 + 2 * (x * s0 + y * s1 + z * s2) * x + K2 * (s1 * z - s2 * y))) + m1 * (t1 * (KK + (x * x + y * y + z * z)) - ((KK - (x * x + y * y + z * z)) * s1 + 2 * (x * s0 + y * s1 + z * s2) * y + K2 * (s2 * x - s0 * z))) + m2 * (t2 * (KK + (x * x + y * y + z * z)) - ((KK - (x * x + y * y + z * z)) * s2 + 2 * (x * s0 + y * s1 + z * s2) * z + K2 * (s0 * y - s1 * x))) + (K2 * (x * (m1 * s2 - m2 * s1) + y * (m2 * s0 - m0 * s2) + z * (m0 * s1 - m1 * s0)) - 2 * ((x * x + y * y + z * z) * (m0 * s0 + m1 * s1 + m2 * s2)) + 2 * ((x * s0 + y * s1 + z * s2) * (x * m0 + y * m1 + z * m2))) := by grind
/-- what it leans by is along what is off: 128 times and more -/
theorem lean_part {x g o : Int} (h1 : -1073741824 ≤ 2 * (1073741824 * o - g) ∧ 2 * (1073741824 * o - g) ≤ 1073741824) (h2 : -1073741824 ≤ 2 * (1073741824 * x - o * 8388608) ∧ 2 * (1073741824 * x - o * 8388608) ≤ 1073741824) : -69256347648 ≤ 137438953472 * x - g ∧ 137438953472 * x - g ≤ 69256347648 := by omega
theorem lean_part2 {x g : Int} (h : -69256347648 ≤ 137438953472 * x - g ∧ 137438953472 * x - g ≤ 69256347648) : 68182605824 * (x * x) ≤ x * g := by
  obtain ⟨w, rfl⟩ : ∃ w, g = 137438953472 * x - w := ⟨137438953472 * x - g, by omega⟩
  have hw : -69256347648 ≤ w ∧ w ≤ 69256347648 := by omega
  have e : ∀ c : Int, x * (c * x - w) = c * (x * x) - x * w := fun c => by grind
  rw [e]
  have a := abs_le_sq x
  have k : x * w ≤ (x.natAbs : Int) * 69256347648 := (mul_abs hw.1 hw.2).1
  omega
theorem sum3_sq (x y z : Int) : ((x.natAbs : Int) + y.natAbs + z.natAbs) * ((x.natAbs : Int) + y.natAbs + z.natAbs) ≤ 3 * (x * x + y * y + z * z) := by
  have a := abs_sq x; have b := abs_sq y; have c := abs_sq z
  generalize (x.natAbs : Int) = X at *; generalize (y.natAbs : Int) = Y at *; generalize (z.natAbs : Int) = Z at *
  have p := sq_nonneg (X - Y); have q := sq_nonneg (Y - Z); have r := sq_nonneg (X - Z)
  have e : 3 * (X * X + Y * Y + Z * Z) = (X + Y + Z) * (X + Y + Z) + (X - Y) * (X - Y) + (Y - Z) * (Y - Z) + (X - Z) * (X - Z) := by grind
  rw [← a, ← b, ← c, e]
  omega
theorem dot_abs {x y z s0 s1 s2 A : Int} (h0 : -A ≤ s0 ∧ s0 ≤ A) (h1 : -A ≤ s1 ∧ s1 ≤ A) (h2 : -A ≤ s2 ∧ s2 ≤ A) : -(((x.natAbs : Int) + y.natAbs + z.natAbs) * A) ≤ x * s0 + y * s1 + z * s2 ∧ x * s0 + y * s1 + z * s2 ≤ ((x.natAbs : Int) + y.natAbs + z.natAbs) * A := by
  have a := mul_abs (m := x) h0.1 h0.2; have b := mul_abs (m := y) h1.1 h1.2; have c := mul_abs (m := z) h2.1 h2.2
  rw [Int.add_mul, Int.add_mul]
  omega
/-- what is shown never falls away from what is measured by more than a little -/
theorem up_dot {x y z s0 s1 s2 m0 m1 m2 t0 t1 t2 : Int} (hs0 : -1073741824 ≤ s0 ∧ s0 ≤ 1073741824) (hs1 : -1073741824 ≤ s1 ∧ s1 ≤ 1073741824) (hs2 : -1073741824 ≤ s2 ∧ s2 ≤ 1073741824) (hm0 : -1073741824 ≤ m0 ∧ m0 ≤ 1073741824) (hm1 : -1073741824 ≤ m1 ∧ m1 ≤ 1073741824) (hm2 : -1073741824 ≤ m2 ∧ m2 ≤ 1073741824)
    (w0 : -69256347648 ≤ 137438953472 * x - (m1 * s2 - m2 * s1) ∧ 137438953472 * x - (m1 * s2 - m2 * s1) ≤ 69256347648) (w1 : -69256347648 ≤ 137438953472 * y - (m2 * s0 - m0 * s2) ∧ 137438953472 * y - (m2 * s0 - m0 * s2) ≤ 69256347648) (w2 : -69256347648 ≤ 137438953472 * z - (m0 * s1 - m1 * s0) ∧ 137438953472 * z - (m0 * s1 - m1 * s0) ≤ 69256347648)
    (d0 : -34587645138205409280 ≤ t0 * (1152921504606846976 + (x * x + y * y + z * z)) - ((1152921504606846976 - (x * x + y * y + z * z)) * s0 + 2 * (x * s0 + y * s1 + z * s2) * x + 2147483648 * (s1 * z - s2 * y)) ∧ t0 * (1152921504606846976 + (x * x + y * y + z * z)) - ((1152921504606846976 - (x * x + y * y + z * z)) * s0 + 2 * (x * s0 + y * s1 + z * s2) * x + 2147483648 * (s1 * z - s2 * y)) ≤ 34587645138205409280) (d1 : -34587645138205409280 ≤ t1 * (1152921504606846976 + (x * x + y * y + z * z)) - ((1152921504606846976 - (x * x + y * y + z * z)) * s1 + 2 * (x * s0 + y * s1 + z * s2) * y + 2147483648 * (s2 * x - s0 * z)) ∧ t1 * (1152921504606846976 + (x * x + y * y + z * z)) - ((1152921504606846976 - (x * x + y * y + z * z)) * s1 + 2 * (x * s0 + y * s1 + z * s2) * y + 2147483648 * (s2 * x - s0 * z)) ≤ 34587645138205409280) (d2 : -34587645138205409280 ≤ t2 * (1152921504606846976 + (x * x + y * y + z * z)) - ((1152921504606846976 - (x * x + y * y + z * z)) * s2 + 2 * (x * s0 + y * s1 + z * s2) * z + 2147483648 * (s0 * y - s1 * x)) ∧ t2 * (1152921504606846976 + (x * x + y * y + z * z)) - ((1152921504606846976 - (x * x + y * y + z * z)) * s2 + 2 * (x * s0 + y * s1 + z * s2) * z + 2147483648 * (s0 * y - s1 * x)) ≤ 34587645138205409280) :
    m0 * s0 + m1 * s1 + m2 * s2 - 107374182400 ≤ m0 * t0 + m1 * t1 + m2 * t2 := by
  have I := dot_id 1152921504606846976 2147483648 x y z s0 s1 s2 m0 m1 m2 t0 t1 t2
  have D0 := prod_in hm0 d0; have D1 := prod_in hm1 d1; have D2 := prod_in hm2 d2
  have L0 := lean_part2 w0; have L1 := lean_part2 w1; have L2 := lean_part2 w2
  have nx := sq_nonneg x; have ny := sq_nonneg y; have nz := sq_nonneg z
  have ms : -3458764513820540928 ≤ m0 * s0 + m1 * s1 + m2 * s2 ∧ m0 * s0 + m1 * s1 + m2 * s2 ≤ 3458764513820540928 := by
    have a := prod_in hm0 hs0; have b := prod_in hm1 hs1; have c := prod_in hm2 hs2
    omega
  have CM := prod_in (a := (x * x + y * y + z * z)) (A := (x * x + y * y + z * z)) (b := m0 * s0 + m1 * s1 + m2 * s2) (B := 3458764513820540928) (by omega) ms
  have xs := dot_abs (x := x) (y := y) (z := z) hs0 hs1 hs2
  have xm := dot_abs (x := x) (y := y) (z := z) hm0 hm1 hm2
  have XX := prod_in xs xm
  have sg := sum3_sq x y z
  have e3 : ((x.natAbs : Int) + y.natAbs + z.natAbs) * 1073741824 * (((x.natAbs : Int) + y.natAbs + z.natAbs) * 1073741824) = 1152921504606846976 * (((x.natAbs : Int) + y.natAbs + z.natAbs) * ((x.natAbs : Int) + y.natAbs + z.natAbs)) := by
    generalize (x.natAbs : Int) + y.natAbs + z.natAbs = G
    have : ∀ c : Int, G * c * (G * c) = c * c * (G * G) := fun c => by grind
    rw [this]; generalize G * G = R; omega
  rw [e3] at XX
  generalize ((x.natAbs : Int) + y.natAbs + z.natAbs) * ((x.natAbs : Int) + y.natAbs + z.natAbs) = SG at *
  clear e3 xs xm ms d0 d1 d2 w0 w1 w2 hs0 hs1 hs2 hm0 hm1 hm2
  apply Int.le_of_not_gt
  intro hc
  have g := Int.mul_le_mul_of_nonneg_right (show m0 * t0 + m1 * t1 + m2 * t2 - (m0 * s0 + m1 * s1 + m2 * s2) ≤ -107374182400 by omega) (show 0 ≤ 1152921504606846976 + (x * x + y * y + z * z) by omega)
  rw [I] at g
  generalize x * (m1 * s2 - m2 * s1) = Y0 at *; generalize y * (m2 * s0 - m0 * s2) = Y1 at *; generalize z * (m0 * s1 - m1 * s0) = Y2 at *
  generalize (x * s0 + y * s1 + z * s2) * (x * m0 + y * m1 + z * m2) = Y3 at *
  generalize (x * x + y * y + z * z) * (m0 * s0 + m1 * s1 + m2 * s2) = Y4 at *
  generalize m0 * (t0 * (1152921504606846976 + (x * x + y * y + z * z)) - ((1152921504606846976 - (x * x + y * y + z * z)) * s0 + 2 * (x * s0 + y * s1 + z * s2) * x + 2147483648 * (s1 * z - s2 * y))) = V0 at *
  generalize m1 * (t1 * (1152921504606846976 + (x * x + y * y + z * z)) - ((1152921504606846976 - (x * x + y * y + z * z)) * s1 + 2 * (x * s0 + y * s1 + z * s2) * y + 2147483648 * (s2 * x - s0 * z))) = V1 at *
  generalize m2 * (t2 * (1152921504606846976 + (x * x + y * y + z * z)) - ((1152921504606846976 - (x * x + y * y + z * z)) * s2 + 2 * (x * s0 + y * s1 + z * s2) * z + 2147483648 * (s0 * y - s1 * x))) = V2 at *
  clear I hc
  omega
theorem sq_two (X D : Int) : 8 * ((X + D) * (X + D)) ≤ 9 * (X * X) + 72 * (D * D) := by
  have p := sq_nonneg (X - 8 * D)
  have e : 9 * (X * X) + 72 * (D * D) = 8 * ((X + D) * (X + D)) + (X - 8 * D) * (X - 8 * D) := by grind
  rw [e]; omega
theorem far_id (K x y z s0 s1 s2 : Int) : ((K * K - (x * x + y * y + z * z)) * s0 + 2 * (x * s0 + y * s1 + z * s2) * x + 2 * K * (s1 * z - s2 * y) - (K * K + (x * x + y * y + z * z)) * s0) * ((K * K - (x * x + y * y + z * z)) * s0 + 2 * (x * s0 + y * s1 + z * s2) * x + 2 * K * (s1 * z - s2 * y) - (K * K + (x * x + y * y + z * z)) * s0) + ((K * K - (x * x + y * y + z * z)) * s1 + 2 * (x * s0 + y * s1 + z * s2) * y + 2 * K * (s2 * x - s0 * z) - (K * K + (x * x + y * y + z * z)) * s1) * ((K * K - (x * x + y * y + z * z)) * s1 + 2 * (x * s0 + y * s1 + z * s2) * y + 2 * K * (s2 * x - s0 * z) - (K * K + (x * x + y * y + z * z)) * s1) + ((K * K - (x * x + y * y + z * z)) * s2 + 2 * (x * s0 + y * s1 + z * s2) * z + 2 * K * (s0 * y - s1 * x) - (K * K + (x * x + y * y + z * z)) * s2) * ((K * K - (x * x + y * y + z * z)) * s2 + 2 * (x * s0 + y * s1 + z * s2) * z + 2 * K * (s0 * y - s1 * x) - (K * K + (x * x + y * y + z * z)) * s2)
    = 4 * (K * K + (x * x + y * y + z * z)) * ((x * x + y * y + z * z) * (s0 * s0 + s1 * s1 + s2 * s2) - (x * s0 + y * s1 + z * s2) * (x * s0 + y * s1 + z * s2)) := by grind
theorem lagr (m0 m1 m2 s0 s1 s2 : Int) : (m1 * s2 - m2 * s1) * (m1 * s2 - m2 * s1) + (m2 * s0 - m0 * s2) * (m2 * s0 - m0 * s2) + (m0 * s1 - m1 * s0) * (m0 * s1 - m1 * s0) + (m0 * s0 + m1 * s1 + m2 * s2) * (m0 * s0 + m1 * s1 + m2 * s2) = (m0 * m0 + m1 * m1 + m2 * m2) * (s0 * s0 + s1 * s1 + s2 * s2) := by grind
theorem lean_C {x y z s0 s1 s2 m0 m1 m2 : Int} (hS : s0 * s0 + s1 * s1 + s2 * s2 ≤ 1302801300205736960) (hM : m0 * m0 + m1 * m1 + m2 * m2 ≤ 1164450719652915456)
    (w0 : -69256347648 ≤ 137438953472 * x - (m1 * s2 - m2 * s1) ∧ 137438953472 * x - (m1 * s2 - m2 * s1) ≤ 69256347648) (w1 : -69256347648 ≤ 137438953472 * y - (m2 * s0 - m0 * s2) ∧ 137438953472 * y - (m2 * s0 - m0 * s2) ≤ 69256347648) (w2 : -69256347648 ≤ 137438953472 * z - (m0 * s1 - m1 * s0) ∧ 137438953472 * z - (m0 * s1 - m1 * s0) ≤ 69256347648) : x * x + y * y + z * z ≤ 91479367430963 := by
  have L := lagr m0 m1 m2 s0 s1 s2
  have p := sq_nonneg (m0 * s0 + m1 * s1 + m2 * s2)
  have nS : 0 ≤ s0 * s0 + s1 * s1 + s2 * s2 := by have := sq_nonneg s0; have := sq_nonneg s1; have := sq_nonneg s2; omega
  have nM : 0 ≤ m0 * m0 + m1 * m1 + m2 * m2 := by have := sq_nonneg m0; have := sq_nonneg m1; have := sq_nonneg m2; omega
  have u := Int.mul_le_mul hM hS nS (by decide)
  generalize (m0 * m0 + m1 * m1 + m2 * m2) * (s0 * s0 + s1 * s1 + s2 * s2) = R at *
  generalize m1 * s2 - m2 * s1 = g0 at *; generalize m2 * s0 - m0 * s2 = g1 at *; generalize m0 * s1 - m1 * s0 = g2 at *
  obtain ⟨v0, h0⟩ : ∃ v, 137438953472 * x = g0 + v := ⟨137438953472 * x - g0, by omega⟩
  obtain ⟨v1, h1⟩ : ∃ v, 137438953472 * y = g1 + v := ⟨137438953472 * y - g1, by omega⟩
  obtain ⟨v2, h2⟩ : ∃ v, 137438953472 * z = g2 + v := ⟨137438953472 * z - g2, by omega⟩
  have b0 : -69256347648 ≤ v0 ∧ v0 ≤ 69256347648 := by omega
  have b1 : -69256347648 ≤ v1 ∧ v1 ≤ 69256347648 := by omega
  have b2 : -69256347648 ≤ v2 ∧ v2 ≤ 69256347648 := by omega
  have c0 := prod_in b0 b0; have c1 := prod_in b1 b1; have c2 := prod_in b2 b2
  have t0 := sq_two g0 v0; have t1 := sq_two g1 v1; have t2 := sq_two g2 v2
  rw [← h0, mmmc] at t0; rw [← h1, mmmc] at t1; rw [← h2, mmmc] at t2
  generalize (m0 * s0 + m1 * s1 + m2 * s2) * (m0 * s0 + m1 * s1 + m2 * s2) = P at *
  generalize x * x = xx at *; generalize y * y = yy at *; generalize z * z = zz at *
  omega
/-- how far what is shown goes -/
theorem up_far {x y z s0 s1 s2 m0 m1 m2 t0 t1 t2 : Int} (hS : s0 * s0 + s1 * s1 + s2 * s2 ≤ 1302801300205736960) (hM : m0 * m0 + m1 * m1 + m2 * m2 ≤ 1164450719652915456)
    (w0 : -69256347648 ≤ 137438953472 * x - (m1 * s2 - m2 * s1) ∧ 137438953472 * x - (m1 * s2 - m2 * s1) ≤ 69256347648) (w1 : -69256347648 ≤ 137438953472 * y - (m2 * s0 - m0 * s2) ∧ 137438953472 * y - (m2 * s0 - m0 * s2) ≤ 69256347648) (w2 : -69256347648 ≤ 137438953472 * z - (m0 * s1 - m1 * s0) ∧ 137438953472 * z - (m0 * s1 - m1 * s0) ≤ 69256347648)
    (d0 : -34587645138205409280 ≤ t0 * (1152921504606846976 + (x * x + y * y + z * z)) - ((1152921504606846976 - (x * x + y * y + z * z)) * s0 + 2 * (x * s0 + y * s1 + z * s2) * x + 2147483648 * (s1 * z - s2 * y)) ∧ t0 * (1152921504606846976 + (x * x + y * y + z * z)) - ((1152921504606846976 - (x * x + y * y + z * z)) * s0 + 2 * (x * s0 + y * s1 + z * s2) * x + 2147483648 * (s1 * z - s2 * y)) ≤ 34587645138205409280) (d1 : -34587645138205409280 ≤ t1 * (1152921504606846976 + (x * x + y * y + z * z)) - ((1152921504606846976 - (x * x + y * y + z * z)) * s1 + 2 * (x * s0 + y * s1 + z * s2) * y + 2147483648 * (s2 * x - s0 * z)) ∧ t1 * (1152921504606846976 + (x * x + y * y + z * z)) - ((1152921504606846976 - (x * x + y * y + z * z)) * s1 + 2 * (x * s0 + y * s1 + z * s2) * y + 2147483648 * (s2 * x - s0 * z)) ≤ 34587645138205409280) (d2 : -34587645138205409280 ≤ t2 * (1152921504606846976 + (x * x + y * y + z * z)) - ((1152921504606846976 - (x * x + y * y + z * z)) * s2 + 2 * (x * s0 + y * s1 + z * s2) * z + 2147483648 * (s0 * y - s1 * x)) ∧ t2 * (1152921504606846976 + (x * x + y * y + z * z)) - ((1152921504606846976 - (x * x + y * y + z * z)) * s2 + 2 * (x * s0 + y * s1 + z * s2) * z + 2147483648 * (s0 * y - s1 * x)) ≤ 34587645138205409280) :
    (t0 - s0) * (t0 - s0) + (t1 - s1) * (t1 - s1) + (t2 - s2) * (t2 - s2) ≤ 1125899906842624 := by
  have hC := lean_C hS hM w0 w1 w2
  have I := far_id 1073741824 x y z s0 s1 s2
  rw [show (1073741824 : Int) * 1073741824 = 1152921504606846976 by decide, show (2 : Int) * 1073741824 = 2147483648 by decide] at I
  have nx := sq_nonneg x; have ny := sq_nonneg y; have nz := sq_nonneg z
  have nS : 0 ≤ s0 * s0 + s1 * s1 + s2 * s2 := by have := sq_nonneg s0; have := sq_nonneg s1; have := sq_nonneg s2; omega
  have cs := Int.mul_le_mul hC hS nS (by decide)
  have pp := sq_nonneg (x * s0 + y * s1 + z * s2)
  clear w0 w1 w2 hM hS nS hC
  have D0 := prod_in d0 d0
  have T0 := sq_two (((1152921504606846976 - (x * x + y * y + z * z)) * s0 + 2 * (x * s0 + y * s1 + z * s2) * x + 2147483648 * (s1 * z - s2 * y)) - (1152921504606846976 + (x * x + y * y + z * z)) * s0) (t0 * (1152921504606846976 + (x * x + y * y + z * z)) - ((1152921504606846976 - (x * x + y * y + z * z)) * s0 + 2 * (x * s0 + y * s1 + z * s2) * x + 2147483648 * (s1 * z - s2 * y)))
  have e0 : (((1152921504606846976 - (x * x + y * y + z * z)) * s0 + 2 * (x * s0 + y * s1 + z * s2) * x + 2147483648 * (s1 * z - s2 * y)) - (1152921504606846976 + (x * x + y * y + z * z)) * s0) + (t0 * (1152921504606846976 + (x * x + y * y + z * z)) - ((1152921504606846976 - (x * x + y * y + z * z)) * s0 + 2 * (x * s0 + y * s1 + z * s2) * x + 2147483648 * (s1 * z - s2 * y))) = (t0 - s0) * (1152921504606846976 + (x * x + y * y + z * z)) := by
    generalize (1152921504606846976 - (x * x + y * y + z * z)) * s0 + 2 * (x * s0 + y * s1 + z * s2) * x + 2147483648 * (s1 * z - s2 * y) = bb
    rw [Int.sub_mul, Int.mul_comm (1152921504606846976 + (x * x + y * y + z * z)) s0]; omega
  rw [e0, mmmc] at T0
  have D1 := prod_in d1 d1
  have T1 := sq_two (((1152921504606846976 - (x * x + y * y + z * z)) * s1 + 2 * (x * s0 + y * s1 + z * s2) * y + 2147483648 * (s2 * x - s0 * z)) - (1152921504606846976 + (x * x + y * y + z * z)) * s1) (t1 * (1152921504606846976 + (x * x + y * y + z * z)) - ((1152921504606846976 - (x * x + y * y + z * z)) * s1 + 2 * (x * s0 + y * s1 + z * s2) * y + 2147483648 * (s2 * x - s0 * z)))
  have e1 : (((1152921504606846976 - (x * x + y * y + z * z)) * s1 + 2 * (x * s0 + y * s1 + z * s2) * y + 2147483648 * (s2 * x - s0 * z)) - (1152921504606846976 + (x * x + y * y + z * z)) * s1) + (t1 * (1152921504606846976 + (x * x + y * y + z * z)) - ((1152921504606846976 - (x * x + y * y + z * z)) * s1 + 2 * (x * s0 + y * s1 + z * s2) * y + 2147483648 * (s2 * x - s0 * z))) = (t1 - s1) * (1152921504606846976 + (x * x + y * y + z * z)) := by
    generalize (1152921504606846976 - (x * x + y * y + z * z)) * s1 + 2 * (x * s0 + y * s1 + z * s2) * y + 2147483648 * (s2 * x - s0 * z) = bb
    rw [Int.sub_mul, Int.mul_comm (1152921504606846976 + (x * x + y * y + z * z)) s1]; omega
  rw [e1, mmmc] at T1
  have D2 := prod_in d2 d2
  have T2 := sq_two (((1152921504606846976 - (x * x + y * y + z * z)) * s2 + 2 * (x * s0 + y * s1 + z * s2) * z + 2147483648 * (s0 * y - s1 * x)) - (1152921504606846976 + (x * x + y * y + z * z)) * s2) (t2 * (1152921504606846976 + (x * x + y * y + z * z)) - ((1152921504606846976 - (x * x + y * y + z * z)) * s2 + 2 * (x * s0 + y * s1 + z * s2) * z + 2147483648 * (s0 * y - s1 * x)))
  have e2 : (((1152921504606846976 - (x * x + y * y + z * z)) * s2 + 2 * (x * s0 + y * s1 + z * s2) * z + 2147483648 * (s0 * y - s1 * x)) - (1152921504606846976 + (x * x + y * y + z * z)) * s2) + (t2 * (1152921504606846976 + (x * x + y * y + z * z)) - ((1152921504606846976 - (x * x + y * y + z * z)) * s2 + 2 * (x * s0 + y * s1 + z * s2) * z + 2147483648 * (s0 * y - s1 * x))) = (t2 - s2) * (1152921504606846976 + (x * x + y * y + z * z)) := by
    generalize (1152921504606846976 - (x * x + y * y + z * z)) * s2 + 2 * (x * s0 + y * s1 + z * s2) * z + 2147483648 * (s0 * y - s1 * x) = bb
    rw [Int.sub_mul, Int.mul_comm (1152921504606846976 + (x * x + y * y + z * z)) s2]; omega
  rw [e2, mmmc] at T2
  generalize (((1152921504606846976 - (x * x + y * y + z * z)) * s0 + 2 * (x * s0 + y * s1 + z * s2) * x + 2147483648 * (s1 * z - s2 * y)) - (1152921504606846976 + (x * x + y * y + z * z)) * s0) * (((1152921504606846976 - (x * x + y * y + z * z)) * s0 + 2 * (x * s0 + y * s1 + z * s2) * x + 2147483648 * (s1 * z - s2 * y)) - (1152921504606846976 + (x * x + y * y + z * z)) * s0) = XX0 at *
  generalize (t0 * (1152921504606846976 + (x * x + y * y + z * z)) - ((1152921504606846976 - (x * x + y * y + z * z)) * s0 + 2 * (x * s0 + y * s1 + z * s2) * x + 2147483648 * (s1 * z - s2 * y))) * (t0 * (1152921504606846976 + (x * x + y * y + z * z)) - ((1152921504606846976 - (x * x + y * y + z * z)) * s0 + 2 * (x * s0 + y * s1 + z * s2) * x + 2147483648 * (s1 * z - s2 * y))) = DD0 at *
  generalize (((1152921504606846976 - (x * x + y * y + z * z)) * s1 + 2 * (x * s0 + y * s1 + z * s2) * y + 2147483648 * (s2 * x - s0 * z)) - (1152921504606846976 + (x * x + y * y + z * z)) * s1) * (((1152921504606846976 - (x * x + y * y + z * z)) * s1 + 2 * (x * s0 + y * s1 + z * s2) * y + 2147483648 * (s2 * x - s0 * z)) - (1152921504606846976 + (x * x + y * y + z * z)) * s1) = XX1 at *
  generalize (t1 * (1152921504606846976 + (x * x + y * y + z * z)) - ((1152921504606846976 - (x * x + y * y + z * z)) * s1 + 2 * (x * s0 + y * s1 + z * s2) * y + 2147483648 * (s2 * x - s0 * z))) * (t1 * (1152921504606846976 + (x * x + y * y + z * z)) - ((1152921504606846976 - (x * x + y * y + z * z)) * s1 + 2 * (x * s0 + y * s1 + z * s2) * y + 2147483648 * (s2 * x - s0 * z))) = DD1 at *
  generalize (((1152921504606846976 - (x * x + y * y + z * z)) * s2 + 2 * (x * s0 + y * s1 + z * s2) * z + 2147483648 * (s0 * y - s1 * x)) - (1152921504606846976 + (x * x + y * y + z * z)) * s2) * (((1152921504606846976 - (x * x + y * y + z * z)) * s2 + 2 * (x * s0 + y * s1 + z * s2) * z + 2147483648 * (s0 * y - s1 * x)) - (1152921504606846976 + (x * x + y * y + z * z)) * s2) = XX2 at *
  generalize (t2 * (1152921504606846976 + (x * x + y * y + z * z)) - ((1152921504606846976 - (x * x + y * y + z * z)) * s2 + 2 * (x * s0 + y * s1 + z * s2) * z + 2147483648 * (s0 * y - s1 * x))) * (t2 * (1152921504606846976 + (x * x + y * y + z * z)) - ((1152921504606846976 - (x * x + y * y + z * z)) * s2 + 2 * (x * s0 + y * s1 + z * s2) * z + 2147483648 * (s0 * y - s1 * x))) = DD2 at *
  clear e0 e1 e2 d0 d1 d2
  generalize (x * x + y * y + z * z) * (s0 * s0 + s1 * s1 + s2 * s2) = CS at *
  generalize (x * s0 + y * s1 + z * s2) * (x * s0 + y * s1 + z * s2) = PP at *
  obtain ⟨W, hW⟩ : ∃ W, W = 1152921504606846976 + (x * x + y * y + z * z) := ⟨_, rfl⟩
  rw [← hW] at I T0 T1 T2
  have hW1 : 1152921504606846976 ≤ W := by omega
  have i1 : 4 * W * (CS - PP) ≤ 4 * W * 119179438831056943609869337492480 := Int.mul_le_mul_of_nonneg_left (by omega) (by omega)
  have i2 : W * 1152921504606846976 ≤ W * W := Int.mul_le_mul_of_nonneg_left hW1 (by omega)
  generalize (t0 - s0) * (t0 - s0) = y0 at *; generalize (t1 - s1) * (t1 - s1) = y1 at *; generalize (t2 - s2) * (t2 - s2) = y2 at *
  apply Int.le_of_not_gt
  intro hc
  have i3 : 1125899906842624 * (W * W) ≤ (y0 + y1 + y2) * (W * W) := Int.mul_le_mul_of_nonneg_right (by omega) (by omega)
  rw [Int.add_mul, Int.add_mul] at i3
  generalize 4 * W * (CS - PP) = V at *
  generalize y0 * (W * W) = z0 at *; generalize y1 * (W * W) = z1 at *; generalize y2 * (W * W) = z2 at *
  generalize W * W = WW at *
  omega
theorem tau_sq (a b c d : Int) : tx a b c d * tx a b c d + ty a b c d * ty a b c d + tz a b c d * tz a b c d = (a * a + b * b + c * c + d * d) * (a * a + b * b + c * c + d * d) := by unfold tx ty tz; grind
/-- how long what is shown is -/
theorem sh_sq {a b c d : Int} (h : okO a b c d = true) : sh0 a b c d * sh0 a b c d + sh1 a b c d * sh1 a b c d + sh2 a b c d * sh2 a b c d ≤ 1302801300205736960 := by
  have hO := okO_iff.1 h
  obtain ⟨F, hF⟩ : ∃ F, F = a * a + b * b + c * c + d * d := ⟨_, rfl⟩
  have hf4 : ((sq4 a b c d : Nat) : Int) = F := by rw [hF, sq4_int]
  obtain ⟨ss0, ss1, ss2⟩ := sh_tau a b c d
  rw [hf4] at ss0 ss1 ss2
  have F0 : 0 < F := by omega
  have R0 := near_rest (1073741824 * tx a b c d) F0
  have R1 := near_rest (1073741824 * ty a b c d) F0
  have R2 := near_rest (1073741824 * tz a b c d) F0
  rw [← ss0] at R0; rw [← ss1] at R1; rw [← ss2] at R2
  have T := tau_sq a b c d
  rw [← hF] at T
  clear ss0 ss1 ss2 hf4 hO hF h
  generalize sh0 a b c d = s0 at *; generalize sh1 a b c d = s1 at *; generalize sh2 a b c d = s2 at *
  generalize tx a b c d = X0 at *; generalize ty a b c d = X1 at *; generalize tz a b c d = X2 at *
  have k0 := prod_in R0 R0
  have q0 := sq_two (2147483648 * X0) (-(2 * (1073741824 * X0) - 2 * (F * s0)))
  have e0 : 2147483648 * X0 + -(2 * (1073741824 * X0) - 2 * (F * s0)) = F * (2 * s0) := by
    have : F * (2 * s0) = 2 * (F * s0) := by grind
    rw [this]; omega
  rw [e0, mmmc F (2 * s0), mmmc 2147483648 X0, Int.neg_mul_neg] at q0
  have j0 : 2 * s0 * (2 * s0) = 4 * (s0 * s0) := by grind
  rw [j0] at q0
  generalize (2 * (1073741824 * X0) - 2 * (F * s0)) * (2 * (1073741824 * X0) - 2 * (F * s0)) = u0 at *
  have g0 : F * F * (4 * (s0 * s0)) = 4 * (F * F * (s0 * s0)) := by grind
  rw [g0] at q0
  have k1 := prod_in R1 R1
  have q1 := sq_two (2147483648 * X1) (-(2 * (1073741824 * X1) - 2 * (F * s1)))
  have e1 : 2147483648 * X1 + -(2 * (1073741824 * X1) - 2 * (F * s1)) = F * (2 * s1) := by
    have : F * (2 * s1) = 2 * (F * s1) := by grind
    rw [this]; omega
  rw [e1, mmmc F (2 * s1), mmmc 2147483648 X1, Int.neg_mul_neg] at q1
  have j1 : 2 * s1 * (2 * s1) = 4 * (s1 * s1) := by grind
  rw [j1] at q1
  generalize (2 * (1073741824 * X1) - 2 * (F * s1)) * (2 * (1073741824 * X1) - 2 * (F * s1)) = u1 at *
  have g1 : F * F * (4 * (s1 * s1)) = 4 * (F * F * (s1 * s1)) := by grind
  rw [g1] at q1
  have k2 := prod_in R2 R2
  have q2 := sq_two (2147483648 * X2) (-(2 * (1073741824 * X2) - 2 * (F * s2)))
  have e2 : 2147483648 * X2 + -(2 * (1073741824 * X2) - 2 * (F * s2)) = F * (2 * s2) := by
    have : F * (2 * s2) = 2 * (F * s2) := by grind
    rw [this]; omega
  rw [e2, mmmc F (2 * s2), mmmc 2147483648 X2, Int.neg_mul_neg] at q2
  have j2 : 2 * s2 * (2 * s2) = 4 * (s2 * s2) := by grind
  rw [j2] at q2
  generalize (2 * (1073741824 * X2) - 2 * (F * s2)) * (2 * (1073741824 * X2) - 2 * (F * s2)) = u2 at *
  have g2 : F * F * (4 * (s2 * s2)) = 4 * (F * F * (s2 * s2)) := by grind
  rw [g2] at q2
  have p : 0 < F * F := Int.mul_pos F0 F0
  clear e0 e1 e2 R0 R1 R2 j0 j1 j2 g0 g1 g2
  apply Int.le_of_not_gt
  intro hc
  have i3 := Int.mul_le_mul_of_nonneg_left (show 1302801300205736960 + 1 ≤ s0 * s0 + s1 * s1 + s2 * s2 by omega) (show 0 ≤ F * F by omega)
  have i4 : F * F * (s0 * s0 + s1 * s1 + s2 * s2) = F * F * (s0 * s0) + F * F * (s1 * s1) + F * F * (s2 * s2) := by rw [Int.mul_add, Int.mul_add]
  rw [i4] at i3
  clear i4
  generalize s0 * s0 = S0 at *; generalize s1 * s1 = S1 at *; generalize s2 * s2 = S2 at *
  generalize X0 * X0 = Z0 at *; generalize X1 * X1 = Z1 at *; generalize X2 * X2 = Z2 at *
  generalize F * F * S0 = A0 at *; generalize F * F * S1 = A1 at *; generalize F * F * S2 = A2 at *
  generalize F * F = FF at *
  omega
theorem rootQ_nought {n : Nat} : RootQ (0 * 1152921504606846976) n 0 := by
  unfold RootQ
  refine ⟨by omega, .inl rfl, fun _ => by decide, fun h => absurd rfl h⟩
/-- how long a unit is -/
theorem unitv_sq {a b c u0 u1 u2 : Int} (h : ¬ (a = 0 ∧ b = 0 ∧ c = 0)) (hu : UnitV a b c u0 u1 u2) : 1152921504606846976 - 2147483657 ≤ u0 * u0 + u1 * u1 + u2 * u2 ∧ u0 * u0 + u1 * u1 + u2 * u2 ≤ 1152921504606846976 + 2147483656 := by
  obtain ⟨k0, k1, k2, h0, h1, h2, e0, e1, e2⟩ := hu
  have n0 := sq3_zero a b c h
  have s := unit_sum (sq3 a b c) (a.natAbs * a.natAbs) (b.natAbs * b.natAbs) (c.natAbs * c.natAbs) 0 k0 k1 k2 0 n0 (by unfold sq3; omega) h0 h1 h2 rootQ_nought
  have f0 := sgd_sq a k0
  have f1 := sgd_sq b k1
  have f2 := sgd_sq c k2
  rw [← e0] at f0; rw [← e1] at f1; rw [← e2] at f2
  rw [f0, f1, f2]; omega
/-- a unit, as long as gravity -/
theorem grav_sq {u0 u1 u2 : Int} (h : 1152921504606846976 - 2147483657 ≤ u0 * u0 + u1 * u1 + u2 * u2 ∧ u0 * u0 + u1 * u1 + u2 * u2 ≤ 1152921504606846976 + 2147483656) (b0 : -1073741824 ≤ u0 ∧ u0 ≤ 1073741824) (b1 : -1073741824 ≤ u1 ∧ u1 ≤ 1073741824) (b2 : -1073741824 ≤ u2 ∧ u2 ≤ 1073741824) :
    96170344995900 ≤ nearQ (u0 * 9806650) * nearQ (u0 * 9806650) + nearQ (u1 * 9806650) * nearQ (u1 * 9806650) + nearQ (u2 * 9806650) * nearQ (u2 * 9806650) ∧ nearQ (u0 * 9806650) * nearQ (u0 * 9806650) + nearQ (u1 * 9806650) * nearQ (u1 * 9806650) + nearQ (u2 * 9806650) * nearQ (u2 * 9806650) ≤ 96170423449100 := by
  have f0 := near_off (u0 * 9806650)
  generalize nearQ (u0 * 9806650) = g0 at *
  obtain ⟨e0, h0⟩ : ∃ e, 1073741824 * g0 = u0 * 9806650 + e := ⟨1073741824 * g0 - u0 * 9806650, by omega⟩
  have c0 : -536870912 ≤ e0 ∧ e0 ≤ 536870912 := by omega
  have d0 := prod_in b0 c0
  have k0 := prod_in c0 c0
  have z0 := sq_nonneg e0
  have q0 : 1152921504606846976 * (g0 * g0) = 96170384222500 * (u0 * u0) + 19613300 * (u0 * e0) + e0 * e0 := by
    have a : (1073741824 * g0) * (1073741824 * g0) = 1152921504606846976 * (g0 * g0) := by rw [mmmc]; generalize g0 * g0 = R; omega
    rw [← a, h0]
    have : ∀ K : Int, (u0 * K + e0) * (u0 * K + e0) = K * K * (u0 * u0) + 2 * K * (u0 * e0) + e0 * e0 := fun K => by grind
    rw [this]; generalize u0 * u0 = R; generalize u0 * e0 = R'; omega
  clear f0 h0
  have f1 := near_off (u1 * 9806650)
  generalize nearQ (u1 * 9806650) = g1 at *
  obtain ⟨e1, h1⟩ : ∃ e, 1073741824 * g1 = u1 * 9806650 + e := ⟨1073741824 * g1 - u1 * 9806650, by omega⟩
  have c1 : -536870912 ≤ e1 ∧ e1 ≤ 536870912 := by omega
  have d1 := prod_in b1 c1
  have k1 := prod_in c1 c1
  have z1 := sq_nonneg e1
  have q1 : 1152921504606846976 * (g1 * g1) = 96170384222500 * (u1 * u1) + 19613300 * (u1 * e1) + e1 * e1 := by
    have a : (1073741824 * g1) * (1073741824 * g1) = 1152921504606846976 * (g1 * g1) := by rw [mmmc]; generalize g1 * g1 = R; omega
    rw [← a, h1]
    have : ∀ K : Int, (u1 * K + e1) * (u1 * K + e1) = K * K * (u1 * u1) + 2 * K * (u1 * e1) + e1 * e1 := fun K => by grind
    rw [this]; generalize u1 * u1 = R; generalize u1 * e1 = R'; omega
  clear f1 h1
  have f2 := near_off (u2 * 9806650)
  generalize nearQ (u2 * 9806650) = g2 at *
  obtain ⟨e2, h2⟩ : ∃ e, 1073741824 * g2 = u2 * 9806650 + e := ⟨1073741824 * g2 - u2 * 9806650, by omega⟩
  have c2 : -536870912 ≤ e2 ∧ e2 ≤ 536870912 := by omega
  have d2 := prod_in b2 c2
  have k2 := prod_in c2 c2
  have z2 := sq_nonneg e2
  have q2 : 1152921504606846976 * (g2 * g2) = 96170384222500 * (u2 * u2) + 19613300 * (u2 * e2) + e2 * e2 := by
    have a : (1073741824 * g2) * (1073741824 * g2) = 1152921504606846976 * (g2 * g2) := by rw [mmmc]; generalize g2 * g2 = R; omega
    rw [← a, h2]
    have : ∀ K : Int, (u2 * K + e2) * (u2 * K + e2) = K * K * (u2 * u2) + 2 * K * (u2 * e2) + e2 * e2 := fun K => by grind
    rw [this]; generalize u2 * u2 = R; generalize u2 * e2 = R'; omega
  clear f2 h2
  generalize g0 * g0 = G0 at *; generalize g1 * g1 = G1 at *; generalize g2 * g2 = G2 at *
  generalize u0 * u0 = U0 at *; generalize u1 * u1 = U1 at *; generalize u2 * u2 = U2 at *
  generalize u0 * e0 = V0 at *; generalize u1 * e1 = V1 at *; generalize u2 * e2 = V2 at *
  generalize e0 * e0 = W0 at *; generalize e1 * e1 = W1 at *; generalize e2 * e2 = W2 at *
  constructor <;> omega
theorem gat_yes {n k : Nat} (h1 : 96170344995900 ≤ n) (h2 : n ≤ 96170423449100) (hk : RootQ n 1 k) : gat k = true := by
  obtain ⟨a, b, _, _⟩ := hk
  rw [gat_iff]
  constructor
  · apply Int.le_of_not_gt
    intro hc
    have g := Nat.mul_le_mul (show 2 * k + 1 ≤ 17161637 by omega) (show 2 * k + 1 ≤ 17161637 by omega)
    omega
  · apply Int.le_of_not_gt
    intro hc
    rcases b with b | b
    · omega
    · have g := Nat.mul_le_mul (show 22064963 ≤ 2 * k - 1 by omega) (show 22064963 ≤ 2 * k - 1 by omega)
      omega
theorem gat_no {n k : Nat} (h1 : 384681379983600 ≤ n) (hk : RootQ n 1 k) : gat k = false := by
  obtain ⟨a, b, _, _⟩ := hk
  rw [Bool.eq_false_iff]
  intro hc
  have hc := gat_iff.1 hc
  have g := Nat.mul_le_mul (show 2 * k + 1 ≤ 22064963 by omega) (show 2 * k + 1 ≤ 22064963 by omega)
  omega
theorem nearQ_two (g : Int) : nearQ (g * 2147483648) = 2 * g := by
  refine (nearQ_IsNear _).unique (by decide) ?_
  unfold IsNear
  omega
end Go.Proofs.Ytmbdcgijjpcppaa
