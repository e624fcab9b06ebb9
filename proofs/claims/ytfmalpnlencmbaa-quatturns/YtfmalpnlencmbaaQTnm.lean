/- QuatTurns: its numbers. -/
import Derived.Test.YtfmalpnlencmbaaCCm
import Derived.Test.YtfmalpnlencmbaaB4m
import Derived.Test.YtfmalpnlencmbaaV7m
import Derived.Test.YtfmalpnlencmbaaMg20
import Derived.Test.YtfmalpnlencmbaaQ8m
namespace Go.Proofs.Ytfmalpnlencmbaa
open Go.RowKit Go.Shelf
theorem okW_abs {v : Int} (h : v.natAbs < 35184372088832) : okW v = true := by unfold okW; simp; omega
theorem near_le_of {p m : Int} {n : Nat} (hn : 0 < n) (hp : p * p ≤ (n : Int) * n * (m * m)) (hm : 0 ≤ m) : -m ≤ nearI p n ∧ nearI p n ≤ m := by
  have h1 : 0 ≤ (n : Int) * m := Int.mul_nonneg (by omega) hm
  have h2 := abs_of_sq (p := p) (m := (n : Int) * m) h1 (by
    have e : (n : Int) * m * ((n : Int) * m) = (n : Int) * n * (m * m) := by grind
    omega)
  have hk := nearI_spec p n (by omega)
  generalize nearI p n = k at *
  have k1 := hk.1; have k2 := hk.2.1
  constructor
  · apply Classical.byContradiction; intro hc
    have := Int.mul_le_mul_of_nonneg_right (a := k) (b := -m - 1) (c := (n : Int)) (by omega) (by omega)
    have e : (-m - 1) * (n : Int) = -((n : Int) * m) - n := by grind
    omega
  · apply Classical.byContradiction; intro hc
    have := Int.mul_le_mul_of_nonneg_right (a := m + 1) (b := k) (c := (n : Int)) (by omega) (by omega)
    have e : (m + 1) * (n : Int) = (n : Int) * m + n := by grind
    omega
/-- a vector that is turned by a quaternion of words that is not 0 -/
theorem turn_told (a b c d u v s M : Int) (h : ok4 a b c d = true) (hq : 0 < sq4 a b c d) (hM : 0 ≤ M) (hM2 : 2 * M < 35184372088832) (hu : -M ≤ u ∧ u ≤ M) (hv : -M ≤ v ∧ v ≤ M) (hs : -M ≤ s ∧ s ≤ M) : ∃ X0 X1 X2 : Int,
    (∀ w', Calls Try.prog 14 #[.agg #[.int .i64 a, .int .i64 b, .int .i64 c, .int .i64 d], .agg #[.int .i64 u, .int .i64 v, .int .i64 s]] w' fun e w'' => e = .returned (.tuple #[.agg #[.int .i64 X0, .int .i64 X1, .int .i64 X2], .int .i64 0]) ∧ Ext w' w'') ∧
    turnR a b c d u v s = .tuple #[.agg #[.int .i64 X0, .int .i64 X1, .int .i64 X2], .int .i64 0] ∧
    IsNear (tnx a b c d u v s) (a * a + b * b + c * c + d * d) X0 ∧ IsNear (tny a b c d u v s) (a * a + b * b + c * c + d * d) X1 ∧ IsNear (tnz a b c d u v s) (a * a + b * b + c * c + d * d) X2 ∧
    (-(2 * M) ≤ X0 ∧ X0 ≤ 2 * M) ∧ (-(2 * M) ≤ X1 ∧ X1 ≤ 2 * M) ∧ (-(2 * M) ≤ X2 ∧ X2 ≤ 2 * M) := by
  have gu := sq_le_of hu hM; have gv := sq_le_of hv hM; have gs := sq_le_of hs hM
  have tl := tn_le a b c d u v s
  rw [sq4_int] at tl
  have e4 : 2 * M * (2 * M) = 4 * (M * M) := by grind
  have mm := sq_nonneg M
  have nn : 0 ≤ ((sq4 a b c d : Nat) : Int) * ((sq4 a b c d : Nat) : Int) := sq_nonneg _
  have le : ((sq4 a b c d : Nat) : Int) * ((sq4 a b c d : Nat) : Int) * (u * u + v * v + s * s) ≤ ((sq4 a b c d : Nat) : Int) * ((sq4 a b c d : Nat) : Int) * (2 * M * (2 * M)) := Int.mul_le_mul_of_nonneg_left (by omega) nn
  have b0 := near_le_of (m := 2 * M) hq (Int.le_trans tl.1 le) (by omega)
  have b1 := near_le_of (m := 2 * M) hq (Int.le_trans tl.2.1 le) (by omega)
  have b2 := near_le_of (m := 2 * M) hq (Int.le_trans tl.2.2 le) (by omega)
  have hz : ¬ (a = 0 ∧ b = 0 ∧ c = 0 ∧ d = 0) := by
    rintro ⟨rfl, rfl, rfl, rfl⟩
    revert hq; decide
  have o3 : ok3 u v s = true := by unfold ok3; rw [okW_abs (v := u) (by omega), okW_abs (v := v) (by omega), okW_abs (v := s) (by omega)]; rfl
  have eR : turnR a b c d u v s = .tuple #[.agg #[.int .i64 (nearI (tnx a b c d u v s) (sq4 a b c d)), .int .i64 (nearI (tny a b c d u v s) (sq4 a b c d)), .int .i64 (nearI (tnz a b c d u v s) (sq4 a b c d))], .int .i64 0] := by
    unfold turnR
    rw [h, o3, if_pos (show (true && true) = true from rfl), if_neg hz]
    unfold vres ok3
    rw [okW_abs (v := nearI (tnx a b c d u v s) (sq4 a b c d)) (by omega), okW_abs (v := nearI (tny a b c d u v s) (sq4 a b c d)) (by omega), okW_abs (v := nearI (tnz a b c d u v s) (sq4 a b c d)) (by omega)]
    rfl
  refine ⟨_, _, _, fun w' => ?_, eR, ?_, ?_, ?_, b0, b1, b2⟩
  · have := qTurn_any a b c d u v s w'
    rw [eR] at this
    exact this
  · rw [sq4_int]; exact nearI_spec _ _ (by omega)
  · rw [sq4_int]; exact nearI_spec _ _ (by omega)
  · rw [sq4_int]; exact nearI_spec _ _ (by omega)

theorem tn_back (a b c d x y z : Int) : tnx a (-b) (-c) (-d) (tnx a b c d x y z) (tny a b c d x y z) (tnz a b c d x y z) = (a * a + b * b + c * c + d * d) * (a * a + b * b + c * c + d * d) * x ∧ tny a (-b) (-c) (-d) (tnx a b c d x y z) (tny a b c d x y z) (tnz a b c d x y z) = (a * a + b * b + c * c + d * d) * (a * a + b * b + c * c + d * d) * y ∧ tnz a (-b) (-c) (-d) (tnx a b c d x y z) (tny a b c d x y z) (tnz a b c d x y z) = (a * a + b * b + c * c + d * d) * (a * a + b * b + c * c + d * d) * z := by
  rw [tnx_comp, tny_comp, tnz_comp]
  have e0 : qw a (-b) (-c) (-d) a b c d = a * a + b * b + c * c + d * d := by unfold qw; grind
  have e1 : qx a (-b) (-c) (-d) a b c d = 0 := by unfold qx; grind
  have e2 : qy a (-b) (-c) (-d) a b c d = 0 := by unfold qy; grind
  have e3 : qz a (-b) (-c) (-d) a b c d = 0 := by unfold qz; grind
  rw [e0, e1, e2, e3, tnx_eq, tny_eq, tnz_eq]
  generalize a * a + b * b + c * c + d * d = N
  refine ⟨?_, ?_, ?_⟩ <;> grind
theorem tn_dot (a b c d x y z u v s : Int) : tnx a b c d x y z * tnx a b c d u v s + tny a b c d x y z * tny a b c d u v s + tnz a b c d x y z * tnz a b c d u v s = (a * a + b * b + c * c + d * d) * (a * a + b * b + c * c + d * d) * (x * u + y * v + z * s) := by
  have h1 := tn_sq a b c d (x + u) (y + v) (z + s)
  have h2 := tn_sq a b c d x y z
  have h3 := tn_sq a b c d u v s
  have l0 : tnx a b c d (x + u) (y + v) (z + s) = tnx a b c d x y z + tnx a b c d u v s := by rw [tnx_eq, tnx_eq, tnx_eq]; grind
  have l1 : tny a b c d (x + u) (y + v) (z + s) = tny a b c d x y z + tny a b c d u v s := by rw [tny_eq, tny_eq, tny_eq]; grind
  have l2 : tnz a b c d (x + u) (y + v) (z + s) = tnz a b c d x y z + tnz a b c d u v s := by rw [tnz_eq, tnz_eq, tnz_eq]; grind
  rw [l0, l1, l2] at h1
  generalize tnx a b c d x y z = p0 at *
  generalize tny a b c d x y z = p1 at *
  generalize tnz a b c d x y z = p2 at *
  generalize tnx a b c d u v s = r0 at *
  generalize tny a b c d u v s = r1 at *
  generalize tnz a b c d u v s = r2 at *
  generalize a * a + b * b + c * c + d * d = N at *
  grind
/-- turned and back -/
theorem back_close {N v Y p TX : Int} (hN : 0 < N) (e : TX * N = N * N * v + p) (hY : -N ≤ 2 * (TX - Y * N) ∧ 2 * (TX - Y * N) ≤ N) (hp : -(7 * (N * N)) ≤ 8 * p ∧ 8 * p ≤ 7 * (N * N)) : Y - v ≤ 1 ∧ v - Y ≤ 1 := by
  have M : 0 < N * N := Int.mul_pos hN hN
  have y1 := Int.mul_le_mul_of_nonneg_right hY.1 (Int.le_of_lt hN)
  have y2 := Int.mul_le_mul_of_nonneg_right hY.2 (Int.le_of_lt hN)
  have e1 : 2 * (TX - Y * N) * N = 2 * (N * N * (v - Y)) + 2 * p := by grind
  have e2 : -N * N = -(N * N) := by grind
  rw [e1] at y1 y2
  rw [e2] at y1
  generalize N * N = W at *
  constructor
  · apply Classical.byContradiction; intro hc
    have := Int.mul_le_mul_of_nonneg_left (a := v - Y) (b := -2) (c := W) (by omega) (by omega)
    omega
  · apply Classical.byContradiction; intro hc
    have := Int.mul_le_mul_of_nonneg_left (a := 2) (b := v - Y) (c := W) (by omega) (by omega)
    omega
/-- the norms of what is close -/
theorem norm_step {N A B dp G : Int} {k l : Nat} (hN : 0 < N) (hG : 0 ≤ G) (e : N * N * B = N * N * A + 2 * dp + G) (hd : dp * dp ≤ N * N * A * G) (hk : 4 * A ≤ (2 * (k : Int) + 1) * (2 * k + 1)) (h3 : 4 * G ≤ 3 * (N * N)) (hl : l = 0 ∨ (2 * (l : Int) - 1) * (2 * l - 1) ≤ 4 * B) : l ≤ k + 1 := by
  have M : 0 < N * N := Int.mul_pos hN hN
  generalize hW : N * N = W at *
  obtain ⟨q, hq⟩ : ∃ q : Int, q = 2 * (k : Int) + 1 := ⟨_, rfl⟩
  rw [← hq] at hk
  have hq0 : 0 ≤ q := by omega
  have s1 : W * (4 * A) * (4 * G) ≤ W * (q * q) * (3 * W) := by
    have a1 := Int.mul_le_mul_of_nonneg_left hk (Int.le_of_lt M)
    have a2 : 0 ≤ W * (q * q) := Int.mul_nonneg (Int.le_of_lt M) (sq_nonneg q)
    have a3 := Int.mul_le_mul_of_nonneg_right a1 (show 0 ≤ 4 * G by omega)
    have a4 := Int.mul_le_mul_of_nonneg_left h3 a2
    omega
  have s2 : 4 * dp * (4 * dp) ≤ 2 * (W * q) * (2 * (W * q)) := by
    have c1 : 4 * dp * (4 * dp) = 16 * (dp * dp) := by grind
    have c2 : W * (4 * A) * (4 * G) = 16 * (W * A * G) := by grind
    have c3 : W * (q * q) * (3 * W) = 3 * (W * q * (W * q)) := by grind
    have c4 : 2 * (W * q) * (2 * (W * q)) = 4 * (W * q * (W * q)) := by grind
    have c5 := sq_nonneg (W * q)
    omega
  have s3 := (abs_of_sq (p := 4 * dp) (m := 2 * (W * q)) (by have := Int.mul_nonneg (Int.le_of_lt M) hq0; omega) s2).2
  apply Classical.byContradiction
  intro hc
  rcases hl with hl | hl
  · omega
  · have t1 : (q + 2) * (q + 2) ≤ 4 * B := by
      have u1 := Int.mul_le_mul_of_nonneg_right (a := q + 2) (b := 2 * (l : Int) - 1) (c := q + 2) (by omega) (by omega)
      have u2 := Int.mul_le_mul_of_nonneg_left (a := q + 2) (b := 2 * (l : Int) - 1) (c := 2 * (l : Int) - 1) (by omega) (by omega)
      omega
    have t2 := Int.mul_le_mul_of_nonneg_left t1 (Int.le_of_lt M)
    have t3 := Int.mul_le_mul_of_nonneg_left hk (Int.le_of_lt M)
    have f1 : W * ((q + 2) * (q + 2)) = W * (q * q) + 4 * (W * q) + 4 * W := by grind
    have f2 : W * (4 * B) = 4 * (W * B) := by grind
    have f3 : W * (4 * A) = 4 * (W * A) := by grind
    omega
theorem cauchy3 (p q r x y z : Int) : (p * x + q * y + r * z) * (p * x + q * y + r * z) ≤ (p * p + q * q + r * r) * (x * x + y * y + z * z) := by
  have h1 := sq_nonneg (p * y - q * x)
  have h2 := sq_nonneg (p * z - r * x)
  have h3 := sq_nonneg (q * z - r * y)
  have e : (p * p + q * q + r * r) * (x * x + y * y + z * z) = (p * x + q * y + r * z) * (p * x + q * y + r * z) + (p * y - q * x) * (p * y - q * x) + (p * z - r * x) * (p * z - r * x) + (q * z - r * y) * (q * z - r * y) := by grind
  omega
theorem half_sq {N g : Int} (h : -N ≤ 2 * g ∧ 2 * g ≤ N) : 4 * (g * g) ≤ N * N := by
  have m := mul_abs (m := 2 * g) h.1 h.2
  have e : 2 * g * (2 * g) = 4 * (g * g) := by grind
  have l : ((2 * g).natAbs : Int) ≤ N := by omega
  have l2 := Int.mul_le_mul_of_nonneg_right (c := N) l (by omega)
  omega
theorem sq3_int (x y z : Int) : ((sq3 x y z : Nat) : Int) = x * x + y * y + z * z := by
  rw [← sq3_dot]; unfold dot3; rfl
theorem root_lo {S m : Nat} (h : RootQ S 1 m) : m = 0 ∨ (2 * (m : Int) - 1) * (2 * m - 1) ≤ 4 * (S : Int) := by
  rcases h.2.1 with h | h
  · exact .inl h
  · by_cases h0 : m = 0
    · exact .inl h0
    · refine .inr ?_
      have e : ((2 * m - 1 : Nat) : Int) = 2 * (m : Int) - 1 := by omega
      rw [← e]
      rw [Nat.mul_one] at h
      exact_mod_cast h
theorem root_hi {S m : Nat} (h : RootQ S 1 m) : 4 * (S : Int) ≤ (2 * (m : Int) + 1) * (2 * m + 1) := by
  have := h.1
  rw [Nat.mul_one] at this
  exact_mod_cast this
/-- what a turn does to norms: both ways -/
theorem norms_close {N v0 v1 v2 X0 X1 X2 t0 t1 t2 : Int} {m n : Nat} (hN : 0 < N) (ht : t0 * t0 + t1 * t1 + t2 * t2 = N * N * (v0 * v0 + v1 * v1 + v2 * v2)) (g0 : -N ≤ 2 * (X0 * N - t0) ∧ 2 * (X0 * N - t0) ≤ N) (g1 : -N ≤ 2 * (X1 * N - t1) ∧ 2 * (X1 * N - t1) ≤ N) (g2 : -N ≤ 2 * (X2 * N - t2) ∧ 2 * (X2 * N - t2) ≤ N) (hm : RootQ (sq3 v0 v1 v2) 1 m) (hn : RootQ (sq3 X0 X1 X2) 1 n) : (m : Int) - n ≤ 1 ∧ (n : Int) - m ≤ 1 := by
  have s0 := half_sq g0; have s1 := half_sq g1; have s2 := half_sq g2
  have lm := root_lo hm; have ln := root_lo hn; have um := root_hi hm; have un := root_hi hn
  rw [sq3_int] at lm ln um un
  obtain ⟨h0, e0⟩ : ∃ h0, X0 * N - t0 = h0 := ⟨_, rfl⟩
  obtain ⟨h1, e1⟩ : ∃ h1, X1 * N - t1 = h1 := ⟨_, rfl⟩
  obtain ⟨h2, e2⟩ : ∃ h2, X2 * N - t2 = h2 := ⟨_, rfl⟩
  rw [e0] at s0 g0
  rw [e1] at s1 g1
  rw [e2] at s2 g2
  have G0 : 0 ≤ h0 * h0 + h1 * h1 + h2 * h2 := by have := sq_nonneg h0; have := sq_nonneg h1; have := sq_nonneg h2; omega
  have f0 : t0 = X0 * N - h0 := by omega
  have f1 : t1 = X1 * N - h1 := by omega
  have f2 : t2 = X2 * N - h2 := by omega
  have c1 := cauchy3 t0 t1 t2 h0 h1 h2
  rw [ht] at c1
  have c2 := cauchy3 X0 X1 X2 h0 h1 h2
  have E1 : N * N * (X0 * X0 + X1 * X1 + X2 * X2) = N * N * (v0 * v0 + v1 * v1 + v2 * v2) + 2 * (t0 * h0 + t1 * h1 + t2 * h2) + (h0 * h0 + h1 * h1 + h2 * h2) := by
    rw [← ht, f0, f1, f2]; grind
  have E2 : N * N * (v0 * v0 + v1 * v1 + v2 * v2) = N * N * (X0 * X0 + X1 * X1 + X2 * X2) + 2 * (-(N * (X0 * h0 + X1 * h1 + X2 * h2))) + (h0 * h0 + h1 * h1 + h2 * h2) := by
    rw [← ht, f0, f1, f2]; grind
  have D2 : -(N * (X0 * h0 + X1 * h1 + X2 * h2)) * -(N * (X0 * h0 + X1 * h1 + X2 * h2)) ≤ N * N * (X0 * X0 + X1 * X1 + X2 * X2) * (h0 * h0 + h1 * h1 + h2 * h2) := by
    have p := Int.mul_le_mul_of_nonneg_left c2 (sq_nonneg N)
    generalize X0 * h0 + X1 * h1 + X2 * h2 = q at *
    generalize X0 * X0 + X1 * X1 + X2 * X2 = R at *
    generalize h0 * h0 + h1 * h1 + h2 * h2 = G at *
    have q1 : -(N * q) * -(N * q) = N * N * (q * q) := by grind
    have q2 : N * N * (R * G) = N * N * R * G := by grind
    omega
  have r1 := norm_step hN G0 E1 c1 um (by omega) ln
  have r2 := norm_step hN G0 E2 D2 un (by omega) lm
  omega
theorem mul_bounds_abs {a A b B : Int} (hA : 0 ≤ A) (hB : 0 ≤ B) (ha : -A ≤ a ∧ a ≤ A) (hb : -B ≤ b ∧ b ≤ B) : -(A * B) ≤ a * b ∧ a * b ≤ A * B := by
  have l : (a * b).natAbs ≤ A.natAbs * B.natAbs := by rw [Int.natAbs_mul]; exact Nat.mul_le_mul (by omega) (by omega)
  have e : ((A.natAbs * B.natAbs : Nat) : Int) = A * B := by rw [Int.natCast_mul, Int.natAbs_of_nonneg hA, Int.natAbs_of_nonneg hB]
  omega
theorem sum3_le {a b c B : Int} (h0 : 2 * a ≤ B) (h1 : 2 * b ≤ B) (h2 : 2 * c ≤ B) : 2 * (a + b + c) ≤ 3 * B := by omega
theorem sum3_ge {a b c B : Int} (h0 : -B ≤ 2 * a) (h1 : -B ≤ 2 * b) (h2 : -B ≤ 2 * c) : -(3 * B) ≤ 2 * (a + b + c) := by omega
theorem sum3_le4 {a b c B : Int} (h0 : 4 * a ≤ B) (h1 : 4 * b ≤ B) (h2 : 4 * c ≤ B) : 4 * (a + b + c) ≤ 3 * B := by omega
theorem sum3_ge4 {a b c B : Int} (h0 : -B ≤ 4 * a) (h1 : -B ≤ 4 * b) (h2 : -B ≤ 4 * c) : -(3 * B) ≤ 4 * (a + b + c) := by omega
theorem tot_le {x W V P Q S : Int} (hW : 0 < W) (F : x = P + Q + S) (h0 : 2 * P ≤ 3 * V) (h1 : 2 * Q ≤ 3 * V) (h2 : 4 * S ≤ 3 * W) : x ≤ 3 * V + W := by omega
theorem tot_ge {x W V P Q S : Int} (hW : 0 < W) (F : x = P + Q + S) (h0 : -(3 * V) ≤ 2 * P) (h1 : -(3 * V) ≤ 2 * Q) (h2 : -(3 * W) ≤ 4 * S) : -(3 * V + W) ≤ x := by omega
theorem end_le {W D V M y : Int} (e : y = 3 * V + 2 * W) (hW : 0 < W) (hy : y = W * (3 * M + 2)) (up : W * D ≤ 3 * V + W) : D ≤ 3 * M + 1 := by
  apply Classical.byContradiction; intro hc
  have h := Int.mul_le_mul_of_nonneg_left (show 3 * M + 2 ≤ D by omega) (Int.le_of_lt hW)
  rw [← hy] at h
  clear hy hc
  generalize W * D = T at *
  omega
theorem dots_end {W D M p0 p1 p2 q0 q1 q2 s0 s1 s2 : Int} (hW : 0 < W) (F : W * D = p0 + p1 + p2 + (q0 + q1 + q2) + (s0 + s1 + s2)) (h0 : -(W * M) ≤ 2 * p0 ∧ 2 * p0 ≤ W * M) (h1 : -(W * M) ≤ 2 * p1 ∧ 2 * p1 ≤ W * M) (h2 : -(W * M) ≤ 2 * p2 ∧ 2 * p2 ≤ W * M) (k0 : -(W * M) ≤ 2 * q0 ∧ 2 * q0 ≤ W * M) (k1 : -(W * M) ≤ 2 * q1 ∧ 2 * q1 ≤ W * M) (k2 : -(W * M) ≤ 2 * q2 ∧ 2 * q2 ≤ W * M) (l0 : -W ≤ 4 * s0 ∧ 4 * s0 ≤ W) (l1 : -W ≤ 4 * s1 ∧ 4 * s1 ≤ W) (l2 : -W ≤ 4 * s2 ∧ 4 * s2 ≤ W) : D ≤ 3 * M + 1 ∧ -(3 * M + 1) ≤ D := by
  have up := tot_le hW F (sum3_le h0.2 h1.2 h2.2) (sum3_le k0.2 k1.2 k2.2) (sum3_le4 l0.2 l1.2 l2.2)
  have lo := tot_ge hW F (sum3_ge h0.1 h1.1 h2.1) (sum3_ge k0.1 k1.1 k2.1) (sum3_ge4 l0.1 l1.1 l2.1)
  have e : 3 * (W * M) + 2 * W = W * (3 * M + 2) := by rw [Int.mul_add, Int.mul_left_comm, Int.mul_comm W 2]
  have lo' : W * -D ≤ 3 * (W * M) + W := by rw [Int.mul_neg]; exact Int.neg_le_of_neg_le lo
  refine ⟨end_le rfl hW e up, ?_⟩
  have h := end_le rfl hW e lo'
  omega
theorem prod_half {N t h M : Int} (hN : 0 < N) (hM : 0 ≤ M) (ht : -(N * M) ≤ t ∧ t ≤ N * M) (hh : -N ≤ 2 * h ∧ 2 * h ≤ N) : -(N * N * M) ≤ 2 * (t * h) ∧ 2 * (t * h) ≤ N * N * M := by
  have q := Int.mul_nonneg (Int.le_of_lt hN) hM
  have s := mul_bounds_abs (a := t) (A := N * M) (b := 2 * h) (B := N) q (Int.le_of_lt hN) ht hh
  have e1 : t * (2 * h) = 2 * (t * h) := by grind
  have e2 : N * M * N = N * N * M := by grind
  rw [e1, e2] at s
  exact s
/-- what a turn does to dot products -/
theorem dots_close {N vu XZ t0 t1 t2 r0 r1 r2 X0 X1 X2 Z0 Z1 Z2 M : Int} (hN : 0 < N) (hM : 0 ≤ M) (ht : t0 * r0 + t1 * r1 + t2 * r2 = N * N * vu) (hx : XZ = X0 * Z0 + X1 * Z1 + X2 * Z2) (g0 : -N ≤ 2 * (X0 * N - t0) ∧ 2 * (X0 * N - t0) ≤ N) (g1 : -N ≤ 2 * (X1 * N - t1) ∧ 2 * (X1 * N - t1) ≤ N) (g2 : -N ≤ 2 * (X2 * N - t2) ∧ 2 * (X2 * N - t2) ≤ N) (k0 : -N ≤ 2 * (Z0 * N - r0) ∧ 2 * (Z0 * N - r0) ≤ N) (k1 : -N ≤ 2 * (Z1 * N - r1) ∧ 2 * (Z1 * N - r1) ≤ N) (k2 : -N ≤ 2 * (Z2 * N - r2) ∧ 2 * (Z2 * N - r2) ≤ N)
    (b0 : -(N * M) ≤ t0 ∧ t0 ≤ N * M) (b1 : -(N * M) ≤ t1 ∧ t1 ≤ N * M) (b2 : -(N * M) ≤ t2 ∧ t2 ≤ N * M) (d0 : -(N * M) ≤ r0 ∧ r0 ≤ N * M) (d1 : -(N * M) ≤ r1 ∧ r1 ≤ N * M) (d2 : -(N * M) ≤ r2 ∧ r2 ≤ N * M) : XZ - vu ≤ 3 * M + 1 ∧ -(3 * M + 1) ≤ XZ - vu := by
  have W0 : 0 < N * N := Int.mul_pos hN hN
  obtain ⟨x0, e0⟩ : ∃ x0, X0 * N - t0 = x0 := ⟨_, rfl⟩
  obtain ⟨x1, e1⟩ : ∃ x1, X1 * N - t1 = x1 := ⟨_, rfl⟩
  obtain ⟨x2, e2⟩ : ∃ x2, X2 * N - t2 = x2 := ⟨_, rfl⟩
  obtain ⟨z0, f0⟩ : ∃ z0, Z0 * N - r0 = z0 := ⟨_, rfl⟩
  obtain ⟨z1, f1⟩ : ∃ z1, Z1 * N - r1 = z1 := ⟨_, rfl⟩
  obtain ⟨z2, f2⟩ : ∃ z2, Z2 * N - r2 = z2 := ⟨_, rfl⟩
  rw [e0] at g0
  rw [e1] at g1
  rw [e2] at g2
  rw [f0] at k0
  rw [f1] at k1
  rw [f2] at k2
  have E : N * N * XZ = N * N * vu + (t0 * z0 + t1 * z1 + t2 * z2) + (r0 * x0 + r1 * x1 + r2 * x2) + (x0 * z0 + x1 * z1 + x2 * z2) := by
    rw [← ht, hx, ← e0, ← e1, ← e2, ← f0, ← f1, ← f2]; grind
  have p0 := prod_half hN hM b0 k0; have p1 := prod_half hN hM b1 k1; have p2 := prod_half hN hM b2 k2
  have q0 := prod_half hN hM d0 g0; have q1 := prod_half hN hM d1 g1; have q2 := prod_half hN hM d2 g2
  have s : ∀ x z : Int, -N ≤ 2 * x ∧ 2 * x ≤ N → -N ≤ 2 * z ∧ 2 * z ≤ N → -(N * N) ≤ 4 * (x * z) ∧ 4 * (x * z) ≤ N * N := fun x z hx hz => by
    have m := mul_bounds_abs (a := 2 * x) (A := N) (b := 2 * z) (B := N) (Int.le_of_lt hN) (Int.le_of_lt hN) hx hz
    have e : 2 * x * (2 * z) = 4 * (x * z) := by grind
    rw [e] at m
    exact m
  have s0 := s x0 z0 g0 k0; have s1 := s x1 z1 g1 k1; have s2 := s x2 z2 g2 k2
  clear s ht hx e0 e1 e2 f0 f1 f2 g0 g1 g2 k0 k1 k2 b0 b1 b2 d0 d1 d2
  have F : N * N * (XZ - vu) = (t0 * z0 + t1 * z1 + t2 * z2) + (r0 * x0 + r1 * x1 + r2 * x2) + (x0 * z0 + x1 * z1 + x2 * z2) := by
    have : N * N * (XZ - vu) = N * N * XZ - N * N * vu := by grind
    omega
  exact dots_end W0 F p0 p1 p2 q0 q1 q2 s0 s1 s2
end Go.Proofs.Ytfmalpnlencmbaa
