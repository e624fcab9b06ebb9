/- QuatChains: what is told. -/
import Derived.Test.YtchmcmcbdipphaaCC
import Derived.Test.YtchmcmcbdipphaaUn1
import Derived.Test.YtchmcmcbdipphaaB4
namespace Go.Proofs.Ytchmcmcbdipphaa
open Go.RowKit Go.Shelf

set_option maxRecDepth 20000 in
set_option maxHeartbeats 4000000 in
theorem qUnit_zero (w : World) :
    Calls Try.prog 22 #[.agg #[.int .i64 0, .int .i64 0, .int .i64 0, .int .i64 0]] w fun e w' => e = .returned (.tuple #[.agg #[.int .i64 0, .int .i64 0, .int .i64 0, .int .i64 0], .int .i64 3]) ∧ Ext w w' := by
  have HK : Hid (∀ w', Calls Try.prog 25 #[.agg #[.int .i64 0, .int .i64 0, .int .i64 0, .int .i64 0]] w' fun e w'' => e = .returned (.int .i64 0) ∧ Ext w' w'') := fun w' => qCheck_any 0 0 0 0 w'
  have he := eqQ 0 0 0 0 0 0 0 0
  go_enter Try.func22, Try.ntmps22
  go_wp2_with fail
  refine (HK.out _).mono ?_
  rintro e w1 ⟨rfl, x1⟩
  have QB : Hid (H4 w1 w.heap.size (.int .i64 0) (.int .i64 0) (.int .i64 0) (.int .i64 0)) := (H4.alloc (h4_at rfl) _).ext x1
  obtain ⟨r0, r1, r2, r3, r4, r5, r6, r7, r8⟩ : H4 w1 (w.heap.size + 1) (.int .i64 0) (.int .i64 0) (.int .i64 0) (.int .i64 0) := (h4_at (by simp)).ext x1
  have X1 : Ext w w1 := Ext.trans (by repeat (first | with_reducible assumption | with_reducible exact Ext.refl _ | with_reducible refine Ext.drew ?_ | with_reducible refine Ext.drewN ?_ _ | with_reducible refine Ext.alloc ?_ _ | with_reducible refine Ext.set ?_ (by first | exact Nat.le_refl _ | (dsimp only; omega) | (simp; done)) _)) x1
  clear x1
  obtain ⟨s0, s1, s2, s3, s4, s5, s6, s7, s8⟩ := QB.out
  go_wp2_with fail
  exact bodyPost_ret (v := .tuple #[.agg #[.int .i64 0, .int .i64 0, .int .i64 0, .int .i64 0], .int .i64 3]) (by simp [results, Try.results22, go_sem, r0, r1, r2, r3]) rfl ⟨rfl, by repeat (first | with_reducible assumption | with_reducible exact Ext.refl _ | with_reducible refine Ext.drew ?_ | with_reducible refine Ext.drewN ?_ _ | with_reducible refine Ext.alloc ?_ _ | with_reducible refine Ext.set ?_ (by first | exact Nat.le_refl _ | (dsimp only; omega) | (simp; done)) _)⟩

theorem near_le_of {p m : Int} {n : Nat} (hn : 0 < n) (hp : p * p ≤ (n : Int) * n * (m * m)) (hm : 0 ≤ m) : -m ≤ nearI p n ∧ nearI p n ≤ m := by
  have h1 : 0 ≤ (n : Int) * m := Int.mul_nonneg (by omega) hm
  have h2 := abs_of_sq (p := p) (m := (n : Int) * m) h1 (by
    have e : (n : Int) * m * ((n : Int) * m) = (n : Int) * n * (m * m) := by grind
    omega)
  have hk := nearI_spec p n (by omega)
  generalize nearI p n = k at *
  have k1 := hk.1; have k2 := hk.2.1
  constructor
  · apply Classical.byContradiction; intro hc
    have := Int.mul_le_mul_of_nonneg_right (a := k) (b := -m - 1) (c := (n : Int)) (by omega) (by omega)
    have e : (-m - 1) * (n : Int) = -((n : Int) * m) - n := by grind
    omega
  · apply Classical.byContradiction; intro hc
    have := Int.mul_le_mul_of_nonneg_right (a := m + 1) (b := k) (c := (n : Int)) (by omega) (by omega)
    have e : (m + 1) * (n : Int) = (n : Int) * m + n := by grind
    omega
/-- a vector that is turned by a quaternion of words that is not 0 -/
theorem turn_told (a b c d u v s M : Int) (h : ok4 a b c d = true) (hq : 0 < sq4 a b c d) (hM : 0 ≤ M) (hM2 : 2 * M < 35184372088832) (hu : -M ≤ u ∧ u ≤ M) (hv : -M ≤ v ∧ v ≤ M) (hs : -M ≤ s ∧ s ≤ M) : ∃ X0 X1 X2 : Int,
    (∀ w', Calls Try.prog 16 #[.agg #[.int .i64 a, .int .i64 b, .int .i64 c, .int .i64 d], .agg #[.int .i64 u, .int .i64 v, .int .i64 s]] w' fun e w'' => e = .returned (.tuple #[.agg #[.int .i64 X0, .int .i64 X1, .int .i64 X2], .int .i64 0]) ∧ Ext w' w'') ∧
    turnR a b c d u v s = .tuple #[.agg #[.int .i64 X0, .int .i64 X1, .int .i64 X2], .int .i64 0] ∧
    IsNear (tnx a b c d u v s) (a * a + b * b + c * c + d * d) X0 ∧ IsNear (tny a b c d u v s) (a * a + b * b + c * c + d * d) X1 ∧ IsNear (tnz a b c d u v s) (a * a + b * b + c * c + d * d) X2 ∧
    (-(2 * M) ≤ X0 ∧ X0 ≤ 2 * M) ∧ (-(2 * M) ≤ X1 ∧ X1 ≤ 2 * M) ∧ (-(2 * M) ≤ X2 ∧ X2 ≤ 2 * M) := by
  have gu := sq_le_of hu hM; have gv := sq_le_of hv hM; have gs := sq_le_of hs hM
  have tl := tn_le a b c d u v s
  rw [sq4_int] at tl
  have e4 : 2 * M * (2 * M) = 4 * (M * M) := by grind
  have mm := sq_nonneg M
  have nn : 0 ≤ ((sq4 a b c d : Nat) : Int) * ((sq4 a b c d : Nat) : Int) := sq_nonneg _
  have le : ((sq4 a b c d : Nat) : Int) * ((sq4 a b c d : Nat) : Int) * (u * u + v * v + s * s) ≤ ((sq4 a b c d : Nat) : Int) * ((sq4 a b c d : Nat) : Int) * (2 * M * (2 * M)) := Int.mul_le_mul_of_nonneg_left (by omega) nn
  have b0 := near_le_of (m := 2 * M) hq (Int.le_trans tl.1 le) (by omega)
  have b1 := near_le_of (m := 2 * M) hq (Int.le_trans tl.2.1 le) (by omega)
  have b2 := near_le_of (m := 2 * M) hq (Int.le_trans tl.2.2 le) (by omega)
  have hz : ¬ (a = 0 ∧ b = 0 ∧ c = 0 ∧ d = 0) := by
    rintro ⟨rfl, rfl, rfl, rfl⟩
    revert hq; decide
  have o3 : ok3 u v s = true := by unfold ok3; rw [okW_abs (v := u) (by omega), okW_abs (v := v) (by omega), okW_abs (v := s) (by omega)]; rfl
  have eR : turnR a b c d u v s = .tuple #[.agg #[.int .i64 (nearI (tnx a b c d u v s) (sq4 a b c d)), .int .i64 (nearI (tny a b c d u v s) (sq4 a b c d)), .int .i64 (nearI (tnz a b c d u v s) (sq4 a b c d))], .int .i64 0] := by
    unfold turnR
    rw [h, o3, if_pos (show (true && true) = true from rfl), if_neg hz]
    unfold vres ok3
    rw [okW_abs (v := nearI (tnx a b c d u v s) (sq4 a b c d)) (by omega), okW_abs (v := nearI (tny a b c d u v s) (sq4 a b c d)) (by omega), okW_abs (v := nearI (tnz a b c d u v s) (sq4 a b c d)) (by omega)]
    rfl
  refine ⟨_, _, _, fun w' => ?_, eR, ?_, ?_, ?_, b0, b1, b2⟩
  · have := qTurn_any a b c d u v s w'
    rw [eR] at this
    exact this
  · rw [sq4_int]; exact nearI_spec _ _ (by omega)
  · rw [sq4_int]; exact nearI_spec _ _ (by omega)
  · rw [sq4_int]; exact nearI_spec _ _ (by omega)
set_option maxHeartbeats 8000000 in
theorem chains_told (a b c d x y z t u v s : Int) (h : ok4 a b c d = true) (k : ok4 x y z t = true) (hq : ¬ (a = 0 ∧ b = 0 ∧ c = 0 ∧ d = 0)) (kq : ¬ (x = 0 ∧ y = 0 ∧ z = 0 ∧ t = 0)) (hu : -1073741824 ≤ u ∧ u ≤ 1073741824) (hv : -1073741824 ≤ v ∧ v ≤ 1073741824) (hs : -1073741824 ≤ s ∧ s ≤ 1073741824) :
    ∃ A0 A1 A2 A3 B0 B1 B2 B3 C0 C1 C2 C3 X0 X1 X2 Y0 Y1 Y2 T0 T1 T2 U0 U1 U2 : Int,
    (∀ w', Calls Try.prog 22 #[.agg #[.int .i64 a, .int .i64 b, .int .i64 c, .int .i64 d]] w' fun e w'' => e = .returned (.tuple #[.agg #[.int .i64 A0, .int .i64 A1, .int .i64 A2, .int .i64 A3], .int .i64 0]) ∧ Ext w' w'') ∧ (∀ w', Calls Try.prog 22 #[.agg #[.int .i64 x, .int .i64 y, .int .i64 z, .int .i64 t]] w' fun e w'' => e = .returned (.tuple #[.agg #[.int .i64 B0, .int .i64 B1, .int .i64 B2, .int .i64 B3], .int .i64 0]) ∧ Ext w' w'') ∧ (∀ w', Calls Try.prog 8 #[.agg #[.int .i64 A0, .int .i64 A1, .int .i64 A2, .int .i64 A3], .agg #[.int .i64 B0, .int .i64 B1, .int .i64 B2, .int .i64 B3]] w' fun e w'' => e = .returned (.tuple #[.agg #[.int .i64 C0, .int .i64 C1, .int .i64 C2, .int .i64 C3], .int .i64 0]) ∧ Ext w' w'') ∧
    (∀ w', Calls Try.prog 16 #[.agg #[.int .i64 C0, .int .i64 C1, .int .i64 C2, .int .i64 C3], .agg #[.int .i64 u, .int .i64 v, .int .i64 s]] w' fun e w'' => e = .returned (.tuple #[.agg #[.int .i64 X0, .int .i64 X1, .int .i64 X2], .int .i64 0]) ∧ Ext w' w'') ∧ (∀ w', Calls Try.prog 16 #[.agg #[.int .i64 B0, .int .i64 B1, .int .i64 B2, .int .i64 B3], .agg #[.int .i64 u, .int .i64 v, .int .i64 s]] w' fun e w'' => e = .returned (.tuple #[.agg #[.int .i64 Y0, .int .i64 Y1, .int .i64 Y2], .int .i64 0]) ∧ Ext w' w'') ∧ (∀ w', Calls Try.prog 16 #[.agg #[.int .i64 A0, .int .i64 A1, .int .i64 A2, .int .i64 A3], .agg #[.int .i64 Y0, .int .i64 Y1, .int .i64 Y2]] w' fun e w'' => e = .returned (.tuple #[.agg #[.int .i64 T0, .int .i64 T1, .int .i64 T2], .int .i64 0]) ∧ Ext w' w'') ∧
    (∀ w', Calls Try.prog 12 #[.agg #[.int .i64 A0, .int .i64 A1, .int .i64 A2, .int .i64 A3]] w' fun e w'' => e = .returned (.tuple #[.agg #[.int .i64 A0, .int .i64 (-A1), .int .i64 (-A2), .int .i64 (-A3)], .int .i64 0]) ∧ Ext w' w'') ∧ (∀ w', Calls Try.prog 16 #[.agg #[.int .i64 A0, .int .i64 (-A1), .int .i64 (-A2), .int .i64 (-A3)], .agg #[.int .i64 u, .int .i64 v, .int .i64 s]] w' fun e w'' => e = .returned (.tuple #[.agg #[.int .i64 U0, .int .i64 U1, .int .i64 U2], .int .i64 0]) ∧ Ext w' w'') ∧ (∀ w', Calls Try.prog 15 #[.agg #[.int .i64 A0, .int .i64 A1, .int .i64 A2, .int .i64 A3], .agg #[.int .i64 u, .int .i64 v, .int .i64 s]] w' fun e w'' => e = .returned (.tuple #[.agg #[.int .i64 U0, .int .i64 U1, .int .i64 U2], .int .i64 0]) ∧ Ext w' w'') ∧
    (∀ w', Calls Try.prog 19 #[.agg #[.int .i64 X0, .int .i64 X1, .int .i64 X2], .agg #[.int .i64 T0, .int .i64 T1, .int .i64 T2], .int .i64 16] w' fun e w'' => e = .returned (.bool true) ∧ Ext w' w'') := by
  obtain ⟨A0, A1, A2, A3, uA, ⟨a0, a1, a2, a3⟩, sA1, sA2⟩ := unit_told a b c d h hq
  obtain ⟨B0, B1, B2, B3, uB, ⟨b0, b1, b2, b3⟩, sB1, sB2⟩ := unit_told x y z t k kq
  have oA : ok4 A0 A1 A2 A3 = true := ok4_abs (by omega) (by omega) (by omega) (by omega)
  have oB : ok4 B0 B1 B2 B3 = true := ok4_abs (by omega) (by omega) (by omega) (by omega)
  have oN : ok4 A0 (-A1) (-A2) (-A3) = true := ok4_abs (by omega) (by omega) (by omega) (by omega)
  obtain ⟨C0, C1, C2, C3, mC, e0, e1, e2, e3, ⟨c0, c1, c2, c3⟩, sC1, sC2⟩ := mul_told A0 A1 A2 A3 B0 B1 B2 B3 oA oB ⟨sA1, sA2⟩ ⟨sB1, sB2⟩
  have oC : ok4 C0 C1 C2 C3 = true := ok4_abs (by omega) (by omega) (by omega) (by omega)
  have pA : 0 < sq4 A0 A1 A2 A3 := by have := sq4_int A0 A1 A2 A3; omega
  have pB : 0 < sq4 B0 B1 B2 B3 := by have := sq4_int B0 B1 B2 B3; omega
  have pC : 0 < sq4 C0 C1 C2 C3 := by have := sq4_int C0 C1 C2 C3; omega
  have eN : A0 * A0 + -A1 * -A1 + -A2 * -A2 + -A3 * -A3 = A0 * A0 + A1 * A1 + A2 * A2 + A3 * A3 := by grind
  have pN : 0 < sq4 A0 (-A1) (-A2) (-A3) := by have := sq4_int A0 (-A1) (-A2) (-A3); omega
  obtain ⟨X0, X1, X2, tX, _, x0, x1, x2, bx0, bx1, bx2⟩ := turn_told C0 C1 C2 C3 u v s 1073741824 oC pC (by omega) (by omega) hu hv hs
  obtain ⟨Y0, Y1, Y2, tY, _, y0, y1, y2, by0, by1, by2⟩ := turn_told B0 B1 B2 B3 u v s 1073741824 oB pB (by omega) (by omega) hu hv hs
  obtain ⟨T0, T1, T2, tT, _, t0, t1, t2, bt0, bt1, bt2⟩ := turn_told A0 A1 A2 A3 Y0 Y1 Y2 2147483648 oA pA (by omega) (by omega) (by omega) (by omega) (by omega)
  obtain ⟨U0, U1, U2, tU, eU, _, _, _, _, _, _⟩ := turn_told A0 (-A1) (-A2) (-A3) u v s 1073741824 oN pN (by omega) (by omega) hu hv hs
  have cj := fun w' => qConj_any A0 A1 A2 A3 w'
  unfold conjR at cj
  rw [oA, if_pos rfl] at cj
  have w1 : okW A1 = true := okW_abs (Nat.lt_of_le_of_lt a1 (by decide))
  have w2 : okW A2 = true := okW_abs (Nat.lt_of_le_of_lt a2 (by decide))
  have w3 : okW A3 = true := okW_abs (Nat.lt_of_le_of_lt a3 (by decide))
  have bk := fun w' => qBack_any A0 A1 A2 A3 u v s w'
  rw [neg64 w1, neg64 w2, neg64 w3, eU] at bk
  have cl := chain_close A0 A1 A2 A3 B0 B1 B2 B3 u v s C0 C1 C2 C3 X0 X1 X2 Y0 Y1 Y2 T0 T1 T2 _ _ _ rfl rfl rfl ⟨sA1, sA2⟩ ⟨sB1, sB2⟩ sC1 (by rw [e0]; exact nearQ_IsNear _) (by rw [e1]; exact nearQ_IsNear _) (by rw [e2]; exact nearQ_IsNear _) (by rw [e3]; exact nearQ_IsNear _) hu hv hs x0 x1 x2 y0 y1 y2 t0 t1 t2
  refine ⟨A0, A1, A2, A3, B0, B1, B2, B3, C0, C1, C2, C3, X0, X1, X2, Y0, Y1, Y2, T0, T1, T2, U0, U1, U2, uA, uB, mC, tX, tY, tT, cj, tU, bk, fun w' => ?_⟩
  exact near_any X0 X1 X2 T0 T1 T2 16 w' (by omega) (by omega) (by omega) (by omega) (by omega) (by omega) cl.1 cl.2.1 cl.2.2
end Go.Proofs.Ytchmcmcbdipphaa
