/- QuatExact: numbers, what is told of one entry. -/
import Derived.Test.YtfmalpnlencmbaaGreatR3omp
import Derived.Test.YtfmalpnlencmbaaGreatMg29p
import Derived.Test.YtfmalpnlencmbaaGreatMg45p
import Derived.Deep.Cut
import Derived.Deep.DeepCutAuto
namespace Go.Proofs.YtfmalpnlencmbaaGreat
open Go.RowKit Go.Shelf
set_option maxHeartbeats 4000000 in
theorem is4_any (x y z u e : Int) (w : World) (h : e = 0 ∨ x = 0 ∧ y = 0 ∧ z = 0 ∧ u = 0 ∧ e ≠ 0) :
    Calls Tryz.prog 37 #[.agg #[.int .i64 x, .int .i64 y, .int .i64 z, .int .i64 u], .int .i64 e, .agg #[.int .i64 x, .int .i64 y, .int .i64 z, .int .i64 u], .int .i64 e] w fun e' w' => e' = .returned (.bool true) ∧ Ext w w' := by
  rcases h with rfl | ⟨rfl, rfl, rfl, rfl, h⟩
  · go_enter Tryz.func37, Tryz.ntmps37
    go_wp2_with (go_at_call 35; refine (num4_any _ _).mono ?_; rintro e wx ⟨rfl, hwx⟩; have hwy := hwx.symm; clear hwx; subst hwy)
    go_ret
    exact ⟨by simp, by repeat (first | with_reducible assumption | with_reducible exact Ext.refl _ | with_reducible refine Ext.drew ?_ | with_reducible refine Ext.drewN ?_ _ | with_reducible refine Ext.alloc ?_ _ | with_reducible refine Ext.set ?_ (by first | exact Nat.le_refl _ | (dsimp only; omega) | (simp; done)) _)⟩
  · have h' : (e != 0) = true := by simpa using h
    clear h
    go_enter Tryz.func37, Tryz.ntmps37
    go_wp2_with (go_at_call 35; refine (num4_any _ _).mono ?_; rintro e wx ⟨rfl, hwx⟩; have hwy := hwx.symm; clear hwx; subst hwy)
    go_ret
    exact ⟨by simp, by repeat (first | with_reducible assumption | with_reducible exact Ext.refl _ | with_reducible refine Ext.drew ?_ | with_reducible refine Ext.drewN ?_ _ | with_reducible refine Ext.alloc ?_ _ | with_reducible refine Ext.set ?_ (by first | exact Nat.le_refl _ | (dsimp only; omega) | (simp; done)) _)⟩
set_option maxHeartbeats 4000000 in
theorem turned4_any (x y z e : Int) (w : World) (h : e = 0 ∨ x = 0 ∧ y = 0 ∧ z = 0 ∧ e ≠ 0) :
    Calls Tryz.prog 42 #[.agg #[.int .i64 x, .int .i64 y, .int .i64 z], .int .i64 e, .agg #[.int .i64 x, .int .i64 y, .int .i64 z], .int .i64 e] w fun e' w' => e' = .returned (.bool true) ∧ Ext w w' := by
  rcases h with rfl | ⟨rfl, rfl, rfl, h⟩
  · go_enter Tryz.func42, Tryz.ntmps42
    go_wp2_with (go_at_call 35; refine (num4_any _ _).mono ?_; rintro e wx ⟨rfl, hwx⟩; have hwy := hwx.symm; clear hwx; subst hwy)
    go_ret
    exact ⟨by simp, by repeat (first | with_reducible assumption | with_reducible exact Ext.refl _ | with_reducible refine Ext.drew ?_ | with_reducible refine Ext.drewN ?_ _ | with_reducible refine Ext.alloc ?_ _ | with_reducible refine Ext.set ?_ (by first | exact Nat.le_refl _ | (dsimp only; omega) | (simp; done)) _)⟩
  · have h' : (e != 0) = true := by simpa using h
    clear h
    go_enter Tryz.func42, Tryz.ntmps42
    go_wp2_with (go_at_call 35; refine (num4_any _ _).mono ?_; rintro e wx ⟨rfl, hwx⟩; have hwy := hwx.symm; clear hwx; subst hwy)
    go_ret
    exact ⟨by simp, by repeat (first | with_reducible assumption | with_reducible exact Ext.refl _ | with_reducible refine Ext.drew ?_ | with_reducible refine Ext.drewN ?_ _ | with_reducible refine Ext.alloc ?_ _ | with_reducible refine Ext.set ?_ (by first | exact Nat.le_refl _ | (dsimp only; omega) | (simp; done)) _)⟩
set_option maxHeartbeats 4000000 in
theorem qUnit_nil (w : World) : Calls Tryz.prog 39 #[.agg #[.int .i64 0, .int .i64 0, .int .i64 0, .int .i64 0]] w fun e w' => e = .returned (.tuple #[.agg #[.int .i64 0, .int .i64 0, .int .i64 0, .int .i64 0], .int .i64 3]) ∧ Ext w w' := by
  have K := qCheck_any 0 0 0 0
  have hk : chk4 0 0 0 0 = 0 := by decide
  rw [hk] at K
  have HK : Hid (∀ w', Calls Tryz.prog 36 #[.agg #[.int .i64 0, .int .i64 0, .int .i64 0, .int .i64 0]] w' fun e w'' => e = .returned (.int .i64 0) ∧ Ext w' w'') := K
  clear K hk
  have he := eqQ 0 0 0 0 0 0 0 0
  go_enter Tryz.func39, Tryz.ntmps39
  go_wp2_with fail
  refine (HK.out _).mono ?_
  rintro e w1 ⟨rfl, x1⟩
  have QB : Hid (H4 w1 w.heap.size (.int .i64 0) (.int .i64 0) (.int .i64 0) (.int .i64 0)) := (H4.alloc (h4_at rfl) _).ext x1
  have RB : Hid (H4 w1 (w.heap.size + 1) (.int .i64 0) (.int .i64 0) (.int .i64 0) (.int .i64 0)) := (h4_at (by simp)).ext x1
  have X1 : Ext w w1 := Ext.trans (by repeat (first | with_reducible assumption | with_reducible exact Ext.refl _ | with_reducible refine Ext.drew ?_ | with_reducible refine Ext.drewN ?_ _ | with_reducible refine Ext.alloc ?_ _ | with_reducible refine Ext.set ?_ (by first | exact Nat.le_refl _ | (dsimp only; omega) | (simp; done)) _)) x1
  clear x1
  obtain ⟨s0, s1, s2, s3, s4, s5, s6, s7, s8⟩ := QB.out
  obtain ⟨r0, r1, r2, r3, r4, r5, r6, r7, r8⟩ := RB.out
  go_wp2_with fail
  exact bodyPost_ret (v := .tuple #[.agg #[.int .i64 0, .int .i64 0, .int .i64 0, .int .i64 0], .int .i64 3]) (by simp [results, Tryz.results39, go_sem, r0, r1, r2, r3]) rfl ⟨rfl, by repeat (first | with_reducible assumption | with_reducible exact Ext.refl _ | with_reducible refine Ext.drew ?_ | with_reducible refine Ext.drewN ?_ _ | with_reducible refine Ext.alloc ?_ _ | with_reducible refine Ext.set ?_ (by first | exact Nat.le_refl _ | (dsimp only; omega) | (simp; done)) _)⟩
set_option maxRecDepth 20000 in
set_option maxHeartbeats 4000000 in
theorem qUnit_no (a b c d : Int) (w : World) (h : ok4 a b c d = false) : Calls Tryz.prog 39 #[.agg #[.int .i64 a, .int .i64 b, .int .i64 c, .int .i64 d]] w fun e w' => e = .returned (.tuple #[.agg #[.int .i64 0, .int .i64 0, .int .i64 0, .int .i64 0], .int .i64 1]) ∧ Ext w w' := by
  have K := qCheck_any a b c d
  rw [chk4_no h] at K
  have HK : Hid (∀ w', Calls Tryz.prog 36 #[.agg #[.int .i64 a, .int .i64 b, .int .i64 c, .int .i64 d]] w' fun e w'' => e = .returned (.int .i64 1) ∧ Ext w' w'') := K
  clear K h
  go_enter Tryz.func39, Tryz.ntmps39
  go_wp2_with fail
  refine (HK.out _).mono ?_
  rintro e w1 ⟨rfl, x1⟩
  have RB : H4 w1 (w.heap.size + 1) (.int .i64 0) (.int .i64 0) (.int .i64 0) (.int .i64 0) := (h4_at (by simp)).ext x1
  have X1 : Ext w w1 := Ext.trans (by repeat (first | with_reducible assumption | with_reducible exact Ext.refl _ | with_reducible refine Ext.drew ?_ | with_reducible refine Ext.drewN ?_ _ | with_reducible refine Ext.alloc ?_ _ | with_reducible refine Ext.set ?_ (by first | exact Nat.le_refl _ | (dsimp only; omega) | (simp; done)) _)) x1
  clear x1
  obtain ⟨r0, r1, r2, r3, r4, r5, r6, r7, r8⟩ := RB
  go_wp2_with fail
  exact bodyPost_ret (v := .tuple #[.agg #[.int .i64 0, .int .i64 0, .int .i64 0, .int .i64 0], .int .i64 1]) (by simp [results, Tryz.results39, go_sem, r0, r1, r2, r3]) rfl ⟨rfl, by repeat (first | with_reducible assumption | with_reducible exact Ext.refl _ | with_reducible refine Ext.drew ?_ | with_reducible refine Ext.drewN ?_ _ | with_reducible refine Ext.alloc ?_ _ | with_reducible refine Ext.set ?_ (by first | exact Nat.le_refl _ | (dsimp only; omega) | (simp; done)) _)⟩
set_option maxHeartbeats 4000000 in
theorem qNorm_no (a b c d : Int) (w : World) (h : ok4 a b c d = false) : Calls Tryz.prog 40 #[.agg #[.int .i64 a, .int .i64 b, .int .i64 c, .int .i64 d]] w fun e w' => e = .returned (.tuple #[.int .i64 0, .int .i64 1]) ∧ Ext w w' := by
  have K := qCheck_any a b c d
  rw [chk4_no h] at K
  have HK : Hid (∀ w', Calls Tryz.prog 36 #[.agg #[.int .i64 a, .int .i64 b, .int .i64 c, .int .i64 d]] w' fun e w'' => e = .returned (.int .i64 1) ∧ Ext w' w'') := K
  clear K h
  go_enter Tryz.func40, Tryz.ntmps40
  go_wp2_with fail
  refine (HK.out _).mono ?_
  rintro e w1 ⟨rfl, x1⟩
  have X1 : Ext w w1 := Ext.trans (by repeat (first | with_reducible assumption | with_reducible exact Ext.refl _ | with_reducible refine Ext.drew ?_ | with_reducible refine Ext.drewN ?_ _ | with_reducible refine Ext.alloc ?_ _ | with_reducible refine Ext.set ?_ (by first | exact Nat.le_refl _ | (dsimp only; omega) | (simp; done)) _)) x1
  clear x1
  go_wp2_with fail
  go_ret2
  exact ⟨rfl, X1⟩
theorem okW_wneg {b : Int} (hb : -9223372036854775808 ≤ b ∧ b ≤ 9223372036854775807) : okW (wrap64 (-b)) = okW b := by
  by_cases h : b = -9223372036854775808
  · subst h; decide +kernel
  · rw [show wrap64 (-b) = -b by unfold wrap64; omega]
    unfold okW
    rw [Bool.eq_iff_iff]
    simp only [Bool.and_eq_true, decide_eq_true_eq]
    omega
theorem vres_is' (s0 s1 s2 : Int) : ∃ x y z e : Int, vres s0 s1 s2 = .tuple #[.agg #[.int .i64 x, .int .i64 y, .int .i64 z], .int .i64 e] ∧ (e = 0 ∨ x = 0 ∧ y = 0 ∧ z = 0 ∧ e ≠ 0) := by
  unfold vres
  split
  · exact ⟨_, _, _, 0, rfl, .inl rfl⟩
  · exact ⟨0, 0, 0, 2, rfl, .inr ⟨rfl, rfl, rfl, by decide⟩⟩
theorem turnR_is (a b c d x y z : Int) (h : (ok4 a b c d && ok3 x y z) = true) : ∃ s0 s1 s2 e : Int, turnR a b c d x y z = .tuple #[.agg #[.int .i64 s0, .int .i64 s1, .int .i64 s2], .int .i64 e] ∧ (e = 0 ∨ s0 = 0 ∧ s1 = 0 ∧ s2 = 0 ∧ e ≠ 0) := by
  unfold turnR
  rw [if_pos h]
  split
  · exact ⟨0, 0, 0, 3, rfl, .inr ⟨rfl, rfl, rfl, by decide⟩⟩
  · exact vres_is' _ _ _
theorem turnR_bad {a b c d x y z : Int} (h : (ok4 a b c d && ok3 x y z) = false) : turnR a b c d x y z = .tuple #[.agg #[.int .i64 0, .int .i64 0, .int .i64 0], .int .i64 1] := by
  unfold turnR
  rw [if_neg (by rw [h]; decide)]
  rfl
theorem mul_both (a b c d x y z t : Int) : ∃ x0 x1 x2 x3 er : Int, (∀ w, Calls Tryz.prog 34 #[.agg #[.int .i64 a, .int .i64 b, .int .i64 c, .int .i64 d], .agg #[.int .i64 x, .int .i64 y, .int .i64 z, .int .i64 t]] w fun e w' => e = .returned (.tuple #[.agg #[.int .i64 x0, .int .i64 x1, .int .i64 x2, .int .i64 x3], .int .i64 er]) ∧ Ext w w') ∧ (∀ w, Calls Tryz.prog 37 #[.agg #[.int .i64 x0, .int .i64 x1, .int .i64 x2, .int .i64 x3], .int .i64 er, .agg #[.int .i64 x0, .int .i64 x1, .int .i64 x2, .int .i64 x3], .int .i64 er] w fun e w' => e = .returned (.bool true) ∧ Ext w w') ∧ ((ok4 a b c d && ok4 x y z t) = true ∧ (∀ w, Calls Tryz.prog 27 #[.agg #[.int .i64 a, .int .i64 b, .int .i64 c, .int .i64 d], .agg #[.int .i64 x, .int .i64 y, .int .i64 z, .int .i64 t]] w fun e w' => e = .returned (.tuple #[.agg #[.int .i64 x0, .int .i64 x1, .int .i64 x2, .int .i64 x3], .int .i64 er]) ∧ Ext w w') ∨ (ok4 a b c d && ok4 x y z t) = false ∧ (x0 = 0 ∧ x1 = 0 ∧ x2 = 0 ∧ x3 = 0 ∧ er = 1)) := by
  have M := fun w => qMul_any a b c d x y z t w
  unfold qmulR at M
  cases h : (ok4 a b c d && ok4 x y z t)
  · rw [h, if_neg (by decide)] at M
    exact ⟨0, 0, 0, 0, 1, M, fun w => is4_any 0 0 0 0 1 w (.inr ⟨rfl, rfl, rfl, rfl, by decide⟩), .inr ⟨rfl, rfl, rfl, rfl, rfl, rfl⟩⟩
  · rw [h, if_pos rfl] at M
    obtain ⟨g1, g2⟩ := Bool.and_eq_true_iff.1 h
    have R := fun w => rproduct_any a b c d x y z t w g1 g2
    obtain ⟨u0, u1, u2, u3, e, hr, hq⟩ := qres_is (nearQ (qw a b c d x y z t)) (nearQ (qx a b c d x y z t)) (nearQ (qy a b c d x y z t)) (nearQ (qz a b c d x y z t))
    rw [hr] at M R
    exact ⟨u0, u1, u2, u3, e, M, fun w => is4_any u0 u1 u2 u3 e w hq, .inl ⟨rfl, R⟩⟩
theorem unitq_both (a b c d : Int) : ∃ x0 x1 x2 x3 er : Int, (∀ w, Calls Tryz.prog 39 #[.agg #[.int .i64 a, .int .i64 b, .int .i64 c, .int .i64 d]] w fun e w' => e = .returned (.tuple #[.agg #[.int .i64 x0, .int .i64 x1, .int .i64 x2, .int .i64 x3], .int .i64 er]) ∧ Ext w w') ∧ (∀ w, Calls Tryz.prog 37 #[.agg #[.int .i64 x0, .int .i64 x1, .int .i64 x2, .int .i64 x3], .int .i64 er, .agg #[.int .i64 x0, .int .i64 x1, .int .i64 x2, .int .i64 x3], .int .i64 er] w fun e w' => e = .returned (.bool true) ∧ Ext w w') ∧ (ok4 a b c d = true ∧ (∀ w, Calls Tryz.prog 29 #[.agg #[.int .i64 a, .int .i64 b, .int .i64 c, .int .i64 d]] w fun e w' => e = .returned (.tuple #[.agg #[.int .i64 x0, .int .i64 x1, .int .i64 x2, .int .i64 x3], .int .i64 er]) ∧ Ext w w') ∨ ok4 a b c d = false ∧ (x0 = 0 ∧ x1 = 0 ∧ x2 = 0 ∧ x3 = 0 ∧ er = 1)) := by
  cases h : ok4 a b c d
  · exact ⟨0, 0, 0, 0, 1, fun w => qUnit_no a b c d w h, fun w => is4_any 0 0 0 0 1 w (.inr ⟨rfl, rfl, rfl, rfl, by decide⟩), .inr ⟨rfl, rfl, rfl, rfl, rfl, rfl⟩⟩
  · by_cases hz : a = 0 ∧ b = 0 ∧ c = 0 ∧ d = 0
    · obtain ⟨rfl, rfl, rfl, rfl⟩ := hz
      exact ⟨0, 0, 0, 0, 3, fun w => qUnit_nil w, fun w => is4_any 0 0 0 0 3 w (.inr ⟨rfl, rfl, rfl, rfl, by decide⟩), .inl ⟨rfl, fun w => runitq_zero w⟩⟩
    · have n0 := sq4_pos hz
      obtain ⟨k0, h0⟩ := rootq_ex (a.natAbs * a.natAbs * 1152921504606846976) (sq4 a b c d) n0
      obtain ⟨k1, h1⟩ := rootq_ex (b.natAbs * b.natAbs * 1152921504606846976) (sq4 a b c d) n0
      obtain ⟨k2, h2⟩ := rootq_ex (c.natAbs * c.natAbs * 1152921504606846976) (sq4 a b c d) n0
      obtain ⟨k3, h3⟩ := rootq_ex (d.natAbs * d.natAbs * 1152921504606846976) (sq4 a b c d) n0
      have U := fun w => qUnit_yes a b c d k0 k1 k2 k3 w h hz h0 h1 h2 h3
      have R := fun w => runitq_any a b c d k0 k1 k2 k3 w h hz h0 h1 h2 h3
      obtain ⟨l0, l1, l2, l3⟩ := le_sq4 a b c d
      have m0 := unit_k_le n0 l0 h0; have m1 := unit_k_le n0 l1 h1; have m2 := unit_k_le n0 l2 h2; have m3 := unit_k_le n0 l3 h3
      have ow : ∀ (v : Int) (k : Nat), k ≤ 1073741824 → okW (sgd v k) = true := fun v k hk => by
        have := sgd_le (v := v) (k := k)
        unfold okW; simp; omega
      have e : qres (sgd a k0) (sgd b k1) (sgd c k2) (sgd d k3) = .tuple #[.agg #[.int .i64 (sgd a k0), .int .i64 (sgd b k1), .int .i64 (sgd c k2), .int .i64 (sgd d k3)], .int .i64 0] := by
        unfold qres ok4; rw [ow _ _ m0, ow _ _ m1, ow _ _ m2, ow _ _ m3]; rfl
      rw [e] at R
      exact ⟨_, _, _, _, 0, U, fun w => is4_any _ _ _ _ 0 w (.inl rfl), .inl ⟨rfl, R⟩⟩
theorem conjq_both (a b c d : Int) : ∃ x0 x1 x2 x3 er : Int, (∀ w, Calls Tryz.prog 38 #[.agg #[.int .i64 a, .int .i64 b, .int .i64 c, .int .i64 d]] w fun e w' => e = .returned (.tuple #[.agg #[.int .i64 x0, .int .i64 x1, .int .i64 x2, .int .i64 x3], .int .i64 er]) ∧ Ext w w') ∧ (∀ w, Calls Tryz.prog 37 #[.agg #[.int .i64 x0, .int .i64 x1, .int .i64 x2, .int .i64 x3], .int .i64 er, .agg #[.int .i64 x0, .int .i64 x1, .int .i64 x2, .int .i64 x3], .int .i64 er] w fun e w' => e = .returned (.bool true) ∧ Ext w w') ∧ (∀ w, Calls Tryz.prog 36 #[.agg #[.int .i64 a, .int .i64 b, .int .i64 c, .int .i64 d]] w fun e w' => e = .returned (.int .i64 er) ∧ Ext w w') ∧ (ok4 a b c d = true ∧ er = 0 ∧ x0 = a ∧ x1 = -b ∧ x2 = -c ∧ x3 = -d ∨ ok4 a b c d = false ∧ (x0 = 0 ∧ x1 = 0 ∧ x2 = 0 ∧ x3 = 0 ∧ er = 1)) := by
  have M := fun w => qConj_any a b c d w
  have K := fun w => qCheck_any a b c d w
  unfold conjR at M
  cases h : ok4 a b c d
  · rw [h, if_neg (by decide)] at M
    rw [chk4_no h] at K
    exact ⟨0, 0, 0, 0, 1, M, fun w => is4_any 0 0 0 0 1 w (.inr ⟨rfl, rfl, rfl, rfl, by decide⟩), K, .inr ⟨rfl, rfl, rfl, rfl, rfl, rfl⟩⟩
  · rw [h, if_pos rfl] at M
    rw [chk4_yes h] at K
    exact ⟨a, -b, -c, -d, 0, M, fun w => is4_any _ _ _ _ 0 w (.inl rfl), K, .inl ⟨rfl, rfl, rfl, rfl, rfl, rfl⟩⟩
theorem own_conj (a b c d : Int) : qw a b c d a (-b) (-c) (-d) = ((sq4 a b c d : Nat) : Int) ∧ qx a b c d a (-b) (-c) (-d) = 0 ∧ qy a b c d a (-b) (-c) (-d) = 0 ∧ qz a b c d a (-b) (-c) (-d) = 0 := by
  rw [← sq4_int]
  refine ⟨?_, ?_, ?_, ?_⟩
  · unfold qw; grind
  · unfold qx; grind
  · unfold qy; grind
  · unfold qz; grind
theorem norm_both (a b c d : Int) : ∃ s0 s1 s2 s3 er r0 r1 r2 r3 : Int, (∀ w, Calls Tryz.prog 40 #[.agg #[.int .i64 a, .int .i64 b, .int .i64 c, .int .i64 d]] w fun e w' => e = .returned (.tuple #[.int .i64 s0, .int .i64 er]) ∧ Ext w w') ∧ (ok4 a b c d = true ∧ (∀ w, Calls Tryz.prog 31 #[.agg #[.int .i64 a, .int .i64 b, .int .i64 c, .int .i64 d], .agg #[.int .i64 a, .int .i64 (-b), .int .i64 (-c), .int .i64 (-d)]] w fun e w' => (∃ r, e = .returned r ∧ IsFour w' r r0 r1 r2 r3) ∧ Ext w w') ∧ (∀ v w, IsFour w v r0 r1 r2 r3 → Calls Tryz.prog 30 #[v, .int .i64 30] w fun e' w' => e' = .returned (.tuple #[.agg #[.int .i64 s0, .int .i64 s1, .int .i64 s2, .int .i64 s3], .int .i64 er]) ∧ Ext w w') ∨ ok4 a b c d = false ∧ s0 = 0 ∧ er = 1) := by
  cases h : ok4 a b c d
  · exact ⟨0, 0, 0, 0, 1, 0, 0, 0, 0, fun w => qNorm_no a b c d w h, .inr ⟨rfl, rfl, rfl⟩⟩
  · obtain ⟨ha, hb, hc, hd⟩ := ok4_parts h
    have k : ok4 a (-b) (-c) (-d) = true := by unfold ok4; rw [ha, neg_okW hb, neg_okW hc, neg_okW hd]; rfl
    have N := fun w => qNorm_yes a b c d w h
    have E := fun w => rexact_any a b c d a (-b) (-c) (-d) w h k
    obtain ⟨c0, c1, c2, c3⟩ := own_conj a b c d
    rw [c0, c1, c2, c3] at E
    have fN : Fit 95 ((sq4 a b c d : Nat) : Int) := by rw [← sq4_int]; exact sq4_fit h
    have f0 : Fit 95 0 := by unfold Fit; decide
    have n0 : IsNear 0 (2 ^ 30) 0 := by have := near30 0; rw [show nearQ 0 = 0 by decide] at this; exact this
    have S := fun v w (i : IsFour w v ((sq4 a b c d : Nat) : Int) 0 0 0) => rshift_any _ 0 0 0 (nearQ ((sq4 a b c d : Nat) : Int)) 0 0 0 30 95 v w i (by omega) (by omega) (by omega) fN f0 f0 f0 (near30 _) n0 n0 n0
    generalize nearQ ((sq4 a b c d : Nat) : Int) = m at N S
    unfold qres ok4 at S
    rcases fit_two m with ⟨e2, o, e1⟩ | ⟨e2, o, e1⟩
    · rw [o, if_pos (by decide)] at S
      rw [e1, e2] at N
      exact ⟨m, 0, 0, 0, 0, _, _, _, _, N, .inl ⟨rfl, E, S⟩⟩
    · rw [o, if_neg (by decide)] at S
      rw [e1, e2] at N
      exact ⟨0, 0, 0, 0, 2, _, _, _, _, N, .inl ⟨rfl, E, S⟩⟩
theorem turn_both (a b c d x y z : Int) : ∃ x0 x1 x2 er : Int, (∀ w, Calls Tryz.prog 41 #[.agg #[.int .i64 a, .int .i64 b, .int .i64 c, .int .i64 d], .agg #[.int .i64 x, .int .i64 y, .int .i64 z]] w fun e w' => e = .returned (.tuple #[.agg #[.int .i64 x0, .int .i64 x1, .int .i64 x2], .int .i64 er]) ∧ Ext w w') ∧ (∀ w, Calls Tryz.prog 42 #[.agg #[.int .i64 x0, .int .i64 x1, .int .i64 x2], .int .i64 er, .agg #[.int .i64 x0, .int .i64 x1, .int .i64 x2], .int .i64 er] w fun e w' => e = .returned (.bool true) ∧ Ext w w') ∧ ((ok4 a b c d && ok3 x y z) = true ∧ (∀ w, Calls Tryz.prog 32 #[.agg #[.int .i64 a, .int .i64 b, .int .i64 c, .int .i64 d], .agg #[.int .i64 x, .int .i64 y, .int .i64 z]] w fun e w' => e = .returned (.tuple #[.agg #[.int .i64 x0, .int .i64 x1, .int .i64 x2], .int .i64 er]) ∧ Ext w w') ∨ (ok4 a b c d && ok3 x y z) = false ∧ (x0 = 0 ∧ x1 = 0 ∧ x2 = 0 ∧ er = 1)) := by
  have M := fun w => qTurn_any a b c d x y z w
  cases h : (ok4 a b c d && ok3 x y z)
  · rw [turnR_bad h] at M
    exact ⟨0, 0, 0, 1, M, fun w => turned4_any 0 0 0 1 w (.inr ⟨rfl, rfl, rfl, by decide⟩), .inr ⟨rfl, rfl, rfl, rfl, rfl⟩⟩
  · obtain ⟨g1, g2⟩ := Bool.and_eq_true_iff.1 h
    have R := fun w => rturn_any a b c d x y z w g1 g2
    obtain ⟨s0, s1, s2, e, hr, hq⟩ := turnR_is a b c d x y z h
    rw [hr] at M R
    exact ⟨s0, s1, s2, e, M, fun w => turned4_any s0 s1 s2 e w hq, .inl ⟨rfl, R⟩⟩
theorem back_both (a b c d x y z : Int) (c1 : -9223372036854775808 ≤ b ∧ b ≤ 9223372036854775807) (c2 : -9223372036854775808 ≤ c ∧ c ≤ 9223372036854775807) (c3 : -9223372036854775808 ≤ d ∧ d ≤ 9223372036854775807) : ∃ x0 x1 x2 er : Int, (∀ w, Calls Tryz.prog 43 #[.agg #[.int .i64 a, .int .i64 b, .int .i64 c, .int .i64 d], .agg #[.int .i64 x, .int .i64 y, .int .i64 z]] w fun e w' => e = .returned (.tuple #[.agg #[.int .i64 x0, .int .i64 x1, .int .i64 x2], .int .i64 er]) ∧ Ext w w') ∧ (∀ w, Calls Tryz.prog 42 #[.agg #[.int .i64 x0, .int .i64 x1, .int .i64 x2], .int .i64 er, .agg #[.int .i64 x0, .int .i64 x1, .int .i64 x2], .int .i64 er] w fun e w' => e = .returned (.bool true) ∧ Ext w w') ∧ ((ok4 a b c d && ok3 x y z) = true ∧ (∀ w, Calls Tryz.prog 33 #[.agg #[.int .i64 a, .int .i64 b, .int .i64 c, .int .i64 d], .agg #[.int .i64 x, .int .i64 y, .int .i64 z]] w fun e w' => e = .returned (.tuple #[.agg #[.int .i64 x0, .int .i64 x1, .int .i64 x2], .int .i64 er]) ∧ Ext w w') ∨ (ok4 a b c d && ok3 x y z) = false ∧ (x0 = 0 ∧ x1 = 0 ∧ x2 = 0 ∧ er = 1)) := by
  have M := fun w => qBack_any a b c d x y z w
  have ho : ok4 a (wrap64 (-b)) (wrap64 (-c)) (wrap64 (-d)) = ok4 a b c d := by unfold ok4; rw [okW_wneg c1, okW_wneg c2, okW_wneg c3]
  cases h : (ok4 a b c d && ok3 x y z)
  · rw [turnR_bad (by rw [ho]; exact h)] at M
    exact ⟨0, 0, 0, 1, M, fun w => turned4_any 0 0 0 1 w (.inr ⟨rfl, rfl, rfl, by decide⟩), .inr ⟨rfl, rfl, rfl, rfl, rfl⟩⟩
  · obtain ⟨g1, g2⟩ := Bool.and_eq_true_iff.1 h
    obtain ⟨ha, hb, hc, hd⟩ := ok4_parts g1
    have R := fun w => rback_any a b c d x y z w g1 g2
    rw [wrap_neg hb, wrap_neg hc, wrap_neg hd] at M ho
    obtain ⟨s0, s1, s2, e, hr, hq⟩ := turnR_is a (-b) (-c) (-d) x y z (by rw [ho]; exact h)
    rw [hr] at M R
    exact ⟨s0, s1, s2, e, M, fun w => turned4_any s0 s1 s2 e w hq, .inl ⟨rfl, R⟩⟩
set_option maxHeartbeats 2000000 in
/-- all that is told of one entry -/
theorem qex_told (z : Nat → Int) (c1 : -9223372036854775808 ≤ z 1 ∧ z 1 ≤ 9223372036854775807) (c2 : -9223372036854775808 ≤ z 2 ∧ z 2 ≤ 9223372036854775807) (c3 : -9223372036854775808 ≤ z 3 ∧ z 3 ≤ 9223372036854775807) : ∃ (bA bB bV : Bool) (o1 o2 o3 ea eu en et eb A0 A1 A2 A3 C0 C1 C2 C3 U0 U1 U2 U3 T0 T1 T2 B0 B1 B2 S0 S1 S2 S3 X0 X1 X2 X3 : Int), (∀ w, Calls Tryz.prog 26 #[.agg #[.int .i64 (z 0), .int .i64 (z 1), .int .i64 (z 2), .int .i64 (z 3)]] w fun e w' => e = .returned (.bool bA) ∧ Ext w w') ∧ (bA = true ∧ o1 = 0 ∨ bA = false ∧ o1 = 1) ∧ (∀ w, Calls Tryz.prog 26 #[.agg #[.int .i64 (z 4), .int .i64 (z 5), .int .i64 (z 6), .int .i64 (z 7)]] w fun e w' => e = .returned (.bool bB) ∧ Ext w w') ∧ (bB = true ∧ o2 = o1 ∨ bB = false ∧ o2 = 1) ∧ (∀ w, Calls Tryz.prog 6 #[.agg #[.int .i64 (z 8), .int .i64 (z 9), .int .i64 (z 10)]] w fun e w' => e = .returned (.bool bV) ∧ Ext w w') ∧ (bV = true ∧ o3 = o1 ∨ bV = false ∧ o3 = 1) ∧ (∀ w, Calls Tryz.prog 36 #[.agg #[.int .i64 (z 0), .int .i64 (z 1), .int .i64 (z 2), .int .i64 (z 3)]] w fun e w' => e = .returned (.int .i64 o1) ∧ Ext w w') ∧ (∀ w, Calls Tryz.prog 34 #[.agg #[.int .i64 (z 0), .int .i64 (z 1), .int .i64 (z 2), .int .i64 (z 3)], .agg #[.int .i64 (z 4), .int .i64 (z 5), .int .i64 (z 6), .int .i64 (z 7)]] w fun e w' => e = .returned (.tuple #[.agg #[.int .i64 A0, .int .i64 A1, .int .i64 A2, .int .i64 A3], .int .i64 ea]) ∧ Ext w w') ∧ (∀ w, Calls Tryz.prog 37 #[.agg #[.int .i64 A0, .int .i64 A1, .int .i64 A2, .int .i64 A3], .int .i64 ea, .agg #[.int .i64 A0, .int .i64 A1, .int .i64 A2, .int .i64 A3], .int .i64 ea] w fun e w' => e = .returned (.bool true) ∧ Ext w w') ∧ (∀ w, Calls Tryz.prog 38 #[.agg #[.int .i64 (z 0), .int .i64 (z 1), .int .i64 (z 2), .int .i64 (z 3)]] w fun e w' => e = .returned (.tuple #[.agg #[.int .i64 C0, .int .i64 C1, .int .i64 C2, .int .i64 C3], .int .i64 o1]) ∧ Ext w w') ∧ (∀ w, Calls Tryz.prog 37 #[.agg #[.int .i64 C0, .int .i64 C1, .int .i64 C2, .int .i64 C3], .int .i64 o1, .agg #[.int .i64 C0, .int .i64 C1, .int .i64 C2, .int .i64 C3], .int .i64 o1] w fun e w' => e = .returned (.bool true) ∧ Ext w w') ∧ (∀ w, Calls Tryz.prog 39 #[.agg #[.int .i64 (z 0), .int .i64 (z 1), .int .i64 (z 2), .int .i64 (z 3)]] w fun e w' => e = .returned (.tuple #[.agg #[.int .i64 U0, .int .i64 U1, .int .i64 U2, .int .i64 U3], .int .i64 eu]) ∧ Ext w w') ∧ (∀ w, Calls Tryz.prog 37 #[.agg #[.int .i64 U0, .int .i64 U1, .int .i64 U2, .int .i64 U3], .int .i64 eu, .agg #[.int .i64 U0, .int .i64 U1, .int .i64 U2, .int .i64 U3], .int .i64 eu] w fun e w' => e = .returned (.bool true) ∧ Ext w w') ∧ (∀ w, Calls Tryz.prog 40 #[.agg #[.int .i64 (z 0), .int .i64 (z 1), .int .i64 (z 2), .int .i64 (z 3)]] w fun e w' => e = .returned (.tuple #[.int .i64 S0, .int .i64 en]) ∧ Ext w w') ∧ (∀ w, Calls Tryz.prog 41 #[.agg #[.int .i64 (z 0), .int .i64 (z 1), .int .i64 (z 2), .int .i64 (z 3)], .agg #[.int .i64 (z 8), .int .i64 (z 9), .int .i64 (z 10)]] w fun e w' => e = .returned (.tuple #[.agg #[.int .i64 T0, .int .i64 T1, .int .i64 T2], .int .i64 et]) ∧ Ext w w') ∧ (∀ w, Calls Tryz.prog 42 #[.agg #[.int .i64 T0, .int .i64 T1, .int .i64 T2], .int .i64 et, .agg #[.int .i64 T0, .int .i64 T1, .int .i64 T2], .int .i64 et] w fun e w' => e = .returned (.bool true) ∧ Ext w w') ∧ (∀ w, Calls Tryz.prog 43 #[.agg #[.int .i64 (z 0), .int .i64 (z 1), .int .i64 (z 2), .int .i64 (z 3)], .agg #[.int .i64 (z 8), .int .i64 (z 9), .int .i64 (z 10)]] w fun e w' => e = .returned (.tuple #[.agg #[.int .i64 B0, .int .i64 B1, .int .i64 B2], .int .i64 eb]) ∧ Ext w w') ∧ (∀ w, Calls Tryz.prog 42 #[.agg #[.int .i64 B0, .int .i64 B1, .int .i64 B2], .int .i64 eb, .agg #[.int .i64 B0, .int .i64 B1, .int .i64 B2], .int .i64 eb] w fun e w' => e = .returned (.bool true) ∧ Ext w w') ∧ (o2 = 0 ∧ (∀ w, Calls Tryz.prog 27 #[.agg #[.int .i64 (z 0), .int .i64 (z 1), .int .i64 (z 2), .int .i64 (z 3)], .agg #[.int .i64 (z 4), .int .i64 (z 5), .int .i64 (z 6), .int .i64 (z 7)]] w fun e w' => e = .returned (.tuple #[.agg #[.int .i64 A0, .int .i64 A1, .int .i64 A2, .int .i64 A3], .int .i64 ea]) ∧ Ext w w') ∨ o2 = 1 ∧ (A0 = 0 ∧ A1 = 0 ∧ A2 = 0 ∧ A3 = 0 ∧ ea = 1)) ∧ (o1 = 0 ∧ (∀ w, Calls Tryz.prog 28 #[.agg #[.int .i64 (z 0), .int .i64 (z 1), .int .i64 (z 2), .int .i64 (z 3)]] w fun e w' => e = .returned (.agg #[.int .i64 C0, .int .i64 C1, .int .i64 C2, .int .i64 C3]) ∧ Ext w w') ∧ (∀ w, Calls Tryz.prog 29 #[.agg #[.int .i64 (z 0), .int .i64 (z 1), .int .i64 (z 2), .int .i64 (z 3)]] w fun e w' => e = .returned (.tuple #[.agg #[.int .i64 U0, .int .i64 U1, .int .i64 U2, .int .i64 U3], .int .i64 eu]) ∧ Ext w w') ∧ (∀ w, Calls Tryz.prog 31 #[.agg #[.int .i64 (z 0), .int .i64 (z 1), .int .i64 (z 2), .int .i64 (z 3)], .agg #[.int .i64 C0, .int .i64 C1, .int .i64 C2, .int .i64 C3]] w fun e w' => (∃ r, e = .returned r ∧ IsFour w' r X0 X1 X2 X3) ∧ Ext w w') ∧ (∀ v w, IsFour w v X0 X1 X2 X3 → Calls Tryz.prog 30 #[v, .int .i64 30] w fun e' w' => e' = .returned (.tuple #[.agg #[.int .i64 S0, .int .i64 S1, .int .i64 S2, .int .i64 S3], .int .i64 en]) ∧ Ext w w') ∨ o1 = 1 ∧ (C0 = 0 ∧ C1 = 0 ∧ C2 = 0 ∧ C3 = 0) ∧ (U0 = 0 ∧ U1 = 0 ∧ U2 = 0 ∧ U3 = 0 ∧ eu = 1) ∧ S0 = 0 ∧ en = 1) ∧ (o3 = 0 ∧ (∀ w, Calls Tryz.prog 32 #[.agg #[.int .i64 (z 0), .int .i64 (z 1), .int .i64 (z 2), .int .i64 (z 3)], .agg #[.int .i64 (z 8), .int .i64 (z 9), .int .i64 (z 10)]] w fun e w' => e = .returned (.tuple #[.agg #[.int .i64 T0, .int .i64 T1, .int .i64 T2], .int .i64 et]) ∧ Ext w w') ∧ (∀ w, Calls Tryz.prog 33 #[.agg #[.int .i64 (z 0), .int .i64 (z 1), .int .i64 (z 2), .int .i64 (z 3)], .agg #[.int .i64 (z 8), .int .i64 (z 9), .int .i64 (z 10)]] w fun e w' => e = .returned (.tuple #[.agg #[.int .i64 B0, .int .i64 B1, .int .i64 B2], .int .i64 eb]) ∧ Ext w w') ∨ o3 = 1 ∧ (T0 = 0 ∧ T1 = 0 ∧ T2 = 0 ∧ et = 1) ∧ (B0 = 0 ∧ B1 = 0 ∧ B2 = 0 ∧ eb = 1)) := by
  obtain ⟨A0, A1, A2, A3, ea, PA, IA, RA⟩ := mul_both (z 0) (z 1) (z 2) (z 3) (z 4) (z 5) (z 6) (z 7)
  obtain ⟨C0, C1, C2, C3, o1, PC, IC, CK, RC⟩ := conjq_both (z 0) (z 1) (z 2) (z 3)
  obtain ⟨U0, U1, U2, U3, eu, PU, IU, RU⟩ := unitq_both (z 0) (z 1) (z 2) (z 3)
  obtain ⟨S0, S1, S2, S3, en, X0, X1, X2, X3, PN, RN⟩ := norm_both (z 0) (z 1) (z 2) (z 3)
  obtain ⟨T0, T1, T2, et, PT, IT, RT⟩ := turn_both (z 0) (z 1) (z 2) (z 3) (z 8) (z 9) (z 10)
  obtain ⟨B0, B1, B2, eb, PB, IB, RB⟩ := back_both (z 0) (z 1) (z 2) (z 3) (z 8) (z 9) (z 10) c1 c2 c3
  have HA := fun w => mayq_any (z 0) (z 1) (z 2) (z 3) w
  have HB := fun w => mayq_any (z 4) (z 5) (z 6) (z 7) w
  have HV := fun w => mayv_any (z 8) (z 9) (z 10) w
  cases gA : ok4 (z 0) (z 1) (z 2) (z 3)
  · rw [gA] at RA RC RU RN RT RB
    simp only [Bool.false_and, Bool.false_eq_true, false_and, true_and, false_or] at RA RC RU RN RT RB
    obtain ⟨rc0, rc1, rc2, rc3, rfl⟩ := RC
    refine ⟨ok4 (z 0) (z 1) (z 2) (z 3), ok4 (z 4) (z 5) (z 6) (z 7), ok3 (z 8) (z 9) (z 10), 1, 1, 1, ea, eu, en, et, eb, A0, A1, A2, A3, C0, C1, C2, C3, U0, U1, U2, U3, T0, T1, T2, B0, B1, B2, S0, S1, S2, S3, X0, X1, X2, X3, HA, .inr ⟨gA, rfl⟩, HB, ?_, HV, ?_, CK, PA, IA, PC, IC, PU, IU, PN, PT, IT, PB, IB, .inr ⟨rfl, RA⟩, .inr ⟨rfl, ⟨rc0, rc1, rc2, rc3⟩, RU, RN⟩, .inr ⟨rfl, RT, RB⟩⟩
    · cases ok4 (z 4) (z 5) (z 6) (z 7); exact .inr ⟨rfl, rfl⟩; exact .inl ⟨rfl, rfl⟩
    · cases ok3 (z 8) (z 9) (z 10); exact .inr ⟨rfl, rfl⟩; exact .inl ⟨rfl, rfl⟩
  · rw [gA] at RA RC RU RN RT RB
    simp only [Bool.true_and, Bool.true_eq_false, false_and, true_and, or_false] at RA RC RU RN RT RB
    obtain ⟨rfl, rfl, rfl, rfl, rfl⟩ := RC
    have R1 : (∀ w, Calls Tryz.prog 28 #[.agg #[.int .i64 (z 0), .int .i64 (z 1), .int .i64 (z 2), .int .i64 (z 3)]] w fun e w' => e = .returned (.agg #[.int .i64 (z 0), .int .i64 (-z 1), .int .i64 (-z 2), .int .i64 (-z 3)]) ∧ Ext w w') := fun w => rconj_any (z 0) (z 1) (z 2) (z 3) w gA
    obtain ⟨o2, M2, R2⟩ : ∃ o2 : Int, (ok4 (z 4) (z 5) (z 6) (z 7) = true ∧ o2 = 0 ∨ ok4 (z 4) (z 5) (z 6) (z 7) = false ∧ o2 = 1) ∧ (o2 = 0 ∧ (∀ w, Calls Tryz.prog 27 #[.agg #[.int .i64 (z 0), .int .i64 (z 1), .int .i64 (z 2), .int .i64 (z 3)], .agg #[.int .i64 (z 4), .int .i64 (z 5), .int .i64 (z 6), .int .i64 (z 7)]] w fun e w' => e = .returned (.tuple #[.agg #[.int .i64 A0, .int .i64 A1, .int .i64 A2, .int .i64 A3], .int .i64 ea]) ∧ Ext w w') ∨ o2 = 1 ∧ (A0 = 0 ∧ A1 = 0 ∧ A2 = 0 ∧ A3 = 0 ∧ ea = 1)) := by
      rcases RA with ⟨h, r⟩ | ⟨h, r⟩
      · exact ⟨0, .inl ⟨h, rfl⟩, .inl ⟨rfl, r⟩⟩
      · exact ⟨1, .inr ⟨h, rfl⟩, .inr ⟨rfl, r⟩⟩
    obtain ⟨o3, M3, R3⟩ : ∃ o3 : Int, (ok3 (z 8) (z 9) (z 10) = true ∧ o3 = 0 ∨ ok3 (z 8) (z 9) (z 10) = false ∧ o3 = 1) ∧ (o3 = 0 ∧ (∀ w, Calls Tryz.prog 32 #[.agg #[.int .i64 (z 0), .int .i64 (z 1), .int .i64 (z 2), .int .i64 (z 3)], .agg #[.int .i64 (z 8), .int .i64 (z 9), .int .i64 (z 10)]] w fun e w' => e = .returned (.tuple #[.agg #[.int .i64 T0, .int .i64 T1, .int .i64 T2], .int .i64 et]) ∧ Ext w w') ∧ (∀ w, Calls Tryz.prog 33 #[.agg #[.int .i64 (z 0), .int .i64 (z 1), .int .i64 (z 2), .int .i64 (z 3)], .agg #[.int .i64 (z 8), .int .i64 (z 9), .int .i64 (z 10)]] w fun e w' => e = .returned (.tuple #[.agg #[.int .i64 B0, .int .i64 B1, .int .i64 B2], .int .i64 eb]) ∧ Ext w w') ∨ o3 = 1 ∧ (T0 = 0 ∧ T1 = 0 ∧ T2 = 0 ∧ et = 1) ∧ (B0 = 0 ∧ B1 = 0 ∧ B2 = 0 ∧ eb = 1)) := by
      cases gV : ok3 (z 8) (z 9) (z 10)
      · rw [gV] at RT RB
        simp only [Bool.false_eq_true, false_and, true_and, false_or] at RT RB
        exact ⟨1, .inr ⟨rfl, rfl⟩, .inr ⟨rfl, RT, RB⟩⟩
      · rw [gV] at RT RB
        simp only [Bool.true_eq_false, false_and, true_and, or_false] at RT RB
        exact ⟨0, .inl ⟨rfl, rfl⟩, .inl ⟨rfl, RT, RB⟩⟩
    exact ⟨ok4 (z 0) (z 1) (z 2) (z 3), ok4 (z 4) (z 5) (z 6) (z 7), ok3 (z 8) (z 9) (z 10), 0, o2, o3, ea, eu, en, et, eb, A0, A1, A2, A3, z 0, -z 1, -z 2, -z 3, U0, U1, U2, U3, T0, T1, T2, B0, B1, B2, S0, S1, S2, S3, X0, X1, X2, X3, HA, .inl ⟨gA, rfl⟩, HB, M2, HV, M3, CK, PA, IA, PC, IC, PU, IU, PN, PT, IT, PB, IB, R2, .inl ⟨rfl, R1, RU, RN.1, RN.2⟩, R3⟩
end Go.Proofs.YtfmalpnlencmbaaGreat
