/- wide: Of, Times, By, Product. -/
import Derived.Test.YtbmocnigmpmfkaaW1m
namespace Go.Proofs.Ytbmocnigmpmfkaa
open Go.RowKit Go.Shelf

theorem of_l0 (v : Int) : IntKind.u64.wrap v = (l0 v : Int) := by rw [IntKind.wrap_u64, l0_cast]
theorem of_hi (v : Int) (h1 : -9223372036854775808 ≤ v) (h2 : v ≤ 9223372036854775807) : IntKind.u64.wrap (v / 9223372036854775808) = (l1 v : Int) ∧ IntKind.u64.wrap (v / 9223372036854775808) = (l2 v : Int) := by
  rw [IntKind.wrap_u64, l1_cast, l2_cast]
  by_cases h : v < 0 <;> omega
set_option maxHeartbeats 2000000 in
theorem ofw_any (v : Int) (w : World) (h1 : -9223372036854775808 ≤ v) (h2 : v ≤ 9223372036854775807) :
    Calls Try.prog 44 #[.int .i64 v] w fun e w' => (∃ r, e = .returned r ∧ IsW r v) ∧ Ext w w' := by
  go_enter Try.func44, Try.ntmps44
  go_wp2_with fail
  exact bodyPost_ret (v := .agg #[.int .u64 (IntKind.u64.wrap v), .int .u64 (IntKind.u64.wrap (v / 9223372036854775808)), .int .u64 (IntKind.u64.wrap (v / 9223372036854775808))]) (by simp [results, Try.results44, go_sem]) rfl ⟨⟨_, rfl, isW_of (of_l0 v) (of_hi v h1 h2).1 (of_hi v h1 h2).2⟩, by repeat (first | with_reducible assumption | with_reducible exact Ext.refl _ | with_reducible refine Ext.drew ?_ | with_reducible refine Ext.drewN ?_ _ | with_reducible refine Ext.alloc ?_ _ | with_reducible refine Ext.set ?_ (by first | exact Nat.le_refl _ | simp | (simp; omega)) _)⟩

set_option maxHeartbeats 2000000 in
theorem times_raw (a0 a1 a2 k p0 q0 p1 q1 p2 q2 s0 s1 s2 o0 o1 o2 : Int) (w : World)
    (M0 : Hid (∀ w, Calls Try.prog 77 #[.int .u64 a0, .int .u64 k] w fun e w' => e = .returned (.tuple #[.int .u64 p0, .int .u64 q0]) ∧ w' = w))
    (M1 : Hid (∀ w, Calls Try.prog 77 #[.int .u64 a1, .int .u64 k] w fun e w' => e = .returned (.tuple #[.int .u64 p1, .int .u64 q1]) ∧ w' = w))
    (M2 : Hid (∀ w, Calls Try.prog 77 #[.int .u64 a2, .int .u64 k] w fun e w' => e = .returned (.tuple #[.int .u64 p2, .int .u64 q2]) ∧ w' = w))
    (h0 : ∀ w, (callFunc 57 #[.int .u64 q0, .int .u64 0, .int .u64 0]).run Try.prog w = .ok (.value (.tuple #[.int .u64 s0, .int .u64 o0])) w)
    (h1 : ∀ w, (callFunc 57 #[.int .u64 q1, .int .u64 (IntKind.u64.wrap (p0 + o0)), .int .u64 0]).run Try.prog w = .ok (.value (.tuple #[.int .u64 s1, .int .u64 o1])) w)
    (h2 : ∀ w, (callFunc 57 #[.int .u64 q2, .int .u64 (IntKind.u64.wrap (p1 + o1)), .int .u64 0]).run Try.prog w = .ok (.value (.tuple #[.int .u64 s2, .int .u64 o2])) w) :
    Calls Try.prog 73 #[.agg #[.int .u64 a0, .int .u64 a1, .int .u64 a2], .int .u64 k] w fun e w' => e = .returned (.agg #[.int .u64 s0, .int .u64 s1, .int .u64 s2]) ∧ Ext w w' := by
  go_enter Try.func73, Try.ntmps73
  go_wp2_with fail
  refine wp_loop_rounds 4 ?_
  rw [rounds_succ]
  go_wp2_with fail
  refine (M0.out _).mono ?_
  rintro e wx ⟨rfl, hwx⟩
  have hwy := hwx.symm
  clear hwx
  subst hwy
  go_wp2_with fail
  rw [rounds_succ]
  go_wp2_with fail
  refine (M1.out _).mono ?_
  rintro e wx ⟨rfl, hwx⟩
  have hwy := hwx.symm
  clear hwx
  subst hwy
  go_wp2_with fail
  rw [rounds_succ]
  go_wp2_with fail
  refine (M2.out _).mono ?_
  rintro e wx ⟨rfl, hwx⟩
  have hwy := hwx.symm
  clear hwx
  subst hwy
  go_wp2_with fail
  rw [rounds_succ]
  go_wp2_with fail
  exact bodyPost_ret (v := .agg #[.int .u64 s0, .int .u64 s1, .int .u64 s2]) (by simp [results, Try.results73, go_sem]) rfl ⟨rfl, by repeat (first | with_reducible assumption | with_reducible exact Ext.refl _ | with_reducible refine Ext.drew ?_ | with_reducible refine Ext.drewN ?_ _ | with_reducible refine Ext.alloc ?_ _ | with_reducible refine Ext.set ?_ (by first | exact Nat.le_refl _ | simp | (simp; omega)) _)⟩
theorem wrap_mc (x k c : Nat) (hx : x < 18446744073709551616) (hk : k < 18446744073709551616) (hc : c < 18446744073709551616) :
    IntKind.u64.wrap (((x * k / 18446744073709551616 : Nat) : Int) + (((x * k % 18446744073709551616 + c + 0) / 18446744073709551616 : Nat) : Int)) = ((mc x k c : Nat) : Int) := by
  have h := (mc_parts x k c).2
  have hl := mc_lt x k c hx hk hc
  rw [← Int.natCast_add, h, IntKind.wrap_u64]
  omega
theorem timesw_any (a : Int) (k : Nat) (u : Value) (w : World) (hu : IsW u a) (hk : k < 18446744073709551616) :
    Calls Try.prog 73 #[u, .int .u64 (k : Int)] w fun e w' => (∃ r, e = .returned r ∧ IsW r (a * k)) ∧ Ext w w' := by
  obtain ⟨x0, x1, x2, rfl, rfl, rfl, rfl⟩ := hu
  have b0 := l0_lt a
  have b1 := l1_lt a
  have b2 := l2_lt a
  have e := times_limbs a k
  have m0 := mc_lt (l0 a) k 0 b0 hk (by omega)
  have m1 := mc_lt (l1 a) k _ b1 hk m0
  have w0 := wrap_mc (l0 a) k 0 b0 hk (by omega)
  have w1 := wrap_mc (l1 a) k _ b1 hk m0
  have A0 := fun w => add64_run (l0 a * k % 18446744073709551616) 0 0 (by omega) w
  have A1 := fun w => add64_run (l1 a * k % 18446744073709551616) (mc (l0 a) k 0) 0 (by omega) w
  have A2 := fun w => add64_run (l2 a * k % 18446744073709551616) (mc (l1 a) k (mc (l0 a) k 0)) 0 (by omega) w
  rw [← w0] at A1
  rw [← w1] at A2
  refine (times_raw _ _ _ _ _ _ _ _ _ _ _ _ _ _ _ _ w (fun w => mul64_any (l0 a) k b0 hk w) (fun w => mul64_any (l1 a) k b1 hk w) (fun w => mul64_any (l2 a) k b2 hk w) A0 A1 A2).mono ?_
  rintro r w1 ⟨rfl, x1⟩
  refine ⟨⟨_, rfl, isW_of (congrArg Int.ofNat ?_) (congrArg Int.ofNat ?_) (congrArg Int.ofNat ?_)⟩, x1⟩
  · exact (mc_parts _ _ _).1.trans e.1
  · exact (mc_parts _ _ _).1.trans e.2.1
  · exact (mc_parts _ _ _).1.trans e.2.2

theorem neg_size (b : Int) (h1 : -9223372036854775808 ≤ b) (h : b < 0) : IntKind.u64.wrap (wrap64 (-b)) = ((b.natAbs : Nat) : Int) := by
  rw [IntKind.wrap_u64]; unfold wrap64; omega
set_option maxHeartbeats 2000000 in
theorem byw_any (a b : Int) (u : Value) (w : World) (hu : IsW u a) (k1 : -9223372036854775808 ≤ b) (k2 : b ≤ 9223372036854775807) :
    Calls Try.prog 56 #[u, .int .i64 b] w fun e w' => (∃ r, e = .returned r ∧ IsW r (a * b)) ∧ Ext w w' := by
  have HT : ∀ w, Calls Try.prog 73 #[u, .int .u64 ((b.natAbs : Nat) : Int)] w fun e w' => (∃ r, e = .returned r ∧ IsW r (a * (b.natAbs : Nat))) ∧ Ext w w' := fun w => timesw_any a b.natAbs u w hu (by omega)
  by_cases hb : b < 0
  · have HN : Hid (∀ u w, IsW u (a * (b.natAbs : Nat)) → Calls Try.prog 74 #[u] w fun e w' => (∃ r, e = .returned r ∧ IsW r (a * b)) ∧ Ext w w') := by
      intro u w hu
      have h := negw_any _ u w hu
      have e : -(a * (b.natAbs : Nat)) = a * b := by
        rw [← Int.mul_neg]; congr 1; omega
      rw [e] at h
      exact h
    have HT2 : Hid (∀ w, Calls Try.prog 73 #[u, .int .u64 (IntKind.u64.wrap (wrap64 (-b)))] w fun e w' => (∃ r, e = .returned r ∧ IsW r (a * (b.natAbs : Nat))) ∧ Ext w w') := by
      intro w
      rw [neg_size b k1 hb]
      exact HT w
    obtain ⟨a0, a1, a2, rfl, ha⟩ := hu
    clear ha k1 k2 HT
    go_enter Try.func56, Try.ntmps56
    go_wp2_with fail
    refine (HT2.out _).mono ?_
    rintro e w2 ⟨⟨u2, rfl, hu2⟩, x2⟩
    go_wp2_with fail
    refine (HN.out _ _ hu2).mono ?_
    rintro e w3 ⟨⟨u3, rfl, y0, y1, y2, rfl, hr⟩, x3⟩
    have X3 := x2.trans x3
    have HR : Hid _ := hr
    clear hr
    have X4 : Ext w w3 := Ext.trans (by repeat (first | with_reducible assumption | with_reducible exact Ext.refl _ | with_reducible refine Ext.drew ?_ | with_reducible refine Ext.drewN ?_ _ | with_reducible refine Ext.alloc ?_ _ | with_reducible refine Ext.set ?_ (by first | exact Nat.le_refl _ | (dsimp only; omega) | (simp; done)) _)) X3
    obtain ⟨c0, c1, c2, f0, f1, f2, hz⟩ : H3 w3 (w.heap.size + 1) _ _ _ := (h3_at (by simp)).ext X3
    clear x2 x3 X3 hu2
    go_wp2_with fail
    exact bodyPost_ret (v := .agg #[.int .u64 y0, .int .u64 y1, .int .u64 y2]) (by simp [results, Try.results56, go_sem, c0, c1, c2]) rfl ⟨⟨_, rfl, _, _, _, rfl, HR.out⟩, by repeat (first | with_reducible assumption | with_reducible exact Ext.refl _ | with_reducible refine Ext.drew ?_ | with_reducible refine Ext.drewN ?_ _ | with_reducible refine Ext.alloc ?_ _ | with_reducible refine Ext.set ?_ (by first | exact Nat.le_refl _ | (dsimp only; omega) | (simp; done)) _)⟩
  · have HT2 : Hid (∀ w, Calls Try.prog 73 #[u, .int .u64 b] w fun e w' => (∃ r, e = .returned r ∧ IsW r (a * b)) ∧ Ext w w') := by
      intro w
      have h := HT w
      have e : ((b.natAbs : Nat) : Int) = b := by omega
      rw [e] at h
      exact h
    have hb' : 0 ≤ b := by omega
    obtain ⟨a0, a1, a2, rfl, ha⟩ := hu
    clear ha k1 HT
    go_enter Try.func56, Try.ntmps56
    go_wp2_with fail
    refine (HT2.out _).mono ?_
    rintro e w3 ⟨⟨u3, rfl, y0, y1, y2, rfl, hr⟩, X3⟩
    have HR : Hid _ := hr
    clear hr
    have X4 : Ext w w3 := Ext.trans (by repeat (first | with_reducible assumption | with_reducible exact Ext.refl _ | with_reducible refine Ext.drew ?_ | with_reducible refine Ext.drewN ?_ _ | with_reducible refine Ext.alloc ?_ _ | with_reducible refine Ext.set ?_ (by first | exact Nat.le_refl _ | (dsimp only; omega) | (simp; done)) _)) X3
    obtain ⟨c0, c1, c2, f0, f1, f2, hz⟩ : H3 w3 (w.heap.size + 1) _ _ _ := (h3_at (by simp)).ext X3
    clear X3
    go_wp2_with fail
    exact bodyPost_ret (v := .agg #[.int .u64 y0, .int .u64 y1, .int .u64 y2]) (by simp [results, Try.results56, go_sem, c0, c1, c2]) rfl ⟨⟨_, rfl, _, _, _, rfl, HR.out⟩, by repeat (first | with_reducible assumption | with_reducible exact Ext.refl _ | with_reducible refine Ext.drew ?_ | with_reducible refine Ext.drewN ?_ _ | with_reducible refine Ext.alloc ?_ _ | with_reducible refine Ext.set ?_ (by first | exact Nat.le_refl _ | (dsimp only; omega) | (simp; done)) _)⟩

set_option maxHeartbeats 2000000 in
theorem productw_any (a b : Int) (w : World) (h1 : -9223372036854775808 ≤ a) (h2 : a ≤ 9223372036854775807) (k1 : -9223372036854775808 ≤ b) (k2 : b ≤ 9223372036854775807) :
    Calls Try.prog 41 #[.int .i64 a, .int .i64 b] w fun e w' => (∃ r, e = .returned r ∧ IsW r (a * b)) ∧ Ext w w' := by
  have HO : Hid (∀ w, Calls Try.prog 44 #[.int .i64 a] w fun e w' => (∃ r, e = .returned r ∧ IsW r a) ∧ Ext w w') := fun w => ofw_any a w h1 h2
  have HB : Hid (∀ u w, IsW u a → Calls Try.prog 56 #[u, .int .i64 b] w fun e w' => (∃ r, e = .returned r ∧ IsW r (a * b)) ∧ Ext w w') := fun u w hu => byw_any a b u w hu k1 k2
  clear h1 h2 k1 k2
  go_enter Try.func41, Try.ntmps41
  go_wp2_with fail
  refine (HO.out _).mono ?_
  rintro e w1 ⟨⟨u1, rfl, hu1⟩, x1⟩
  go_wp2_with fail
  refine (HB.out _ _ hu1).mono ?_
  rintro e w3 ⟨⟨u3, rfl, y0, y1, y2, rfl, hr⟩, x3⟩
  have HR : Hid _ := hr
  clear hr
  have X3 := x1.trans x3
  have X4 : Ext w w3 := Ext.trans (by repeat (first | with_reducible assumption | with_reducible exact Ext.refl _ | with_reducible refine Ext.drew ?_ | with_reducible refine Ext.drewN ?_ _ | with_reducible refine Ext.alloc ?_ _ | with_reducible refine Ext.set ?_ (by first | exact Nat.le_refl _ | (dsimp only; omega) | (simp; done)) _)) X3
  obtain ⟨c0, c1, c2, f0, f1, f2, hz⟩ : H3 w3 w.heap.size _ _ _ := (h3_at rfl).ext X3
  clear x1 x3 X3 hu1
  go_wp2_with fail
  exact bodyPost_ret (v := .agg #[.int .u64 y0, .int .u64 y1, .int .u64 y2]) (by simp [results, Try.results41, go_sem, c0, c1, c2]) rfl ⟨⟨_, rfl, _, _, _, rfl, HR.out⟩, by repeat (first | with_reducible assumption | with_reducible exact Ext.refl _ | with_reducible refine Ext.drew ?_ | with_reducible refine Ext.drewN ?_ _ | with_reducible refine Ext.alloc ?_ _ | with_reducible refine Ext.set ?_ (by first | exact Nat.le_refl _ | (dsimp only; omega) | (simp; done)) _)⟩
end Go.Proofs.Ytbmocnigmpmfkaa
