/- wide: Root, whole. -/
import Derived.Test.YtcnpjpkmmooedabW6
namespace Go.Proofs.Ytcnpjpkmmooedab
open Go.RowKit Go.Shelf

theorem exists_sqrt (N : Nat) : ∃ k, k * k ≤ N ∧ N < (k + 1) * (k + 1) := by
  induction N with
  | zero => exact ⟨0, by omega, by omega⟩
  | succ N ih =>
    obtain ⟨k, h1, h2⟩ := ih
    by_cases h : N + 1 < (k + 1) * (k + 1)
    · exact ⟨k, by omega, h⟩
    · refine ⟨k + 1, by omega, ?_⟩
      have : (k + 1) * (k + 1) < (k + 1 + 1) * (k + 1 + 1) := Nat.mul_lt_mul_of_lt_of_le (by omega) (by omega) (by omega)
      omega
theorem sqrt_unique {N a b : Nat} (a1 : a * a ≤ N) (a2 : N < (a + 1) * (a + 1)) (b1 : b * b ≤ N) (b2 : N < (b + 1) * (b + 1)) : a = b := by
  rcases Nat.lt_trichotomy a b with h | h | h
  · have := Nat.mul_le_mul (show a + 1 ≤ b by omega) (show a + 1 ≤ b by omega); omega
  · exact h
  · have := Nat.mul_le_mul (show b + 1 ≤ a by omega) (show b + 1 ≤ a by omega); omega
theorem rootw_any (p n : Nat) (u v : Value) (w : World) (hu : IsW u p) (hv : IsW v n) (h0 : 0 < n) (hn : n < 4951760157141521099596496896) (hp : p / n < 4951760157141521099596496896) (hp2 : p < 98079714615416886934934209737619787751599303819750539264) :
    Calls Try.prog 58 #[u, v] w fun e w' => (∃ r, e = .returned r ∧ ∃ k : Nat, IsW r k ∧ RootQ p n k ∧ k ≤ 70368744177664) ∧ Ext w w' := by
  obtain ⟨k, k1, k2⟩ := exists_sqrt (p / n)
  have kb : k < 70368744177664 := by
    apply Decidable.byContradiction
    intro hh
    have := Nat.mul_le_mul (show 70368744177664 ≤ k by omega) (show 70368744177664 ≤ k by omega)
    have e : 70368744177664 * 70368744177664 = 4951760157141521099596496896 := by decide
    omega
  have hm : k * k * n ≤ p := by rw [← Nat.le_div_iff_mul_le h0]; exact k1
  have hM : p < (k + 1) * (k + 1) * n := by rw [← Nat.div_lt_iff_lt_mul h0]; exact k2
  have HR : ∀ w', Calls Try.prog 77 #[u, v] w' fun e w'' => e = .returned (.int .u64 (k : Int)) ∧ Ext w' w'' := by
    intro w'
    refine (rootDownw_any p n u v w' hu hv h0 hn hp hp2).mono ?_
    rintro e w1 ⟨⟨R, rfl, r1, r2, r3⟩, x⟩
    rw [sqrt_unique r1 r2 k1 k2]
    exact ⟨rfl, x⟩
  have eo : ((2 * k + 1 : Nat) : Int) = 2 * (k : Int) + 1 := by omega
  have b6 := sq_bound (n := n) (X := 2 * k + 1) hn (by omega)
  have e6 : (n : Int) * (2 * (k : Int) + 1) * (2 * (k : Int) + 1) = ((n * (2 * k + 1) * (2 * k + 1) : Nat) : Int) := by rw [Int.natCast_mul, Int.natCast_mul, eo]
  have HT4 : ∀ w', Calls Try.prog 60 #[u, .int .u64 4] w' fun e w'' => (∃ r, e = .returned r ∧ IsW r ((p : Int) * 4)) ∧ Ext w' w'' := fun w' => timesw_any p 4 u w' hu (by omega)
  have HT1 : ∀ w', Calls Try.prog 60 #[v, .int .u64 (2 * (k : Int) + 1)] w' fun e w'' => (∃ r, e = .returned r ∧ IsW r ((n : Int) * (2 * (k : Int) + 1))) ∧ Ext w' w'' := fun w' => by
    have h := timesw_any n (2 * k + 1) v w' hv (by omega)
    rw [eo] at h; exact h
  have HT2 : ∀ t w', IsW t ((n : Int) * (2 * (k : Int) + 1)) → Calls Try.prog 60 #[t, .int .u64 (2 * (k : Int) + 1)] w' fun e w'' => (∃ r, e = .returned r ∧ IsW r ((n : Int) * (2 * (k : Int) + 1) * (2 * (k : Int) + 1))) ∧ Ext w' w'' := fun t w' ht => by
    have h := timesw_any _ (2 * k + 1) t w' ht (by omega)
    rw [eo] at h; exact h
  have HS : ∀ t w', IsW t ((p : Int) * 4 - (n : Int) * (2 * (k : Int) + 1) * (2 * (k : Int) + 1)) → Calls Try.prog 79 #[t] w' fun e w'' => e = .returned (.int .i64 (sgn ((p : Int) * 4 - (n : Int) * (2 * (k : Int) + 1) * (2 * (k : Int) + 1)))) ∧ Ext w' w'' := fun t w' ht => signw_any _ t w' ht (by rw [e6]; apply inW_of; omega)
  have c6 : n * (2 * k + 1) * (2 * k + 1) = (2 * k + 1) * (2 * k + 1) * n := by rw [Nat.mul_assoc, Nat.mul_comm]
  obtain ⟨a0, a1, a2, rfl, ha⟩ := hu
  obtain ⟨b0, b1, b2, rfl, hb⟩ := hv
  refine (root_raw a0 a1 a2 b0 b1 b2 k _ _ _ _ _ (fun r => ∃ k : Nat, IsW r k ∧ RootQ p n k ∧ k ≤ 70368744177664) w (by omega) (by omega) rfl HR HT4 HT1 HT2 (fun t t' w' h h' => minus_any _ _ t t' w' h h') HS ?_ ?_)
  · intro h
    refine ⟨k + 1, isW_small _ (by omega) (by omega), rootQ_up hM ?_, by omega⟩
    rw [e6] at h
    unfold sgn at h
    split at h
    · right; omega
    · split at h
      · omega
      · left; omega
  · intro h
    refine ⟨k, isW_small _ (by omega) (by omega), rootQ_down h0 hm ?_, by omega⟩
    rw [e6] at h
    unfold sgn at h
    split at h
    · right; omega
    · split at h
      · left; omega
      · omega
end Go.Proofs.Ytcnpjpkmmooedab
