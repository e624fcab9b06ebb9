/- The reference of layer 1: OverRoot of a whole number by the root of one. gimbalref3: the squares' sum is small. -/
import Derived.Test.YtojcndgoihkfnaaOvm
import Derived.Test.YtojcndgoihkfnaaMg19
import Derived.Test.YtojcndgoihkfnaaMg43
namespace Go.Proofs.Ytojcndgoihkfnaa
open Go.RowKit
theorem rootQ_mul {N d s g : Nat} (hg : 0 < g) (h : RootQ N d s) : RootQ (g * N) (g * d) s := by
  obtain ⟨h1, h2, h3, h4⟩ := h
  have e1 : 4 * (g * N) = g * (4 * N) := by grind
  have e2 : (2 * s + 1) * (2 * s + 1) * (g * d) = g * ((2 * s + 1) * (2 * s + 1) * d) := by grind
  have e3 : (2 * s - 1) * (2 * s - 1) * (g * d) = g * ((2 * s - 1) * (2 * s - 1) * d) := by
    generalize 2 * s - 1 = q
    grind
  unfold RootQ
  rw [e1, e2, e3]
  refine ⟨Nat.mul_le_mul_left g h1, ?_, fun h => h3 (Nat.eq_of_mul_eq_mul_left hg h), fun hs h => h4 hs (Nat.eq_of_mul_eq_mul_left hg h)⟩
  rcases h2 with h2 | h2
  · exact .inl h2
  · exact .inr (Nat.mul_le_mul_left g h2)
theorem rootq_has (p n : Nat) (h0 : 0 < n) : ∃ k, RootQ p n k := by
  obtain ⟨k, k1, k2⟩ := exists_sqrt (p / n)
  have hm : k * k * n ≤ p := by rw [← Nat.le_div_iff_mul_le h0]; exact k1
  have hM : p < (k + 1) * (k + 1) * n := by rw [← Nat.div_lt_iff_lt_mul h0]; exact k2
  by_cases h : (2 * k + 1) * (2 * k + 1) * n < 4 * p ∨ (2 * k + 1) * (2 * k + 1) * n = 4 * p ∧ k % 2 = 1
  · exact ⟨k + 1, rootQ_up hM h⟩
  · exact ⟨k, rootQ_down h0 hm (by omega)⟩
theorem overroot_any (x : Int) (d k : Nat) (r1 r2 : Value) (w : World) (h1 : IsI w r1 x) (h2 : IsI w r2 (d : Int)) (hd : d ≠ 0) (hk : 3 ≤ k) (hk2 : k ≤ 150) (f1 : Fit k x) (f2 : Fit k (d : Int)) :
    Calls Try.prog 34 #[r1, r2] w fun e w' => (∃ (r : Value) (s : Nat), e = .returned r ∧ IsI w' r (if x < 0 then -(s : Int) else (s : Int)) ∧ RootQ (x.natAbs * x.natAbs) d s) ∧ Ext w w' := by
  have fx := f1.mul f1
  have sx : SmallI x := f1.small (by omega)
  have sxx : SmallI (x * x) := fx.small (by omega)
  have fd : Fit (k + k) (d : Int) := f2.le (by omega)
  have ex : x * x = ((x.natAbs * x.natAbs : Nat) : Int) := Int.natAbs_mul_self.symm
  obtain ⟨g, hg⟩ : ∃ g, g = Nat.gcd (x * x).natAbs d := ⟨_, rfl⟩
  have hg0 : 0 < g := by rw [hg]; exact Nat.gcd_pos_of_pos_right _ (by omega)
  have en : (x * x).natAbs = x.natAbs * x.natAbs := Int.natAbs_mul x x
  have dv1 : g ∣ x.natAbs * x.natAbs := by rw [hg, ← en]; exact Nat.gcd_dvd_left _ _
  have dv2 : g ∣ d := by rw [hg]; exact Nat.gcd_dvd_right _ _
  obtain ⟨N', hN⟩ := dv1
  obtain ⟨D', hD⟩ := dv2
  have hD0 : D' ≠ 0 := by rintro rfl; omega
  have eN : x * x / (g : Int) = (N' : Int) := by
    rw [ex, hN]
    have : (((g * N' : Nat) : Int)) = (g : Int) * (N' : Int) := by simp
    rw [this]
    exact Int.mul_ediv_cancel_left _ (by omega)
  have eD : d / g = D' := by rw [hD]; exact Nat.mul_div_cancel_left _ hg0
  have leN : N' ≤ x.natAbs * x.natAbs := by rw [hN]; exact Nat.le_mul_of_pos_left _ hg0
  have leD : D' ≤ d := by
    have := Nat.le_mul_of_pos_left D' hg0
    omega
  have fN : Fit (k + k) (N' : Int) := fx.of_le (by rw [en]; exact leN)
  have fD : Fit (k + k) (D' : Int) := fd.of_le leD
  obtain ⟨s, hs⟩ : ∃ s, RootQ N' D' s := rootq_has N' D' (by omega)
  have hS : RootQ (x.natAbs * x.natAbs) d s := by
    have := rootQ_mul hg0 hs
    rw [← hN, ← hD] at this
    exact this
  obtain ⟨u, rfl, ku⟩ := h1
  obtain ⟨v, rfl, kv⟩ := h2
  obtain ⟨a1, l1, c1, e1⟩ := ku.isSlice
  obtain ⟨a2, l2, c2, e2⟩ := kv.isSlice
  subst e1 e2
  have I1 : IsI w (.agg #[.bool (decide (x < 0)), .slice a1 l1 c1]) x := ⟨_, rfl, ku⟩
  have kv' : IsN w (.slice a2 l2 c2) d := kv
  have R := over_cut (decide (x < 0)) (decide ((d : Int) < 0)) a1 a2 l1 c1 l2 c2 x d s (N' : Int) D' w I1 kv'
    (fun r1 r2 w' i1 i2 => times_isI x x r1 r2 w' i1 i2 sx sx sxx)
    (fun r v w' i1 i2 => by
      have h := make_isQ (x * x) d (k + k) r v w' i1 i2 hd (by omega) fx fd
      rw [← hg, eN, eD] at h
      exact h)
    (fun q w' hq => by
      refine (rootnearq_any N' D' (k + k) q w' hq hD0 (by omega) (by omega) fN fD).mono ?_
      rintro e w'' ⟨⟨r, s', he, hr, hs'⟩, hx⟩
      obtain rfl : s' = s := rootQ_unique (by omega) hs' hs
      exact ⟨⟨r, he, hr⟩, hx⟩)
    (fun r w' hr => neg_isI (s : Int) r w' hr (by
      have : s ≤ x.natAbs := by
        apply Nat.le_of_not_gt
        intro hc
        obtain ⟨_, q, _, _⟩ := hS
        rcases q with q | q
        · omega
        · have m1 : (2 * x.natAbs + 1) * (2 * x.natAbs + 1) ≤ (2 * s - 1) * (2 * s - 1) := Nat.mul_le_mul (by omega) (by omega)
          have m2 : (2 * x.natAbs + 1) * (2 * x.natAbs + 1) * 1 ≤ (2 * s - 1) * (2 * s - 1) * d := Nat.mul_le_mul m1 (by omega)
          have e : (2 * x.natAbs + 1) * (2 * x.natAbs + 1) = 4 * (x.natAbs * x.natAbs) + 4 * x.natAbs + 1 := by grind
          omega
      exact (f1.of_le (y := (s : Int)) (by simpa using this)).small (by omega)))
  refine R.mono ?_
  rintro e w' ⟨⟨r, he, hr⟩, hx⟩
  refine ⟨⟨r, s, he, ?_, hS⟩, hx⟩
  by_cases hx0 : x < 0
  · rw [if_pos hx0]
    rw [decide_eq_true hx0] at hr
    exact hr
  · rw [if_neg hx0]
    rw [decide_eq_false hx0] at hr
    exact hr
end Go.Proofs.Ytojcndgoihkfnaa

namespace Go.Proofs.Ytojcndgoihkfnaa
open Go.RowKit Go.Shelf
theorem dot3_fit {a b c : Int} (h : ok3 a b c = true) : Fit 100 (dot3 a b c a b c) := by
  have e := sq3_dot a b c
  have l := sq3_lt h
  have p : (2 : Nat) ^ 100 = 1267650600228229401496703205376 := by decide
  unfold Fit
  rw [e, Int.natAbs_natCast]
  omega
end Go.Proofs.Ytojcndgoihkfnaa
