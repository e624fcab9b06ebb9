/- Plain numbers: the nearest quotient rises with its dividend, does not change when both are tripled, is not above its dividend. -/
import Derived.Test.YtfcmacbhadpldaaFaces
namespace Go.Proofs.Ytfcmacbhadpldaa
open Go.RowKit

theorem near_bounds (n d : Nat) : n / d ≤ Num.near n d ∧ Num.near n d ≤ n / d + 1 := by
  unfold Num.near
  grind
theorem near_mono (n m d : Nat) (h : n ≤ m) (hd : 0 < d) : Num.near n d ≤ Num.near m d := by
  have hq : n / d ≤ m / d := Nat.div_le_div_right h
  by_cases he : n / d = m / d
  · have h1 := Nat.div_add_mod n d
    have h2 := Nat.div_add_mod m d
    have hr : n % d ≤ m % d := by rw [he] at h1; omega
    have l2 := Nat.mod_lt m hd
    unfold Num.near
    rw [he]
    generalize m / d = q at *
    generalize n % d = r at *
    generalize m % d = s at *
    clear h1 h2
    (repeat' split) <;> omega
  · have h1 := (near_bounds n d).2
    have h2 := (near_bounds m d).1
    omega
theorem near_triple (n d : Nat) (hd : 0 < d) : Num.near (3 * n) (3 * d) = Num.near n d := by
  have e1 : 3 * n / (3 * d) = n / d := Nat.mul_div_mul_left _ _ (by omega)
  have e2 : 3 * n % (3 * d) = 3 * (n % d) := Nat.mul_mod_mul_left _ _ _
  have l := Nat.mod_lt n hd
  unfold Num.near
  rw [e1, e2]
  generalize n / d = q at *
  generalize n % d = r at *
  (repeat' split) <;> omega
theorem near_le (n d : Nat) (hd : 0 < d) : Num.near n d ≤ n := by
  have h1 := Nat.div_add_mod n d
  have l := Nat.mod_lt n hd
  have h2 : n / d ≤ d * (n / d) := Nat.le_mul_of_pos_left _ hd
  have h3 : d = 1 ∨ 2 ≤ d := by omega
  unfold Num.near
  generalize n / d = q at *
  generalize n % d = r at *
  generalize d * q = dq at *
  split
  · omega
  · split
    · split <;> omega
    · omega

theorem nearW_ok {n d : Nat} (h : okW (nearW n d) = true) : nearW n d = Num.near n d := by
  unfold nearW at *
  split at h
  · exact absurd h (by decide)
  · rw [if_neg (by assumption)]
theorem nearW_small {n d : Nat} (h : n < 35184372088832) (hd : 0 < d) : nearW n d = Num.near n d ∧ Num.near n d < 35184372088832 := by
  have h1 := near_le n d hd
  refine ⟨?_, by omega⟩
  unfold nearW
  rw [if_neg]
  have := Nat.div_le_self n d
  omega

def Ord (p q : Int × Int) : Prop := p.2 = 0 → q.2 = 0 → p.1 ≤ q.1

/-- shares rise with their first number, the others being above 0 -/
theorem share_mono (a b c d : Int) (h : a ≤ b) (hc : 0 < c) (hd : 0 < d) : Ord (shareR a c d) (shareR b c d) := by
  unfold Ord shareR
  have hd0 : (d == 0) = false := by simp; omega
  simp only [hd0]
  intro h1 h2
  cases ha : okW (mag a c d)
  · simp [ha] at h1
  · cases hb : okW (mag b c d)
    · simp [hb] at h2
    · simp only [Bool.false_eq_true, if_false, if_true]
      unfold mag at *
      rw [nearW_ok ha, nearW_ok hb]
      have hdp : 0 < d.natAbs := by omega
      have hna : neg3 a c d = decide (a < 0) := by unfold neg3; have : decide (c < 0) = false := by simp; omega
                                                   have k : decide (d < 0) = false := by simp; omega
                                                   rw [this, k]; simp
      have hnb : neg3 b c d = decide (b < 0) := by unfold neg3; have : decide (c < 0) = false := by simp; omega
                                                   have k : decide (d < 0) = false := by simp; omega
                                                   rw [this, k]; simp
      rw [hna, hnb]
      unfold signed
      by_cases ga : a < 0
      · by_cases gb : b < 0
        · have := near_mono (b.natAbs * c.natAbs) (a.natAbs * c.natAbs) d.natAbs (Nat.mul_le_mul_right _ (by omega)) hdp
          simp only [ga, gb, decide_true, if_true]; omega
        · simp only [ga, gb, decide_true, decide_false, if_true, Bool.false_eq_true, if_false]; omega
      · have gb : ¬ b < 0 := by omega
        have := near_mono (a.natAbs * c.natAbs) (b.natAbs * c.natAbs) d.natAbs (Nat.mul_le_mul_right _ (by omega)) hdp
        simp only [ga, gb, decide_false, Bool.false_eq_true, if_false]; omega

theorem ratio_facts (a c : Int) (ha : okW a = true) (hc : 0 < c) : ∃ m : Int, shareR a 1 c = (m, 0) ∧ shareR (3 * a) 1 (3 * c) = (m, 0) ∧ shareR (-a) 1 c = (-m, 0) ∧ -35184372088832 < m ∧ m < 35184372088832 := by
  have hb := okW_bounds ha
  have hcp : 0 < c.natAbs := by omega
  obtain ⟨e1, l1⟩ := nearW_small (n := a.natAbs) (d := c.natAbs) (by omega) hcp
  have ok : ∀ k : Nat, k < 35184372088832 → okW (k : Int) = true := by intro k hk; unfold okW; simp; omega
  have m1 : mag a 1 c = Num.near a.natAbs c.natAbs := by unfold mag; rw [show (1 : Int).natAbs = 1 from rfl, Nat.mul_one]; exact e1
  have m3 : mag (-a) 1 c = Num.near a.natAbs c.natAbs := by unfold mag; rw [show (1 : Int).natAbs = 1 from rfl, Nat.mul_one, Int.natAbs_neg]; exact e1
  have m2 : mag (3 * a) 1 (3 * c) = Num.near a.natAbs c.natAbs := by
    unfold mag
    rw [show (1 : Int).natAbs = 1 from rfl, Nat.mul_one, Int.natAbs_mul, Int.natAbs_mul, show (3 : Int).natAbs = 3 from rfl]
    unfold nearW
    rw [if_neg, near_triple _ _ hcp]
    rw [Nat.mul_div_mul_left _ _ (by omega)]
    have := Nat.div_le_self a.natAbs c.natAbs
    omega
  have c0 : (c == 0) = false := by simp; omega
  have c3 : (3 * c == 0) = false := by simp; omega
  have kc : decide (c < 0) = false := by simp; omega
  have k3 : decide (3 * c < 0) = false := by simp; omega
  have k1 : decide ((1 : Int) < 0) = false := rfl
  refine ⟨signed (decide (a < 0)) (Num.near a.natAbs c.natAbs), ?_, ?_, ?_, ?_, ?_⟩
  · unfold shareR neg3; rw [c0, m1, ok _ l1, k1, kc]; simp
  · unfold shareR neg3; rw [c3, m2, ok _ l1, k1, k3]
    have : decide (3 * a < 0) = decide (a < 0) := by rw [decide_eq_decide]; omega
    rw [this]; simp
  · unfold shareR neg3; rw [c0, m3, ok _ l1, k1, kc]
    by_cases h0 : a = 0
    · subst h0
      have : Num.near (0 : Int).natAbs c.natAbs = 0 := by have := near_le 0 c.natAbs hcp; simpa using this
      rw [this]; simp [signed]
    · have : decide (-a < 0) = !decide (a < 0) := by rw [Bool.eq_iff_iff]; simp; omega
      rw [this]
      unfold signed
      cases decide (a < 0) <;> simp
  · unfold signed; split <;> omega
  · unfold signed; split <;> omega

theorem mul_ord (a b c : Int) (ha : okW a = true) (hb : okW b = true) (hc : okW c = true) (h : a ≤ b) (h0 : 0 < c) : Ord (mulR a c) (mulR b c) := by
  unfold mulR
  rw [if_pos (by rw [ha, hc]; rfl), if_pos (by rw [hb, hc]; rfl)]
  unfold prodV
  exact share_mono a b c 1073741824 h h0 (by omega)
theorem div_ord (a b c : Int) (ha : okW a = true) (hb : okW b = true) (hc : okW c = true) (h : a ≤ b) (h0 : 0 < c) : Ord (divR a c) (divR b c) := by
  unfold divR
  rw [if_pos (by rw [ha, hc]; rfl), if_pos (by rw [hb, hc]; rfl)]
  unfold quoV
  exact share_mono a b 1073741824 c h (by omega) h0
theorem Ord.ways {p q : Int × Int} (h : Ord p q) : (p.2 == 0) = false ∨ (p.2 == 0) = true ∧ (q.2 == 0) = false ∨ (p.2 == 0) = true ∧ (q.2 == 0) = true ∧ p.1 ≤ q.1 := by
  unfold Ord at h
  by_cases h1 : p.2 = 0
  · by_cases h2 : q.2 = 0
    · exact .inr (.inr ⟨by simp [h1], by simp [h2], h h1 h2⟩)
    · exact .inr (.inl ⟨by simp [h1], by simpa using h2⟩)
  · exact .inl (by simpa using h1)
end Go.Proofs.Ytfcmacbhadpldaa
