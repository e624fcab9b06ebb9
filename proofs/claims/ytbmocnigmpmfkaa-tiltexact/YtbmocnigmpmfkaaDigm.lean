/- Plain numbers: digits. -/
namespace Go.Proofs.Ytbmocnigmpmfkaa.Dig

def val (B : Nat) : List Nat → Nat
  | [] => 0
  | x :: xs => x + B * val B xs
/-- every digit is below B -/
def Ok (B : Nat) (xs : List Nat) : Prop := ∀ i, xs.getD i 0 < B
def digsF (B : Nat) : Nat → Nat → List Nat
  | 0, _ => []
  | f + 1, n => if n = 0 then [] else n % B :: digsF B f (n / B)
/-- the digits of n, the lowest first, none of 0 on top -/
def digs (B n : Nat) : List Nat := digsF B n n

theorem digsF_fuel (B : Nat) (hB : 2 ≤ B) : ∀ f g n, n ≤ f → n ≤ g → digsF B f n = digsF B g n := by
  intro f
  induction f with
  | zero => intro g n h _; obtain rfl : n = 0 := by omega
            cases g <;> simp [digsF]
  | succ f ih =>
    intro g n h1 h2
    cases g with
    | zero => obtain rfl : n = 0 := by omega
              simp [digsF]
    | succ g =>
      simp only [digsF]
      by_cases h0 : n = 0
      · rw [if_pos h0, if_pos h0]
      · rw [if_neg h0, if_neg h0]
        have : n / B < n := Nat.div_lt_self (by omega) (by omega)
        rw [ih g (n / B) (by omega) (by omega)]
theorem digs_zero (B : Nat) : digs B 0 = [] := rfl
theorem digs_step (B n : Nat) (hB : 2 ≤ B) (h : n ≠ 0) : digs B n = n % B :: digs B (n / B) := by
  unfold digs
  obtain ⟨m, rfl⟩ : ∃ m, n = m + 1 := ⟨n - 1, by omega⟩
  rw [digsF, if_neg h]
  have : (m + 1) / B < m + 1 := Nat.div_lt_self (by omega) (by omega)
  rw [digsF_fuel B hB m ((m + 1) / B) _ (by omega) (by omega)]

theorem val_append (B : Nat) (xs ys : List Nat) : val B (xs ++ ys) = val B xs + B ^ xs.length * val B ys := by
  induction xs with
  | nil => simp [val]
  | cons x xs ih =>
    simp only [List.cons_append, val, List.length_cons, ih, Nat.pow_succ, Nat.mul_add]
    rw [Nat.mul_comm (B ^ xs.length) B, Nat.mul_assoc]
    omega
theorem val_snoc (B : Nat) (xs : List Nat) (z : Nat) : val B (xs ++ [z]) = val B xs + B ^ xs.length * z := by
  rw [val_append]; simp [val]
theorem val_take_succ (B : Nat) (xs : List Nat) (k : Nat) : val B (xs.take (k + 1)) = val B (xs.take k) + B ^ k * xs.getD k 0 := by
  by_cases h : k < xs.length
  · rw [List.take_succ_eq_append_getElem h, val_snoc, List.length_take, Nat.min_eq_left (by omega), List.getD_eq_getElem?_getD, List.getElem?_eq_getElem h]
    rfl
  · rw [List.take_of_length_le (by omega), List.take_of_length_le (by omega), List.getD_eq_getElem?_getD, List.getElem?_eq_none (by omega)]
    simp
theorem ok_take {B : Nat} {xs : List Nat} (h : Ok B xs) (k : Nat) : Ok B (xs.take k) := by
  intro i
  by_cases hi : i < k
  · have := h i
    rw [List.getD_eq_getElem?_getD] at *
    rw [List.getElem?_take_of_lt hi]; exact this
  · have := h i
    rw [List.getD_eq_getElem?_getD, List.getElem?_eq_none (by rw [List.length_take]; omega)]
    show 0 < B
    omega
theorem ok_tail {B x : Nat} {xs : List Nat} (h : Ok B (x :: xs)) : Ok B xs := fun i => by simpa using h (i + 1)
theorem ok_nil {B : Nat} (h : 0 < B) : Ok B [] := fun i => by simpa using h
theorem ok_cons {B x : Nat} {xs : List Nat} (hx : x < B) (h : Ok B xs) : Ok B (x :: xs)
  | 0 => by simpa using hx
  | i + 1 => by simpa using h i
theorem ok_snoc {B : Nat} {xs : List Nat} {z : Nat} (h : Ok B xs) (hz : z < B) : Ok B (xs ++ [z]) := by
  induction xs with
  | nil => exact ok_cons hz (ok_nil (by omega))
  | cons x xs ih => exact ok_cons (by simpa using h 0) (ih (ok_tail h))
theorem ok_digs (B : Nat) (hB : 2 ≤ B) : ∀ f n, n ≤ f → Ok B (digs B n) := by
  intro f
  induction f with
  | zero => intro n h; obtain rfl : n = 0 := by omega
            exact ok_nil (by omega)
  | succ f ih =>
    intro n h
    by_cases h0 : n = 0
    · subst h0; exact ok_nil (by omega)
    · rw [digs_step B n hB h0]
      have : n / B < n := Nat.div_lt_self (by omega) (by omega)
      exact ok_cons (Nat.mod_lt _ (by omega)) (ih _ (by omega))
theorem val_digs (B : Nat) (hB : 2 ≤ B) : ∀ f n, n ≤ f → val B (digs B n) = n := by
  intro f
  induction f with
  | zero => intro n h; obtain rfl : n = 0 := by omega
            rfl
  | succ f ih =>
    intro n h
    by_cases h0 : n = 0
    · subst h0; rfl
    · rw [digs_step B n hB h0]
      have : n / B < n := Nat.div_lt_self (by omega) (by omega)
      simp only [val]
      rw [ih _ (by omega)]
      exact Nat.mod_add_div n B
theorem val_lt (B : Nat) : ∀ xs : List Nat, Ok B xs → val B xs < B ^ xs.length := by
  intro xs
  induction xs with
  | nil => intro _; simp [val]
  | cons x xs ih =>
    intro h
    have h1 := ih (ok_tail h)
    have h2 : x < B := by simpa using h 0
    simp only [val, List.length_cons, Nat.pow_succ]
    have h3 : B * (val B xs + 1) ≤ B * B ^ xs.length := Nat.mul_le_mul_left _ h1
    rw [Nat.mul_add, Nat.mul_comm B (B ^ xs.length)] at h3
    omega
/-- digits whose last one is not 0 are the digits of their number -/
theorem canon (B : Nat) (hB : 2 ≤ B) : ∀ xs : List Nat, Ok B xs → (xs = [] ∨ xs.getD (xs.length - 1) 0 ≠ 0) → digs B (val B xs) = xs := by
  intro xs
  induction xs with
  | nil => intro _ _; rfl
  | cons x xs ih =>
    intro h hl
    have h2 : x < B := by simpa using h 0
    have hl' : xs = [] ∨ xs.getD (xs.length - 1) 0 ≠ 0 := by
      cases xs with
      | nil => exact .inl rfl
      | cons y ys =>
        right
        rcases hl with hl | hl
        · exact absurd hl (by simp)
        · simpa using hl
    have h3 := ih (ok_tail h) hl'
    have hne : x + B * val B xs ≠ 0 := by
      cases xs with
      | nil =>
        rcases hl with hl | hl
        · exact absurd hl (by simp)
        · have : x ≠ 0 := by simpa using hl
          omega
      | cons y ys =>
        intro h0
        have hv : val B (y :: ys) = 0 := by
          have : B * val B (y :: ys) = 0 := by omega
          rcases Nat.mul_eq_zero.1 this with h | h
          · omega
          · exact h
        rw [hv] at h3
        exact absurd h3 (by simp [digs_zero])
    simp only [val]
    rw [digs_step B _ hB hne, Nat.add_mul_mod_self_left, Nat.mod_eq_of_lt h2, Nat.add_mul_div_left _ _ (by omega), Nat.div_eq_of_lt h2, Nat.zero_add, h3]
theorem val_take_zero (B : Nat) (xs : List Nat) (m : Nat) (h : ∀ j, m ≤ j → xs.getD j 0 = 0) : val B (xs.take m) = val B xs := by
  have key : ∀ d, val B (xs.take (m + d)) = val B (xs.take m) := by
    intro d
    induction d with
    | zero => rfl
    | succ d ih => rw [← Nat.add_assoc, val_take_succ, h (m + d) (by omega), ih]; simp
  have := key xs.length
  rw [List.take_of_length_le (by omega)] at this
  exact this.symm
theorem digs_length_le (B : Nat) (hB : 2 ≤ B) (n k : Nat) (h : n < B ^ k) : (digs B n).length ≤ k := by
  induction k generalizing n with
  | zero => obtain rfl : n = 0 := by simpa using h
            simp [digs_zero]
  | succ k ih =>
    by_cases h0 : n = 0
    · subst h0; simp [digs_zero]
    · rw [digs_step B n hB h0]
      have := ih (n / B) (by rw [Nat.div_lt_iff_lt_mul (by omega)]; rwa [Nat.pow_succ] at h)
      simp only [List.length_cons]; omega
theorem digs_nil (B n : Nat) (hB : 2 ≤ B) (h : digs B n = []) : n = 0 := by
  have := val_digs B hB n n (Nat.le_refl _)
  rw [h] at this
  exact this.symm
theorem okd (B n : Nat) (hB : 2 ≤ B) : Ok B (digs B n) := ok_digs B hB n n (Nat.le_refl _)
theorem vald (B n : Nat) (hB : 2 ≤ B) : val B (digs B n) = n := val_digs B hB n n (Nat.le_refl _)
end Go.Proofs.Ytbmocnigmpmfkaa.Dig
