/- Plain numbers: lengths in bits, shifts down, long division. -/
import Derived.Test.YtbmocnigmpmfkaaDigm
namespace Go.Proofs.Ytbmocnigmpmfkaa.Dig

theorem digs_getD (B : Nat) (hB : 2 ≤ B) : ∀ i n, (digs B n).getD i 0 = n / B ^ i % B := by
  intro i
  induction i with
  | zero =>
    intro n
    by_cases h : n = 0
    · subst h; simp [digs_zero]
    · rw [digs_step B n hB h]; simp
  | succ i ih =>
    intro n
    by_cases h : n = 0
    · subst h; simp [digs_zero]
    · rw [digs_step B n hB h]
      simp only [List.getD_cons_succ]
      rw [ih, Nat.div_div_eq_div_mul, Nat.pow_succ, Nat.mul_comm B]

def blen (n : Nat) : Nat := if h : n = 0 then 0 else blen (n / 2) + 1
  decreasing_by omega
theorem blen_zero : blen 0 = 0 := by unfold blen; rfl
theorem blen_pos (n : Nat) (h : n ≠ 0) : blen n = blen (n / 2) + 1 := by
  rw [blen, dif_neg h]
theorem blen_shl (t k r : Nat) (ht : t ≠ 0) (hr : r < 2 ^ k) : blen (t * 2 ^ k + r) = blen t + k := by
  induction k generalizing r with
  | zero =>
    have : r = 0 := by simpa using hr
    subst this; simp
  | succ k ih =>
    have hp : 0 < 2 ^ k := Nat.pow_pos (by omega)
    have h1 : 1 * 2 ^ k ≤ t * 2 ^ k := Nat.mul_le_mul_right _ (by omega)
    have e1 : t * 2 ^ (k + 1) = 2 * (t * 2 ^ k) := by rw [Nat.pow_succ, ← Nat.mul_assoc, Nat.mul_comm]
    rw [blen_pos _ (by omega)]
    have e2 : (t * 2 ^ (k + 1) + r) / 2 = t * 2 ^ k + r / 2 := by omega
    rw [e2, ih (r / 2) (by rw [Nat.pow_succ] at hr; omega)]
    omega
theorem lt_blen : ∀ n, n < 2 ^ blen n := by
  intro n
  induction n using Nat.strongRecOn with
  | _ n ih =>
    by_cases h : n = 0
    · subst h; simp [blen_zero]
    · have := ih (n / 2) (by omega)
      rw [blen_pos n h, Nat.pow_succ]
      omega
theorem blen_le : ∀ n k, n < 2 ^ k → blen n ≤ k := by
  intro n
  induction n using Nat.strongRecOn with
  | _ n ih =>
    intro k hk
    by_cases h : n = 0
    · subst h; simp [blen_zero]
    · cases k with
      | zero => simp at hk; omega
      | succ k =>
        have := ih (n / 2) (by omega) k (by rw [Nat.pow_succ] at hk; omega)
        rw [blen_pos n h]
        omega
theorem blen_ge (n : Nat) (h : n ≠ 0) : 2 ^ blen n ≤ 2 * n := by
  apply Nat.le_of_not_lt
  intro hlt
  have h1 := blen_pos n h
  rw [h1, Nat.pow_succ] at hlt
  have := blen_le n (blen (n / 2)) (by omega)
  omega

/-- one limb of a number shifted down -/
theorem down_limb (X s j : Nat) (hs : s ≤ 63) :
    X / 18446744073709551616 ^ j % 18446744073709551616 / 2 ^ s + (X / 18446744073709551616 ^ (j + 1) % 18446744073709551616) % 2 ^ s * 2 ^ (64 - s) = X / 18446744073709551616 ^ j / 2 ^ s % 18446744073709551616 := by
  rw [Nat.pow_succ, ← Nat.div_div_eq_div_mul]
  generalize X / 18446744073709551616 ^ j = Y
  have hp : 0 < 2 ^ s := Nat.pow_pos (by omega)
  have hq : 0 < 2 ^ (64 - s) := Nat.pow_pos (by omega)
  have e64 : 2 ^ s * 2 ^ (64 - s) = 18446744073709551616 := by rw [← Nat.pow_add, show s + (64 - s) = 64 by omega]
  have hd : 2 ^ s ∣ 18446744073709551616 := ⟨_, e64.symm⟩
  rw [Nat.mod_mod_of_dvd _ hd]
  have hx : Y % 18446744073709551616 < 18446744073709551616 := Nat.mod_lt _ (by omega)
  have hY := Nat.mod_add_div Y 18446744073709551616
  generalize Y / 18446744073709551616 = Z at *
  generalize Y % 18446744073709551616 = x at *
  have hz := Nat.mod_add_div Z (2 ^ s)
  have e1 : Y / 2 ^ s = x / 2 ^ s + 2 ^ (64 - s) * Z := by
    rw [← hY, ← e64, Nat.mul_assoc, Nat.add_mul_div_left _ _ hp]
  have e2 : 2 ^ (64 - s) * Z = Z % 2 ^ s * 2 ^ (64 - s) + 18446744073709551616 * (Z / 2 ^ s) := by
    rw [← e64, Nat.mul_comm (2 ^ s) (2 ^ (64 - s)), Nat.mul_assoc, Nat.mul_comm (Z % 2 ^ s), ← Nat.mul_add, hz]
  rw [e1, e2, ← Nat.add_assoc, Nat.add_mul_mod_self_left]
  refine (Nat.mod_eq_of_lt ?_).symm
  have h1 : x / 2 ^ s < 2 ^ (64 - s) := by rw [Nat.div_lt_iff_lt_mul hp, Nat.mul_comm, e64]; exact hx
  have h2 : (Z % 2 ^ s + 1) * 2 ^ (64 - s) ≤ 2 ^ s * 2 ^ (64 - s) := Nat.mul_le_mul_right _ (Nat.mod_lt _ hp)
  rw [e64, Nat.add_mul, Nat.one_mul] at h2
  omega

/-- the digits of a number, as many as are asked for -/
def digN (B Y k : Nat) : List Nat := (List.range k).map fun j => Y / B ^ j % B
theorem digN_zero (B Y : Nat) : digN B Y 0 = [] := rfl
theorem digN_succ (B Y k : Nat) : digN B Y (k + 1) = digN B Y k ++ [Y / B ^ k % B] := by
  unfold digN; rw [List.range_succ, List.map_append, List.map_singleton]
theorem digN_length (B Y k : Nat) : (digN B Y k).length = k := by simp [digN]
theorem digN_ok (B Y k : Nat) (hB : 0 < B) : Ok B (digN B Y k) := by
  induction k with
  | zero => exact ok_nil hB
  | succ k ih => rw [digN_succ]; exact ok_snoc ih (Nat.mod_lt _ hB)
theorem digN_val (B Y k : Nat) : val B (digN B Y k) = Y % B ^ k := by
  induction k with
  | zero => simp [digN_zero, val, Nat.mod_one]
  | succ k ih => rw [digN_succ, val_snoc, ih, digN_length, Nat.pow_succ, Nat.mod_mul]
theorem digN_done (B Y k : Nat) (h : Y < B ^ k) : val B (digN B Y k) = Y := by rw [digN_val, Nat.mod_eq_of_lt h]
theorem down_lt (X q s L : Nat) (hX : X < 18446744073709551616 ^ L) (hq : q ≤ L) : X / 18446744073709551616 ^ q / 2 ^ s < 18446744073709551616 ^ (L - q) := by
  have h1 : X / 18446744073709551616 ^ q < 18446744073709551616 ^ (L - q) := by
    rw [Nat.div_lt_iff_lt_mul (Nat.pow_pos (by omega)), ← Nat.pow_add, show L - q + q = L by omega]
    exact hX
  exact Nat.lt_of_le_of_lt (Nat.div_le_self _ _) h1
theorem down_eq (X q s : Nat) : X / 18446744073709551616 ^ q / 2 ^ s = X / 2 ^ (64 * q + s) := by
  have : (18446744073709551616 : Nat) = 2 ^ 64 := by decide
  rw [Nat.div_div_eq_div_mul, this, ← Nat.pow_mul, ← Nat.pow_add]

/-- one step of the division by a digit -/
theorem short_step (X d t : Nat) (hd : 0 < d) :
    (X / 4294967296 ^ (t + 1) % d * 4294967296 + X / 4294967296 ^ t % 4294967296) / d = X / d / 4294967296 ^ t % 4294967296 ∧
    (X / 4294967296 ^ (t + 1) % d * 4294967296 + X / 4294967296 ^ t % 4294967296) % d = X / 4294967296 ^ t % d := by
  have e0 : X / d / 4294967296 ^ t = X / 4294967296 ^ t / d := by rw [Nat.div_div_eq_div_mul, Nat.div_div_eq_div_mul, Nat.mul_comm]
  rw [e0, Nat.pow_succ, ← Nat.div_div_eq_div_mul]
  generalize X / 4294967296 ^ t = Y
  have hY := Nat.mod_add_div Y 4294967296
  have hx : Y % 4294967296 < 4294967296 := Nat.mod_lt _ (by omega)
  generalize Y / 4294967296 = Z at *
  generalize Y % 4294967296 = x at *
  have hZ := Nat.mod_add_div Z d
  have hr : Z % d < d := Nat.mod_lt _ hd
  generalize Z / d = q at *
  generalize Z % d = r at *
  have eY : Y = (r * 4294967296 + x) + d * (4294967296 * q) := by
    rw [← hY, ← hZ, Nat.mul_add, Nat.mul_left_comm d]; omega
  rw [eY, Nat.add_mul_div_left _ _ hd, Nat.add_mul_mod_self_left, Nat.add_mul_mod_self_left]
  have h1 : (r * 4294967296 + x) / d < 4294967296 := by
    rw [Nat.div_lt_iff_lt_mul hd]
    have := Nat.mul_le_mul_right 4294967296 (show r + 1 ≤ d from hr)
    rw [Nat.add_mul] at this
    rw [Nat.mul_comm 4294967296 d]
    omega
  exact ⟨(Nat.mod_eq_of_lt h1).symm, rfl⟩

/-- bit by bit: what the division's loop keeps, with t bits to come -/
structure DRelQNum3 (m b L t Q r : Nat) (F : Nat → Nat) : Prop where
  sum : m = b * Q + r
  rest : r < b * 2 ^ t
  low : ∀ j, 2 ^ t ∣ F j * 18446744073709551616 ^ j
  dig : ∀ j, F j < 18446744073709551616

theorem DRelQNum3.start {m b n : Nat} (L : Nat) (hb : b ≠ 0) (hn : blen m ≤ blen b + n) : DRelQNum3 m b L (n + 1) 0 m (fun _ => 0) := by
  refine ⟨by omega, ?_, fun j => ⟨0, by simp⟩, fun _ => by show 0 < _; omega⟩
  have h1 := lt_blen m
  have h2 := Nat.pow_le_pow_right (n := 2) (by omega) hn
  have h3 := Nat.mul_le_mul_right (2 ^ n) (blen_ge b hb)
  rw [Nat.pow_add] at h2
  rw [Nat.pow_succ]
  have e : 2 * b * 2 ^ n = b * (2 ^ n * 2) := by rw [Nat.mul_comm 2 b, Nat.mul_assoc, Nat.mul_comm 2]
  omega
theorem DRelQNum3.no {m b L i Q r : Nat} {F : Nat → Nat} (h : DRelQNum3 m b L (i + 1) Q r F) (hr : r < b * 2 ^ i) : DRelQNum3 m b L i Q r F :=
  ⟨h.sum, hr, fun j => Nat.dvd_trans (Nat.pow_dvd_pow 2 (by omega)) (h.low j), h.dig⟩
theorem DRelQNum3.bit {m b L i Q r : Nat} {F : Nat → Nat} (h : DRelQNum3 m b L (i + 1) Q r F) : F (i / 64) % 2 ^ (i % 64 + 1) = 0 ∧ F (i / 64) + 2 ^ (i % 64) < 18446744073709551616 := by
  have h1 := h.low (i / 64)
  have e : (18446744073709551616 : Nat) = 2 ^ 64 := by decide
  have e1 : (2 : Nat) ^ (i + 1) = 2 ^ (i % 64 + 1) * 18446744073709551616 ^ (i / 64) := by
    rw [e, ← Nat.pow_mul, ← Nat.pow_add]; congr 1; omega
  rw [e1] at h1
  have h2 : 2 ^ (i % 64 + 1) ∣ F (i / 64) := Nat.dvd_of_mul_dvd_mul_right (Nat.pow_pos (by omega)) h1
  refine ⟨Nat.mod_eq_zero_of_dvd h2, ?_⟩
  obtain ⟨c, hc⟩ := h2
  have h3 := h.dig (i / 64)
  have e2 : (18446744073709551616 : Nat) = 2 ^ (i % 64 + 1) * 2 ^ (63 - i % 64) := by rw [e, ← Nat.pow_add]; congr 1; omega
  have hp : 0 < 2 ^ (i % 64) := Nat.pow_pos (by omega)
  rw [hc, e2] at h3
  have h4 : c < 2 ^ (63 - i % 64) := Nat.lt_of_mul_lt_mul_left h3
  have h5 : 2 ^ (i % 64 + 1) * (c + 1) ≤ 2 ^ (i % 64 + 1) * 2 ^ (63 - i % 64) := Nat.mul_le_mul_left _ h4
  rw [← e2, Nat.mul_add, ← hc, Nat.mul_one, Nat.pow_succ] at h5
  omega
theorem or_bit (f s : Nat) (h : f % 2 ^ (s + 1) = 0) : f ||| 2 ^ s = f + 2 ^ s := by
  have e : f = 2 ^ (s + 1) * (f / 2 ^ (s + 1)) := by have := Nat.mod_add_div f (2 ^ (s + 1)); omega
  have hlt : 2 ^ s < 2 ^ (s + 1) := Nat.pow_lt_pow_right (by omega) (by omega)
  rw [e, ← Nat.two_pow_add_eq_or_of_lt hlt]

theorem length_bounds (B n k : Nat) (hB : 2 ≤ B) (h : (digs B n).length = k + 1) : B ^ k ≤ n ∧ n < B ^ (k + 1) := by
  constructor
  · apply Nat.le_of_not_lt
    intro hlt
    have := digs_length_le B hB n k hlt
    omega
  · have := val_lt B _ (okd B n hB)
    rw [vald B n hB, h] at this
    exact this
theorem blen_top (m k : Nat) (h : (digs 18446744073709551616 m).length = k + 1) : blen m = blen ((digs 18446744073709551616 m).getD k 0) + 64 * k := by
  obtain ⟨h1, h2⟩ := length_bounds _ m k (by omega) h
  have hp : 0 < 18446744073709551616 ^ k := Nat.pow_pos (by omega)
  have e : (18446744073709551616 : Nat) = 2 ^ 64 := by decide
  have h3 : m / 18446744073709551616 ^ k < 18446744073709551616 := by
    rw [Nat.div_lt_iff_lt_mul hp, Nat.mul_comm, ← Nat.pow_succ]; exact h2
  have h4 : m / 18446744073709551616 ^ k ≠ 0 := by
    intro h0
    have := Nat.lt_of_div_eq_zero hp h0
    omega
  rw [digs_getD _ (by omega), Nat.mod_eq_of_lt h3]
  have h5 := Nat.mod_lt m hp
  have h6 := Nat.mod_add_div m (18446744073709551616 ^ k)
  have e2 : (18446744073709551616 : Nat) ^ k = 2 ^ (64 * k) := by rw [e, ← Nat.pow_mul]
  rw [e2] at h4 h5 h6 ⊢
  have := blen_shl (m / 2 ^ (64 * k)) (64 * k) (m % 2 ^ (64 * k)) h4 h5
  rw [← this]
  congr 1
  rw [Nat.mul_comm]; omega
theorem blen_bound (m L : Nat) (h : (digs 18446744073709551616 m).length ≤ L) : blen m ≤ 64 * L := by
  apply blen_le
  have h1 := val_lt 18446744073709551616 _ (okd 18446744073709551616 m (by omega))
  rw [vald 18446744073709551616 m (by omega)] at h1
  have h2 := Nat.pow_le_pow_right (n := 18446744073709551616) (by omega) h
  have e : (18446744073709551616 : Nat) ^ L = 2 ^ (64 * L) := by
    have : (18446744073709551616 : Nat) = 2 ^ 64 := by decide
    rw [this, ← Nat.pow_mul]
  rw [← e]
  omega
theorem blen_half (c T N : Nat) (h : N + blen c = T) (h0 : c ≠ 0) : (N + 1) + blen (c / 2) = T := by
  rw [blen_pos c h0] at h; omega

end Go.Proofs.Ytbmocnigmpmfkaa.Dig
