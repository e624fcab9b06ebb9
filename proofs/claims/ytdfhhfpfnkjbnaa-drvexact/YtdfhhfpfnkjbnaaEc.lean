/- Samples and their bytes: numbers. -/
import Derived.Test.YtdfhhfpfnkjbnaaEa
import Derived.Test.YtdfhhfpfnkjbnaaDn
namespace Go.Proofs.Ytdfhhfpfnkjbnaa
open Go.RowKit Go.Conc
theorem xor8 (a b : Nat) (ha : a ≤ 255) (hb : b ≤ 255) : bits BinOp.xor .u8 (a : Int) (b : Int) = ((a ^^^ b : Nat) : Int) ∧ a ^^^ b ≤ 255 := by
  have hx : a ^^^ b < 2 ^ 8 := Nat.xor_lt_two_pow (by omega) (by omega)
  have e1 : (BitVec.ofInt 8 (a : Int)).toNat = a := by
    rw [BitVec.ofInt_natCast, BitVec.toNat_ofNat]
    omega
  have e2 : (BitVec.ofInt 8 (b : Int)).toNat = b := by
    rw [BitVec.ofInt_natCast, BitVec.toNat_ofNat]
    omega
  refine ⟨?_, by omega⟩
  show IntKind.u8.wrap ((BitVec.ofInt 8 (a : Int) ^^^ BitVec.ofInt 8 (b : Int)).toNat) = _
  rw [BitVec.toNat_xor, e1, e2, IntKind.wrap_u8]
  omega
theorem byte_nat {x : Int} (h : 0 ≤ x ∧ x ≤ 255) : ∃ n : Nat, n ≤ 255 ∧ x = (n : Int) := ⟨x.toNat, by omega, by omega⟩
/-- the check, in plain numbers -/
def ckN (f : Nat → Nat) : Nat → Nat
  | 0 => 90
  | k + 1 => ckN f k ^^^ f k
theorem ckN_le (f : Nat → Nat) (h : ∀ j, f j ≤ 255) : ∀ k, ckN f k ≤ 255
  | 0 => by show 90 ≤ 255; omega
  | k + 1 => (xor8 _ _ (ckN_le f h k) (h k)).2
theorem ckTo_nat (b : B8) (f : Nat → Nat) (h : ∀ j, f j ≤ 255) (hb : ∀ j, j < 8 → b.at j = (f j : Int)) : ∀ k, k ≤ 8 → ckTo b k = (ckN f k : Int)
  | 0, _ => rfl
  | k + 1, hk => by
    show bits BinOp.xor IntKind.u8 (ckTo b k) (b.at k) = _
    rw [ckTo_nat b f h hb k (by omega), hb k (by omega)]
    exact (xor8 _ _ (ckN_le f h k) (h k)).1
theorem ckN_turn (f : Nat → Nat) (q m : Nat) : ∀ k, ckN (fun j => if j = q then f j ^^^ m else f j) k = if q < k then ckN f k ^^^ m else ckN f k
  | 0 => by simp [ckN]
  | k + 1 => by
    show ckN (fun j => if j = q then f j ^^^ m else f j) k ^^^ (if k = q then f k ^^^ m else f k) = _
    rw [ckN_turn f q m k]
    by_cases h1 : k = q
    · subst h1
      rw [if_neg (by omega), if_pos rfl, if_pos (by omega)]
      show _ = ckN f k ^^^ f k ^^^ m
      rw [Nat.xor_assoc]
    · by_cases h2 : q < k
      · rw [if_pos h2, if_neg h1, if_pos (by omega)]
        show _ = ckN f k ^^^ f k ^^^ m
        rw [Nat.xor_assoc, Nat.xor_comm m, ← Nat.xor_assoc]
      · rw [if_neg h2, if_neg h1, if_neg (by omega)]
        rfl
theorem xor_ne (x m : Nat) (hm : m ≠ 0) : x ^^^ m ≠ x := fun h => hm (by
  have : x ^^^ (x ^^^ m) = x ^^^ x := by rw [h]
  rw [← Nat.xor_assoc, Nat.xor_self, Nat.zero_xor] at this
  exact this)
/-- eight bytes by their places -/
def ofAt (f : Nat → Int) : B8 := ⟨f 0, f 1, f 2, f 3, f 4, f 5, f 6, f 7⟩
theorem ofAt_at (f : Nat → Int) {j : Nat} (h : j < 8) : (ofAt f).at j = f j := by
  match j, h with
  | 0, _ | 1, _ | 2, _ | 3, _ | 4, _ | 5, _ | 6, _ | 7, _ => rfl
  | j + 8, h => omega
theorem b8_ext {a b : B8} (h : ∀ j, j < 8 → a.at j = b.at j) : a = b := by
  obtain ⟨a0, a1, a2, a3, a4, a5, a6, a7⟩ := a
  obtain ⟨b0, b1, b2, b3, b4, b5, b6, b7⟩ := b
  have h0 : a0 = b0 := h 0 (by omega)
  have h1 : a1 = b1 := h 1 (by omega)
  have h2 : a2 = b2 := h 2 (by omega)
  have h3 : a3 = b3 := h 3 (by omega)
  have h4 : a4 = b4 := h 4 (by omega)
  have h5 : a5 = b5 := h 5 (by omega)
  have h6 : a6 = b6 := h 6 (by omega)
  have h7 : a7 = b7 := h 7 (by omega)
  rw [h0, h1, h2, h3, h4, h5, h6, h7]
/-- a byte turned -/
def turnB (b : B8) (q : Nat) (m : Int) : B8 := ofAt fun j => if j = q then bits BinOp.xor IntKind.u8 (b.at j) m else b.at j
theorem turn_bad (b : B8) (hb : b.ok) (h7 : b.b7 = ckTo b 7) (q : Nat) (hq : q < 8) (m : Nat) (h1 : 1 ≤ m) (h2 : m ≤ 255) : (turnB b q m).ok ∧ (turnB b q m).b7 ≠ ckTo (turnB b q m) 7 := by
  obtain ⟨f, hf⟩ : ∃ f : Nat → Nat, (∀ j, f j ≤ 255) ∧ ∀ j, j < 8 → b.at j = (f j : Int) := by
    refine ⟨fun j => if j < 8 then (b.at j).toNat else 0, fun j => ?_, fun j hj => ?_⟩
    · by_cases hj : j < 8
      · have := hb j hj
        simp only [hj, if_true]; omega
      · simp only [hj, if_false]; omega
    · have := hb j hj
      simp only [hj, if_true]; omega
  obtain ⟨f1, f2⟩ := hf
  have g1 : ∀ j, (fun j => if j = q then f j ^^^ m else f j) j ≤ 255 := fun j => by
    dsimp only
    split
    · exact (xor8 _ _ (f1 j) h2).2
    · exact f1 j
  have g2 : ∀ j, j < 8 → (turnB b q m).at j = (((fun j => if j = q then f j ^^^ m else f j) j : Nat) : Int) := fun j hj => by
    unfold turnB
    rw [ofAt_at _ hj, f2 j hj]
    dsimp only
    split
    · exact (xor8 _ _ (f1 j) h2).1
    · rfl
  have hc := ckTo_nat b f f1 f2 7 (by omega)
  have hc2 := ckTo_nat _ _ g1 g2 7 (by omega)
  rw [ckN_turn] at hc2
  have e7 : b.b7 = (f 7 : Int) := f2 7 (by omega)
  have e8 : (turnB b q m).b7 = ((if 7 = q then f 7 ^^^ m else f 7 : Nat) : Int) := g2 7 (by omega)
  refine ⟨fun j hj => by rw [g2 j hj]; have := g1 j; omega, fun hh => ?_⟩
  rw [e7, hc] at h7
  rw [e8, hc2] at hh
  have k1 : f 7 = ckN f 7 := by omega
  by_cases h : q = 7
  · subst h
    rw [if_pos rfl, if_neg (by omega), ← k1] at hh
    exact xor_ne (f 7) m (by omega) (by omega)
  · rw [if_neg (by omega), if_pos (by omega), ← k1] at hh
    exact xor_ne (f 7) m (by omega) (by omega)
theorem wrapu8 (n : Int) : IntKind.u8.wrap n = n % 256 := by rw [IntKind.wrap_u8]
theorem pk_ok (r : Raw) : (pk r).ok ∧ (pk r).b7 = ckTo (pk r) 7 := by
  have h7 : ∀ (c : Int) (j : Nat), j < 7 → 0 ≤ (p7 r c).at j ∧ (p7 r c).at j ≤ 255 := fun c j hj => by
    match j, hj with
    | 0, _ => exact ⟨by show 0 ≤ r.x / 256 % 256; omega, by show r.x / 256 % 256 ≤ 255; omega⟩
    | 1, _ => show 0 ≤ IntKind.u8.wrap r.x ∧ IntKind.u8.wrap r.x ≤ 255; rw [wrapu8]; omega
    | 2, _ => exact ⟨by show 0 ≤ r.y / 256 % 256; omega, by show r.y / 256 % 256 ≤ 255; omega⟩
    | 3, _ => show 0 ≤ IntKind.u8.wrap r.y ∧ IntKind.u8.wrap r.y ≤ 255; rw [wrapu8]; omega
    | 4, _ => exact ⟨by show 0 ≤ r.z / 256 % 256; omega, by show r.z / 256 % 256 ≤ 255; omega⟩
    | 5, _ => show 0 ≤ IntKind.u8.wrap r.z ∧ IntKind.u8.wrap r.z ≤ 255; rw [wrapu8]; omega
    | 6, _ => show 0 ≤ IntKind.u8.wrap r.t ∧ IntKind.u8.wrap r.t ≤ 255; rw [wrapu8]; omega
    | j + 7, h => omega
  have hp : ∀ (c : Int) (j : Nat), j < 7 → (p7 r c).at j = (p7 r 0).at j := fun c j hj => by
    match j, hj with
    | 0, _ | 1, _ | 2, _ | 3, _ | 4, _ | 5, _ | 6, _ => rfl
    | j + 7, h => omega
  have hk : ∀ (c : Int) (k : Nat), k ≤ 7 → ckTo (p7 r c) k = ckTo (p7 r 0) k := fun c k => by
    induction k with
    | zero => intro _; rfl
    | succ k ih =>
      intro h
      show bits BinOp.xor IntKind.u8 (ckTo (p7 r c) k) ((p7 r c).at k) = bits BinOp.xor IntKind.u8 (ckTo (p7 r 0) k) ((p7 r 0).at k)
      rw [ih (by omega), hp c k (by omega)]
  have hc : 0 ≤ ckTo (p7 r 0) 7 ∧ ckTo (p7 r 0) 7 ≤ 255 := by
    have h := ckTo_nat (p7 r 0) (fun j => if j < 7 then ((p7 r 0).at j).toNat else 0) (fun j => by
      by_cases hj : j < 7
      · have := h7 0 j hj
        simp only [hj, if_true]; omega
      · simp only [hj, if_false]; omega) (fun j hj => by
      by_cases hj7 : j < 7
      · have := h7 0 j hj7
        simp only [hj7, if_true]; omega
      · have e : j = 7 := by omega
        subst e
        rfl) 7 (by omega)
    have h2 := ckN_le (fun j => if j < 7 then ((p7 r 0).at j).toNat else 0) (fun j => by
      by_cases hj : j < 7
      · have := h7 0 j hj
        simp only [hj, if_true]; omega
      · simp only [hj, if_false]; omega) 7
    omega
  refine ⟨fun j hj => ?_, (hk _ 7 (by omega)).symm⟩
  by_cases hj7 : j < 7
  · exact h7 _ j hj7
  · have e : j = 7 := by omega
    subst e
    exact hc
theorem unp_pk (r : Raw) (h : okR r = true) : unp (pk r) = r := by
  unfold okR at h
  simp only [Bool.and_eq_true] at h
  obtain ⟨⟨⟨h1, h2⟩, h3⟩, h4⟩ := h
  have h1 := inn_iff.1 h1
  have h2 := inn_iff.1 h2
  have h3 := inn_iff.1 h3
  have h4 := inn_iff.1 h4
  obtain ⟨x, y, z, t⟩ := r
  have w : ∀ n : Int, -32768 ≤ n ∧ n ≤ 32767 → w16 (n / 256 % 256) (IntKind.u8.wrap n) = n := fun n hn => by
    rw [wrapu8]; unfold w16; split <;> omega
  have ht : IntKind.i8.wrap (IntKind.u8.wrap t) = t := by
    rw [wrapu8, wrapi8]
    have h4 : -128 ≤ t ∧ t ≤ 127 := h4
    split <;> omega
  show Raw.mk (w16 (x / 256 % 256) (IntKind.u8.wrap x)) (w16 (y / 256 % 256) (IntKind.u8.wrap y)) (w16 (z / 256 % 256) (IntKind.u8.wrap z)) (IntKind.i8.wrap (IntKind.u8.wrap t)) = _
  rw [w x h1, w y h2, w z h3, ht]
/-- the bytes of the first k -/
def dat (C : Nat → B8) : Nat → List Int
  | 0 => []
  | k + 1 => dat C k ++ (C k).l
theorem dat_len (C : Nat → B8) : ∀ k, (dat C k).length = 8 * k
  | 0 => rfl
  | k + 1 => by
    show (dat C k ++ (C k).l).length = _
    rw [List.length_append, dat_len C k]
    show 8 * k + 8 = _
    omega
theorem l_at (b : B8) (j : Nat) (h : j < 8) : b.l.getD j 0 = b.at j := by
  match j, h with
  | 0, _ | 1, _ | 2, _ | 3, _ | 4, _ | 5, _ | 6, _ | 7, _ => rfl
  | j + 8, h => omega
theorem dat_at (C : Nat → B8) (i j : Nat) (hj : j < 8) : ∀ k, i < k → (dat C k).getD (8 * i + j) 0 = (C i).at j
  | 0, h => by omega
  | k + 1, h => by
    show (dat C k ++ (C k).l).getD (8 * i + j) 0 = _
    by_cases hi : i < k
    · have := dat_at C i j hj k hi
      rw [List.getD_eq_getElem?_getD] at this ⊢
      rw [List.getElem?_append_left (by rw [dat_len]; omega)]
      exact this
    · have e : i = k := by omega
      subst e
      rw [List.getD_eq_getElem?_getD, List.getElem?_append_right (by rw [dat_len]; omega), dat_len, show 8 * i + j - 8 * i = j by omega, ← List.getD_eq_getElem?_getD]
      exact l_at _ _ hj
theorem dat_byte (C : Nat → B8) (k : Nat) (h : ∀ i, i < k → (C i).ok) (j : Nat) : 0 ≤ (dat C k).getD j 0 ∧ (dat C k).getD j 0 ≤ 255 := by
  by_cases hj : j < 8 * k
  · have e := dat_at C (j / 8) (j % 8) (by omega) k (by omega)
    rw [show 8 * (j / 8) + j % 8 = j by omega] at e
    rw [e]
    exact h _ (by omega) _ (by omega)
  · rw [List.getD_eq_getElem?_getD, List.getElem?_eq_none (by rw [dat_len]; omega)]
    exact ⟨by decide, by decide⟩
theorem smps_congr (C D : Nat → B8) (bad : Int) : ∀ k, (∀ i, i < k → C i = D i) → smps C bad (List.range k) = smps D bad (List.range k)
  | 0, _ => rfl
  | k + 1, h => by
    rw [List.range_succ, smps_snoc, smps_snoc, smps_congr C D bad k (fun i hi => h i (by omega))]
    unfold smpStep
    rw [h k (by omega)]
def sm (L : List Raw) (i : Nat) : Raw := L.getD i nought
/-- the bytes of a sample, one of them turned where t says so -/
def bts (L : List Raw) (t : Nat → Bool) (q m : Nat) (i : Nat) : B8 := if t i then turnB (pk (sm L i)) q m else pk (sm L i)
/-- what is wanted of the first k, and how many are bad -/
def wl (L : List Raw) (t : Nat → Bool) : Nat → List Raw
  | 0 => []
  | k + 1 => if t k then wl L t k else wl L t k ++ [sm L k]
def bd (t : Nat → Bool) : Nat → Nat
  | 0 => 0
  | k + 1 => if t k then bd t k + 1 else bd t k
theorem bd_le (t : Nat → Bool) : ∀ k, bd t k ≤ k
  | 0 => Nat.le_refl _
  | k + 1 => by
    have := bd_le t k
    show (if t k then bd t k + 1 else bd t k) ≤ _
    split <;> omega
theorem wl_len (L : List Raw) (t : Nat → Bool) : ∀ k, (wl L t k).length ≤ k
  | 0 => Nat.le_refl _
  | k + 1 => by
    have := wl_len L t k
    show (if t k then wl L t k else wl L t k ++ [sm L k]).length ≤ _
    split
    · omega
    · rw [List.length_append]; show _ + 1 ≤ _; omega
theorem bts_ok (L : List Raw) (t : Nat → Bool) (q m : Nat) (hq : q < 8) (h1 : 1 ≤ m) (h2 : m ≤ 255) (i : Nat) : (bts L t q m i).ok := by
  unfold bts
  split
  · exact (turn_bad _ (pk_ok _).1 (pk_ok _).2 q hq m h1 h2).1
  · exact (pk_ok _).1
theorem smps_bts (L : List Raw) (t : Nat → Bool) (q m : Nat) (hq : q < 8) (h1 : 1 ≤ m) (h2 : m ≤ 255) : ∀ k, k ≤ 1000 → (∀ i, i < k → okR (sm L i) = true) → smps (bts L t q m) 0 (List.range k) = (wl L t k, (bd t k : Int))
  | 0, _, _ => rfl
  | k + 1, hk, h => by
    rw [List.range_succ, smps_snoc, smps_bts L t q m hq h1 h2 k (by omega) (fun i hi => h i (by omega))]
    have hb := bd_le t k
    unfold smpStep
    cases ht : t k
    · have e : bts L t q m k = pk (sm L k) := by unfold bts; rw [ht]; rfl
      rw [e, if_pos (pk_ok _).2, unp_pk _ (h k (by omega))]
      show _ = ((if t k then wl L t k else wl L t k ++ [sm L k]), ((if t k then bd t k + 1 else bd t k : Nat) : Int))
      rw [ht]; rfl
    · have e : bts L t q m k = turnB (pk (sm L k)) q m := by unfold bts; rw [ht]; rfl
      rw [e, if_neg (turn_bad _ (pk_ok _).1 (pk_ok _).2 q hq m h1 h2).2]
      show (wl L t k, if (bd t k : Int) < 1099511627776 then (bd t k : Int) + 1 else (bd t k : Int)) = ((if t k then wl L t k else wl L t k ++ [sm L k]), ((if t k then bd t k + 1 else bd t k : Nat) : Int))
      rw [ht, if_pos (by omega)]
      simp
end Go.Proofs.Ytdfhhfpfnkjbnaa
