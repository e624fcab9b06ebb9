/- Plain numbers: digits. The reference's whole numbers: digits in memory; NTrim, cut. The reference's whole numbers: NOf, halves. The reference's whole numbers: whole. The reference's whole numbers: NPlus. -/
import Derived.Test.YtoeecldhbabmbaaGreatMg6
import Derived.Deep.QuietTactic
import Derived.BigQuiet
import Derived.Deep.AppendLies
import Derived.Deep.RegionLaw
import Derived.Laws.Bits64b
open Go.Value renaming int → J
open Go.IntKind renaming i64 → zq, u64 → zu
open Go.Ending renaming returned → zR
open Go.Proofs.Tryz renaming prog → zP
namespace Go.Proofs.YtoeecldhbabmbaaGreat.Dig
def val (B : Nat) : List Nat → Nat
  | [] => 0
  | x :: xs => x + B * val B xs
def Ok (B : Nat) (xs : List Nat) : Prop := ∀ i, xs.getD i 0 < B
def digsF (B : Nat) : Nat → Nat → List Nat
  | 0, _ => []
  | f + 1, n => if n = 0 then [] else n % B :: digsF B f (n / B)
def digs (B n : Nat) : List Nat := digsF B n n
theorem digsF_fuel (B : Nat) (hB : 2 ≤ B) : ∀ f g n, n ≤ f → n ≤ g → digsF B f n = digsF B g n := by
  intro f
  induction f with
  | zero => intro g n h _; obtain rfl : n = 0 := by omega
            cases g <;> simp [digsF]
  | succ f ih =>
    intro g n h1 h2
    cases g with
    | zero => obtain rfl : n = 0 := by omega
              simp [digsF]
    | succ g =>
      simp only [digsF]
      by_cases h0 : n = 0
      · rw [if_pos h0, if_pos h0]
      · rw [if_neg h0, if_neg h0]
        have : n / B < n := Nat.div_lt_self (by omega) (by omega)
        rw [ih g (n / B) (by omega) (by omega)]
theorem digs_zero (B : Nat) : digs B 0 = [] := rfl
theorem digs_step (B n : Nat) (hB : 2 ≤ B) (h : n ≠ 0) : digs B n = n % B :: digs B (n / B) := by
  unfold digs
  obtain ⟨m, rfl⟩ : ∃ m, n = m + 1 := ⟨n - 1, by omega⟩
  rw [digsF, if_neg h]
  have : (m + 1) / B < m + 1 := Nat.div_lt_self (by omega) (by omega)
  rw [digsF_fuel B hB m ((m + 1) / B) _ (by omega) (by omega)]
theorem val_append (B : Nat) (xs ys : List Nat) : val B (xs ++ ys) = val B xs + B ^ xs.length * val B ys := by
  induction xs with
  | nil => simp [val]
  | cons x xs ih =>
    simp only [List.cons_append, val, List.length_cons, ih, Nat.pow_succ, Nat.mul_add]
    rw [Nat.mul_comm (B ^ xs.length) B, Nat.mul_assoc]
    omega
theorem val_snoc (B : Nat) (xs : List Nat) (z : Nat) : val B (xs ++ [z]) = val B xs + B ^ xs.length * z := by
  rw [val_append]; simp [val]
theorem val_take_succ (B : Nat) (xs : List Nat) (k : Nat) : val B (xs.take (k + 1)) = val B (xs.take k) + B ^ k * xs.getD k 0 := by
  by_cases h : k < xs.length
  · rw [List.take_succ_eq_append_getElem h, val_snoc, List.length_take, Nat.min_eq_left (by omega), List.getD_eq_getElem?_getD, List.getElem?_eq_getElem h]
    rfl
  · rw [List.take_of_length_le (by omega), List.take_of_length_le (by omega), List.getD_eq_getElem?_getD, List.getElem?_eq_none (by omega)]
    simp
theorem ok_take {B : Nat} {xs : List Nat} (h : Ok B xs) (k : Nat) : Ok B (xs.take k) := by
  intro i
  by_cases hi : i < k
  · have := h i
    rw [List.getD_eq_getElem?_getD] at *
    rw [List.getElem?_take_of_lt hi]; exact this
  · have := h i
    rw [List.getD_eq_getElem?_getD, List.getElem?_eq_none (by rw [List.length_take]; omega)]
    show 0 < B
    omega
theorem ok_tail {B x : Nat} {xs : List Nat} (h : Ok B (x :: xs)) : Ok B xs := fun i => by simpa using h (i + 1)
theorem ok_nil {B : Nat} (h : 0 < B) : Ok B [] := fun i => by simpa using h
theorem ok_cons {B x : Nat} {xs : List Nat} (hx : x < B) (h : Ok B xs) : Ok B (x :: xs)
  | 0 => by simpa using hx
  | i + 1 => by simpa using h i
theorem ok_snoc {B : Nat} {xs : List Nat} {z : Nat} (h : Ok B xs) (hz : z < B) : Ok B (xs ++ [z]) := by
  induction xs with
  | nil => exact ok_cons hz (ok_nil (by omega))
  | cons x xs ih => exact ok_cons (by simpa using h 0) (ih (ok_tail h))
theorem ok_digs (B : Nat) (hB : 2 ≤ B) : ∀ f n, n ≤ f → Ok B (digs B n) := by
  intro f
  induction f with
  | zero => intro n h; obtain rfl : n = 0 := by omega
            exact ok_nil (by omega)
  | succ f ih =>
    intro n h
    by_cases h0 : n = 0
    · subst h0; exact ok_nil (by omega)
    · rw [digs_step B n hB h0]
      have : n / B < n := Nat.div_lt_self (by omega) (by omega)
      exact ok_cons (Nat.mod_lt _ (by omega)) (ih _ (by omega))
theorem val_digs (B : Nat) (hB : 2 ≤ B) : ∀ f n, n ≤ f → val B (digs B n) = n := by
  intro f
  induction f with
  | zero => intro n h; obtain rfl : n = 0 := by omega
            rfl
  | succ f ih =>
    intro n h
    by_cases h0 : n = 0
    · subst h0; rfl
    · rw [digs_step B n hB h0]
      have : n / B < n := Nat.div_lt_self (by omega) (by omega)
      simp only [val]
      rw [ih _ (by omega)]
      exact Nat.mod_add_div n B
theorem val_lt (B : Nat) : ∀ xs : List Nat, Ok B xs → val B xs < B ^ xs.length := by
  intro xs
  induction xs with
  | nil => intro _; simp [val]
  | cons x xs ih =>
    intro h
    have h1 := ih (ok_tail h)
    have h2 : x < B := by simpa using h 0
    simp only [val, List.length_cons, Nat.pow_succ]
    have h3 : B * (val B xs + 1) ≤ B * B ^ xs.length := Nat.mul_le_mul_left _ h1
    rw [Nat.mul_add, Nat.mul_comm B (B ^ xs.length)] at h3
    omega
theorem canon (B : Nat) (hB : 2 ≤ B) : ∀ xs : List Nat, Ok B xs → (xs = [] ∨ xs.getD (xs.length - 1) 0 ≠ 0) → digs B (val B xs) = xs := by
  intro xs
  induction xs with
  | nil => intro _ _; rfl
  | cons x xs ih =>
    intro h hl
    have h2 : x < B := by simpa using h 0
    have hl' : xs = [] ∨ xs.getD (xs.length - 1) 0 ≠ 0 := by
      cases xs with
      | nil => exact .inl rfl
      | cons y ys =>
        right
        rcases hl with hl | hl
        · exact absurd hl (by simp)
        · simpa using hl
    have h3 := ih (ok_tail h) hl'
    have hne : x + B * val B xs ≠ 0 := by
      cases xs with
      | nil =>
        rcases hl with hl | hl
        · exact absurd hl (by simp)
        · have : x ≠ 0 := by simpa using hl
          omega
      | cons y ys =>
        intro h0
        have hv : val B (y :: ys) = 0 := by
          have : B * val B (y :: ys) = 0 := by omega
          rcases Nat.mul_eq_zero.1 this with h | h
          · omega
          · exact h
        rw [hv] at h3
        exact absurd h3 (by simp [digs_zero])
    simp only [val]
    rw [digs_step B _ hB hne, Nat.add_mul_mod_self_left, Nat.mod_eq_of_lt h2, Nat.add_mul_div_left _ _ (by omega), Nat.div_eq_of_lt h2, Nat.zero_add, h3]
theorem val_take_zero (B : Nat) (xs : List Nat) (m : Nat) (h : ∀ j, m ≤ j → xs.getD j 0 = 0) : val B (xs.take m) = val B xs := by
  have key : ∀ d, val B (xs.take (m + d)) = val B (xs.take m) := by
    intro d
    induction d with
    | zero => rfl
    | succ d ih => rw [← Nat.add_assoc, val_take_succ, h (m + d) (by omega), ih]; simp
  have := key xs.length
  rw [List.take_of_length_le (by omega)] at this
  exact this.symm
theorem digs_length_le (B : Nat) (hB : 2 ≤ B) (n k : Nat) (h : n < B ^ k) : (digs B n).length ≤ k := by
  induction k generalizing n with
  | zero => obtain rfl : n = 0 := by simpa using h
            simp [digs_zero]
  | succ k ih =>
    by_cases h0 : n = 0
    · subst h0; simp [digs_zero]
    · rw [digs_step B n hB h0]
      have := ih (n / B) (by rw [Nat.div_lt_iff_lt_mul (by omega)]; rwa [Nat.pow_succ] at h)
      simp only [List.length_cons]; omega
theorem digs_nil (B n : Nat) (hB : 2 ≤ B) (h : digs B n = []) : n = 0 := by
  have := val_digs B hB n n (Nat.le_refl _)
  rw [h] at this
  exact this.symm
theorem okd (B n : Nat) (hB : 2 ≤ B) : Ok B (digs B n) := ok_digs B hB n n (Nat.le_refl _)
theorem vald (B n : Nat) (hB : 2 ≤ B) : val B (digs B n) = n := val_digs B hB n n (Nat.le_refl _)
end Go.Proofs.YtoeecldhbabmbaaGreat.Dig
namespace Go.Proofs.YtoeecldhbabmbaaGreat
open Go.RowKit
def Row (k : IntKind) (w : World) (v : Value) (xs : List Nat) : Prop :=
  (v = .slice none 0 0 ∧ xs = []) ∨
  ∃ b o cap, v = .slice (some ⟨b, o, none⟩) xs.length cap ∧ xs.length ≤ cap ∧ cap ≤ maxLen ∧ ∀ i, i < xs.length → w.cell? ⟨b, o + i, none⟩ = some (.int k (xs.getD i 0 : Nat))
theorem Row.ext {k : IntKind} {w w' : World} {v : Value} {xs : List Nat} (h : Row k w v xs) (hx : Ext w w') : Row k w' v xs := by
  rcases h with h | ⟨b, o, cap, h1, h2, h3, h4⟩
  · exact .inl h
  · exact .inr ⟨b, o, cap, h1, h2, h3, fun i hi => by rw [(hx.lay).1 b _ (cell_lt (h4 i hi))]; exact h4 i hi⟩
set_option maxHeartbeats 1000000 in
theorem ntrim_any (xs : List Nat) (v : Value) (w : World) (hr : Row .u64 w v xs) (hok : Dig.Ok 18446744073709551616 xs) :
    Calls zP 96 #[v] w fun e w' => (∃ v', e = zR v' ∧ Row .u64 w v' (Dig.digs 18446744073709551616 (Dig.val 18446744073709551616 xs))) ∧ w' = w := by
  rcases hr with ⟨rfl, rfl⟩ | ⟨b, o, cap, rfl, h1, h2, hcell⟩
  · go_enter Tryz.func96, Tryz.ntmps96
    go_wp2_with fail
    refine wp_loop_rounds 1 ?_
    rw [rounds_succ]
    go_wp2_with fail
    go_ret
    exact ⟨⟨_, rfl, .inl ⟨rfl, rfl⟩⟩, rfl⟩
  · have hl : (xs.length : Int) ≤ 9223372036854775807 := by unfold maxLen at h2; omega
    have fin : ∀ m, m ≤ xs.length → (∀ j, m ≤ j → xs.getD j 0 = 0) → (m = 0 ∨ xs.getD (m - 1) 0 ≠ 0) → Row .u64 w (.slice (some ⟨b, o, none⟩) m cap) (Dig.digs 18446744073709551616 (Dig.val 18446744073709551616 xs)) := by
      intro m hm hz hlast
      have hlen : (xs.take m).length = m := by rw [List.length_take]; omega
      have e1 := Dig.canon 18446744073709551616 (by omega) (xs.take m) (Dig.ok_take hok m) (by
        rcases hlast with rfl | h
        · exact .inl rfl
        · by_cases hm0 : m = 0
          · subst hm0; exact .inl rfl
          · right
            rw [hlen, List.getD_eq_getElem?_getD, List.getElem?_take_of_lt (by omega), ← List.getD_eq_getElem?_getD]
            exact h)
      rw [Dig.val_take_zero 18446744073709551616 xs m hz] at e1
      rw [e1]
      refine .inr ⟨b, o, cap, by rw [hlen], by omega, h2, ?_⟩
      intro i hi
      rw [hlen] at hi
      rw [hcell i (by omega), List.getD_eq_getElem?_getD, List.getD_eq_getElem?_getD, List.getElem?_take_of_lt hi]
    have hF : Hid _ := fin
    have hc : Hid _ := hcell
    have hm' : cap ≤ 9223372036854775807 := by unfold maxLen at h2; omega
    clear fin hcell h2 hok
    go_enter Tryz.func96, Tryz.ntmps96
    go_wp2_with fail
    go_loop [3] (fun n => ∃ m : Nat, m ≤ xs.length ∧ n = J zq m ∧ ∀ j, m ≤ j → xs.getD j 0 = 0) (fun n => (intOf n).toNat)
    case atStart => exact ⟨xs.length, Nat.le_refl _, rfl, fun j hj => by rw [List.getD_eq_getElem?_getD, List.getElem?_eq_none hj]; rfl⟩
    case round =>
      obtain ⟨m, hm, rfl, hz⟩ := hrel
      have hZ : Hid _ := hz
      clear hz
      cases m with
      | zero =>
        go_wp2_with fail
        go_ret
        exact ⟨⟨_, rfl, hF.out 0 (by omega) hZ.out (.inl rfl)⟩, rfl⟩
      | succ m =>
        have hcm := hc.out m (by omega)
        by_cases h0 : xs.getD m 0 = 0
        · have hZ' : Hid (∀ j, m ≤ j → xs.getD j 0 = 0) := by
            intro j hj
            by_cases e : j = m
            · rw [e]; exact h0
            · exact hZ.out j (by omega)
          rw [h0] at hcm
          clear h0
          have hpos : (0 : Int) < (m : Int) + 1 := by omega
          go_wp2_with fail
          go_round
          case rel => exact ⟨m, by omega, by go_num, hZ'.out⟩
          case measure => simp [intOf]
        · have hn : Hid (xs.getD m 0 ≠ 0) := h0
          obtain ⟨x, hx⟩ : ∃ x : Int, ((xs.getD m 0 : Nat) : Int) = x := ⟨_, rfl⟩
          have hx0 : (x == 0) = false := by rw [← hx]; simp only [beq_eq_false_iff_ne, ne_eq]; omega
          rw [hx] at hcm
          clear hx h0
          go_wp2_with fail
          go_ret
          exact ⟨⟨_, rfl, hF.out (m + 1) (by omega) hZ.out (.inr hn.out)⟩, rfl⟩
set_option maxHeartbeats 1000000 in
theorem cut_any (xs : List Nat) (v : Value) (w : World) (hr : Row .u32 w v xs) (hok : Dig.Ok 4294967296 xs) :
    Calls zP 124 #[v] w fun e w' => (∃ v', e = zR v' ∧ Row .u32 w v' (Dig.digs 4294967296 (Dig.val 4294967296 xs))) ∧ w' = w := by
  rcases hr with ⟨rfl, rfl⟩ | ⟨b, o, cap, rfl, h1, h2, hcell⟩
  · go_enter Tryz.func124, Tryz.ntmps124
    go_wp2_with fail
    refine wp_loop_rounds 1 ?_
    rw [rounds_succ]
    go_wp2_with fail
    go_ret
    exact ⟨⟨_, rfl, .inl ⟨rfl, rfl⟩⟩, rfl⟩
  · have hl : (xs.length : Int) ≤ 9223372036854775807 := by unfold maxLen at h2; omega
    have fin : ∀ m, m ≤ xs.length → (∀ j, m ≤ j → xs.getD j 0 = 0) → (m = 0 ∨ xs.getD (m - 1) 0 ≠ 0) → Row .u32 w (.slice (some ⟨b, o, none⟩) m cap) (Dig.digs 4294967296 (Dig.val 4294967296 xs)) := by
      intro m hm hz hlast
      have hlen : (xs.take m).length = m := by rw [List.length_take]; omega
      have e1 := Dig.canon 4294967296 (by omega) (xs.take m) (Dig.ok_take hok m) (by
        rcases hlast with rfl | h
        · exact .inl rfl
        · by_cases hm0 : m = 0
          · subst hm0; exact .inl rfl
          · right
            rw [hlen, List.getD_eq_getElem?_getD, List.getElem?_take_of_lt (by omega), ← List.getD_eq_getElem?_getD]
            exact h)
      rw [Dig.val_take_zero 4294967296 xs m hz] at e1
      rw [e1]
      refine .inr ⟨b, o, cap, by rw [hlen], by omega, h2, ?_⟩
      intro i hi
      rw [hlen] at hi
      rw [hcell i (by omega), List.getD_eq_getElem?_getD, List.getD_eq_getElem?_getD, List.getElem?_take_of_lt hi]
    have hF : Hid _ := fin
    have hc : Hid _ := hcell
    have hm' : cap ≤ 9223372036854775807 := by unfold maxLen at h2; omega
    clear fin hcell h2 hok
    go_enter Tryz.func124, Tryz.ntmps124
    go_wp2_with fail
    go_loop [3] (fun n => ∃ m : Nat, m ≤ xs.length ∧ n = J zq m ∧ ∀ j, m ≤ j → xs.getD j 0 = 0) (fun n => (intOf n).toNat)
    case atStart => exact ⟨xs.length, Nat.le_refl _, rfl, fun j hj => by rw [List.getD_eq_getElem?_getD, List.getElem?_eq_none hj]; rfl⟩
    case round =>
      obtain ⟨m, hm, rfl, hz⟩ := hrel
      have hZ : Hid _ := hz
      clear hz
      cases m with
      | zero =>
        go_wp2_with fail
        go_ret
        exact ⟨⟨_, rfl, hF.out 0 (by omega) hZ.out (.inl rfl)⟩, rfl⟩
      | succ m =>
        have hcm := hc.out m (by omega)
        by_cases h0 : xs.getD m 0 = 0
        · have hZ' : Hid (∀ j, m ≤ j → xs.getD j 0 = 0) := by
            intro j hj
            by_cases e : j = m
            · rw [e]; exact h0
            · exact hZ.out j (by omega)
          rw [h0] at hcm
          clear h0
          have hpos : (0 : Int) < (m : Int) + 1 := by omega
          go_wp2_with fail
          go_round
          case rel => exact ⟨m, by omega, by go_num, hZ'.out⟩
          case measure => simp [intOf]
        · have hn : Hid (xs.getD m 0 ≠ 0) := h0
          obtain ⟨x, hx⟩ : ∃ x : Int, ((xs.getD m 0 : Nat) : Int) = x := ⟨_, rfl⟩
          have hx0 : (x == 0) = false := by rw [← hx]; simp only [beq_eq_false_iff_ne, ne_eq]; omega
          rw [hx] at hcm
          clear hx h0
          go_wp2_with fail
          go_ret
          exact ⟨⟨_, rfl, hF.out (m + 1) (by omega) hZ.out (.inr hn.out)⟩, rfl⟩
theorem Tryz.info32 : (Tryz.prog.info? 164).map (fun i => (i.zero, i.size, i.bytes)) = some (some (.int .u32 0), 1, 4) := by kernel_rfl
theorem Tryz.info64 : (Tryz.prog.info? 90).map (fun i => (i.zero, i.size, i.bytes)) = some (some (J zu 0), 1, 8) := by kernel_rfl
def ints (k : IntKind) (xs : List Nat) : List Value := xs.map fun x : Nat => Value.int k (x : Int)
theorem row_of_own {k : IntKind} {w : World} {base : Nat} {e : TypeId} {v : Value} {n : Nat} {xs : List Nat} (h : w.ownsRow base e 1 v n (ints k xs)) : Row k w v xs := by
  have hlen : xs.length = n := by have := h.1; unfold ints at this; simpa using this
  rcases h.2 with ⟨hv, h0⟩ | ⟨g, cap, cur, hv, hb, hg, hn, hm, hs, ht⟩
  · exact .inl ⟨hv, List.eq_nil_of_length_eq_zero (by omega)⟩
  · refine .inr ⟨g, 0, cap, by rw [hlen]; exact hv, by omega, hm, ?_⟩
    intro i hi
    have hc := h.cells (g := g) (by rw [hv]; rfl) i (.int k (xs.getD i 0 : Nat)) (by
      unfold ints
      rw [List.getElem?_map, List.getElem?_eq_getElem hi, List.getD_eq_getElem?_getD, List.getElem?_eq_getElem hi]
      rfl)
    have e : (⟨g, 0, none⟩ : Addr).add i = ⟨g, 0 + i, none⟩ := by
      unfold Addr.add; split
      · subst_vars; rfl
      · rfl
    rw [e] at hc
    exact hc
theorem two_new (w : World) (u v : Value) (T : TypeId) : ∀ j x, [u, v][j]? = some x → ((w.alloc (.cells #[u, v] T)).drew).cell? ((⟨w.heap.size, 0, none⟩ : Addr).add j) = some x := by
  intro j x h
  match j, h with
  | 0, h => simp at h; subst h; simp [Addr.add, go_sem]
  | 1, h => simp at h; subst h; simp [Addr.add, go_sem]
  | j + 2, h => simp at h
theorem ext_grown {a w w' : World} {v : Value} {e : TypeId} {n : Nat} {xs : List Value} (h : Ext a w) (ho : w.ownsRow a.heap.size e 1 v n xs) (hg : w.grownBy w' v.ownBlock) : Ext a w' :=
  Below.grown h hg h.size (fun k hk => (ho.lt k hk).1)
set_option maxHeartbeats 400000 in
theorem nof_any (n : Nat) (hn : n < 18446744073709551616) (w : World) :
    Calls zP 57 #[J zu (n : Int)] w fun e w' => (∃ v', e = zR v' ∧ Row .u64 w' v' (Dig.digs 18446744073709551616 n)) ∧ Ext w w' := by
  have HT : Hid (∀ v w, Row .u64 w v [n] → Calls zP 96 #[v] w fun e w' => (∃ v', e = zR v' ∧ Row .u64 w v' (Dig.digs 18446744073709551616 n)) ∧ w' = w) := by
    intro v w hr
    have h := ntrim_any [n] v w hr (Dig.ok_cons hn (Dig.ok_nil (by omega)))
    have e : Dig.val 18446744073709551616 [n] = n := by simp [Dig.val]
    rw [e] at h
    exact h
  go_enter Tryz.func57, Tryz.ntmps57
  go_wp2_with fail
  refine (HT.out _ _ ?_).mono ?_
  · refine .inr ⟨w.heap.size, 0, 1, rfl, by simp, by decide, ?_⟩
    intro i hi
    obtain rfl : i = 0 := by simpa using hi
    simp [go_sem]
  · rintro e w1 ⟨⟨v', rfl, hr⟩, rfl⟩
    go_wp2_with fail
    go_ret
    exact ⟨⟨_, rfl, hr⟩, (Ext.refl _).alloc _⟩
def hv (xs : List Nat) : List Nat := xs.flatMap fun x => [x % 4294967296, x / 4294967296]
theorem hv_snoc (xs : List Nat) (x : Nat) : hv (xs ++ [x]) = hv xs ++ [x % 4294967296, x / 4294967296] := by simp [hv]
theorem hv_take (xs : List Nat) (k : Nat) (h : k < xs.length) : hv (xs.take (k + 1)) = hv (xs.take k) ++ [xs.getD k 0 % 4294967296, xs.getD k 0 / 4294967296] := by
  rw [List.take_succ_eq_append_getElem h, hv_snoc, List.getD_eq_getElem?_getD, List.getElem?_eq_getElem h]
  rfl
theorem hv_val (xs : List Nat) : Dig.val 4294967296 (hv xs) = Dig.val 18446744073709551616 xs := by
  induction xs with
  | nil => rfl
  | cons x xs ih =>
    have e : hv (x :: xs) = x % 4294967296 :: x / 4294967296 :: hv xs := by simp [hv]
    rw [e]
    simp only [Dig.val]
    rw [ih]
    omega
theorem hv_ok (xs : List Nat) (h : Dig.Ok 18446744073709551616 xs) : Dig.Ok 4294967296 (hv xs) := by
  induction xs with
  | nil => exact Dig.ok_nil (by omega)
  | cons x xs ih =>
    have e : hv (x :: xs) = x % 4294967296 :: x / 4294967296 :: hv xs := by simp [hv]
    rw [e]
    have hx : x < 18446744073709551616 := by simpa using h 0
    exact Dig.ok_cons (by omega) (Dig.ok_cons (by omega) (ih (Dig.ok_tail h)))
set_option maxHeartbeats 2000000 in
theorem halves_any (n : Nat) (v : Value) (w : World) (hr : Row .u64 w v (Dig.digs 18446744073709551616 n)) (hs : (Dig.digs 18446744073709551616 n).length ≤ 1000) :
    Calls zP 122 #[v] w fun e w' => (∃ v', e = zR v' ∧ Row .u32 w' v' (Dig.digs 4294967296 n)) ∧ Ext w w' := by
  have hok := Dig.okd 18446744073709551616 n (by omega)
  have hvn := Dig.vald 18446744073709551616 n (by omega)
  have HC : Hid (∀ v w, Row .u32 w v (hv (Dig.digs 18446744073709551616 n)) → Calls zP 124 #[v] w fun e w' => (∃ v', e = zR v' ∧ Row .u32 w v' (Dig.digs 4294967296 n)) ∧ w' = w) := by
    intro v w hr
    have h := cut_any _ v w hr (hv_ok _ hok)
    rw [hv_val, hvn] at h
    exact h
  clear hvn
  generalize Dig.digs 18446744073709551616 n = xs at *
  obtain ⟨i0, hi, hz0, hz1, hz2⟩ := info_parts Tryz.info32
  rcases hr with ⟨rfl, rfl⟩ | ⟨b, o, cap, rfl, h1, h2, hcell⟩
  · go_enter Tryz.func122, Tryz.ntmps122
    go_wp2_with fail
    refine wp_loop_rounds 1 ?_
    rw [rounds_succ]
    go_wp2_with fail
    refine (HC.out _ _ (.inl ⟨rfl, rfl⟩)).mono ?_
    rintro e w1 ⟨⟨v', rfl, hr⟩, rfl⟩
    go_wp2_with fail
    go_ret
    exact ⟨⟨_, rfl, hr⟩, Ext.refl _⟩
  · have hc : Hid _ := hcell
    clear hcell h1 h2
    go_enter Tryz.func122, Tryz.ntmps122
    go_wp2_with fail
    go_loopw [3, 4] (fun l i wr => ∃ k : Nat, k ≤ xs.length ∧ i = J zq k ∧ wr.ownsRow w.heap.size 164 1 l (2 * k) (ints .u32 (hv (xs.take k))) ∧ Ext w wr) (fun _ i _ => xs.length - (intOf i).toNat)
    case atStart => exact ⟨0, Nat.zero_le _, rfl, World.ownsRow_nil _ _ _ _, Ext.refl _⟩
    case round =>
      obtain ⟨k, hk, rfl, hown, hx⟩ := hrel
      by_cases hlt : k < xs.length
      · have hcx := (hx.lay).1 b (o + k) (cell_lt (hc.out k hlt))
        rw [hc.out k hlt] at hcx
        have hxk := hok k
        have hT : Hid (hv (xs.take (k + 1)) = hv (xs.take k) ++ [xs.getD k 0 % 4294967296, xs.getD k 0 / 4294967296]) := hv_take xs k hlt
        obtain ⟨x, hx64⟩ : ∃ x : Nat, xs.getD k 0 = x := ⟨_, rfl⟩
        rw [hx64] at hcx hxk hT
        clear hx64
        have hlt' : (k : Int) < (xs.length : Int) := by omega
        obtain ⟨y0, e0, f0⟩ : ∃ y : Int, IntKind.u32.wrap (x : Int) = y ∧ Hid (y = ((x % 4294967296 : Nat) : Int)) := ⟨_, rfl, by show _ = _; rw [IntKind.wrap_u32]; omega⟩
        obtain ⟨y1, e1, f1⟩ : ∃ y : Int, IntKind.u32.wrap ((x : Int) / 4294967296) = y ∧ Hid (y = ((x / 4294967296 : Nat) : Int)) := ⟨_, rfl, by show _ = _; rw [IntKind.wrap_u32]; omega⟩
        have hB : Hid (w.heap.size ≤ wr.heap.size) := hx.size
        have hN : Hid (ints .u32 (hv (xs.take (k + 1))) = ints .u32 (hv (xs.take k)) ++ [.int .u32 y0, .int .u32 y1]) := by
          show _ = _
          rw [hT.out, f0.out, f1.out]; simp [ints]
        clear f0 f1 hT
        generalize ints .u32 (hv (xs.take k)) = old at *
        go_wp2_with fail
        go_region_law (refine step_append_lies _ rfl (.tmp 11) (.tmp 23) 162 rfl w.heap.size 164 i0 (.int .u32 0) 1 4 Tryz.underlying162 hi hz0 hz1 hz2 rfl (by decide) _ (2 * k) old rfl (by exact hown.alloc _) ⟨wr.heap.size, 0, none⟩ 2 2 [.int .u32 y0, .int .u32 y1] rfl rfl (by exact two_new wr _ _ _) (by simp [Value.oneCell']) (by decide) (by unfold maxLen; omega) (by omega) (by simp; exact Nat.le_succ_of_le hB.out) (wr.heap.size + 1) (by simp) ?_; intro g cap' w1 hown' hg' hgb hgl)
        all_goals
          have R1 : Hid (w1.ownsRow w.heap.size 164 1 (.slice (some ⟨g, 0, none⟩) (2 * k + 2) cap') (2 * (k + 1)) (ints .u32 (hv (xs.take (k + 1))))) := by
            have e : 2 * (k + 1) = 2 * k + 2 := by omega
            show w1.ownsRow _ _ _ _ _ _
            rw [e, hN.out]
            exact hown'
          have R2 : Hid (Ext w w1) := ext_grown (a := w) ((hx.alloc _).drew) (hown.alloc _) hg'
          clear hown' hg' hgb hgl hown
          go_wp2_with fail
          go_roundw
          case rel => exact ⟨k + 1, by omega, by go_num, R1.out, R2.out⟩
          case measure => simp [intOf]; omega
      · obtain rfl : k = xs.length := by omega
        rw [List.take_of_length_le (Nat.le_refl _)] at hown
        have hrow := row_of_own hown
        clear hown
        go_wp2_with fail
        refine (HC.out _ _ hrow).mono ?_
        rintro e w1 ⟨⟨v', rfl, hr⟩, rfl⟩
        go_wp2_with fail
        go_ret
        exact ⟨⟨_, rfl, hr⟩, hx⟩
def wl (xs : List Nat) (j : Nat) : List Nat := (List.range j).map fun t => xs.getD (2 * t) 0 + 4294967296 * xs.getD (2 * t + 1) 0
theorem wl_succ (xs : List Nat) (j : Nat) : wl xs (j + 1) = wl xs j ++ [xs.getD (2 * j) 0 + 4294967296 * xs.getD (2 * j + 1) 0] := by simp [wl, List.range_succ]
theorem wl_len (xs : List Nat) (j : Nat) : (wl xs j).length = j := by simp [wl]
theorem wl_val (xs : List Nat) (j : Nat) : Dig.val 18446744073709551616 (wl xs j) = Dig.val 4294967296 (xs.take (2 * j)) := by
  induction j with
  | zero => rfl
  | succ j ih =>
    rw [wl_succ, Dig.val_snoc, wl_len, ih, show 2 * (j + 1) = 2 * j + 1 + 1 by omega, Dig.val_take_succ, Dig.val_take_succ]
    have e : (4294967296 : Nat) ^ (2 * j) = 18446744073709551616 ^ j := by rw [Nat.pow_mul]
    have e2 : (4294967296 : Nat) ^ (2 * j + 1) = 18446744073709551616 ^ j * 4294967296 := by rw [Nat.pow_succ, e]
    rw [e, e2, Nat.mul_add, Nat.mul_assoc]
    omega
theorem wl_ok (xs : List Nat) (h : Dig.Ok 4294967296 xs) (j : Nat) : Dig.Ok 18446744073709551616 (wl xs j) := by
  induction j with
  | zero => exact Dig.ok_nil (by omega)
  | succ j ih =>
    rw [wl_succ]
    have h1 := h (2 * j)
    have h2 := h (2 * j + 1)
    exact Dig.ok_snoc ih (by omega)
theorem one_new (w : World) (u : Value) (T : TypeId) : ∀ j x, [u][j]? = some x → (w.alloc (.cells #[u] T)).cell? ((⟨w.heap.size, 0, none⟩ : Addr).add j) = some x := by
  intro j x h
  match j, h with
  | 0, h => simp at h; subst h; simp [Addr.add, go_sem]
  | j + 1, h => simp at h
theorem or_halves (a b : Nat) (ha : a < 4294967296) (hb : b < 4294967296) : bits BinOp.or IntKind.u64 (a : Int) ((b : Int) * 4294967296) = ((a + 4294967296 * b : Nat) : Int) := by
  have e : (b : Int) * 4294967296 = ((b * 4294967296 : Nat) : Int) := by omega
  rw [e, bits_or_u64_nat _ _ (by omega) (by omega)]
  have : a ||| b * 4294967296 = a + 4294967296 * b := by
    rw [Nat.or_comm, Nat.mul_comm, show (4294967296 : Nat) = 2 ^ 32 from rfl, ← Nat.two_pow_add_eq_or_of_lt ha]
    omega
  rw [this]
set_option maxHeartbeats 2000000 in
theorem whole_any (xs : List Nat) (v : Value) (w : World) (hr : Row .u32 w v xs) (hok : Dig.Ok 4294967296 xs) (hs : xs.length ≤ 10000) :
    Calls zP 123 #[v] w fun e w' => (∃ v', e = zR v' ∧ Row .u64 w' v' (Dig.digs 18446744073709551616 (Dig.val 4294967296 xs))) ∧ Ext w w' := by
  have HC : Hid (∀ j v w, xs.length ≤ 2 * j → Row .u64 w v (wl xs j) → Calls zP 96 #[v] w fun e w' => (∃ v', e = zR v' ∧ Row .u64 w v' (Dig.digs 18446744073709551616 (Dig.val 4294967296 xs))) ∧ w' = w) := by
    intro j v w hj hr
    have h := ntrim_any _ v w hr (wl_ok xs hok j)
    rw [wl_val, List.take_of_length_le hj] at h
    exact h
  generalize Dig.digs 18446744073709551616 (Dig.val 4294967296 xs) = out at *
  obtain ⟨i0, hi, hz0, hz1, hz2⟩ := info_parts Tryz.info64
  rcases hr with ⟨rfl, rfl⟩ | ⟨b, o, cap, rfl, h1, h2, hcell⟩
  · go_enter Tryz.func123, Tryz.ntmps123
    go_wp2_with fail
    refine wp_loop_rounds 1 ?_
    rw [rounds_succ]
    go_wp2_with fail
    refine (HC.out 0 _ _ (by simp) (.inl ⟨rfl, rfl⟩)).mono ?_
    rintro e w1 ⟨⟨v', rfl, hr⟩, rfl⟩
    go_wp2_with fail
    go_ret
    exact ⟨⟨_, rfl, hr⟩, Ext.refl _⟩
  · have hc : Hid _ := hcell
    clear hcell h1 h2
    go_enter Tryz.func123, Tryz.ntmps123
    go_wp2_with fail
    go_loopw [3, 4] (fun l i wr => ∃ j t : Nat, t = 2 * j ∧ t ≤ xs.length + 1 ∧ i = J zq (t : Int) ∧ wr.ownsRow w.heap.size 90 1 l j (ints .u64 (wl xs j)) ∧ Ext w wr) (fun _ i _ => xs.length + 1 - (intOf i).toNat)
    case atStart => exact ⟨0, 0, rfl, Nat.zero_le _, rfl, World.ownsRow_nil _ _ _ _, Ext.refl _⟩
    case round =>
      obtain ⟨j, t, ht, hj, rfl, hown, hx⟩ := hrel
      have hB : Hid (w.heap.size ≤ wr.heap.size) := hx.size
      have hT : Hid (ints .u64 (wl xs (j + 1)) = ints .u64 (wl xs j) ++ [J zu ((xs.getD t 0 + 4294967296 * xs.getD (t + 1) 0 : Nat) : Int)]) := by
        show _ = _
        rw [wl_succ, ht]; simp [ints]
      have hH : Hid (t = 2 * j) := ht
      have hj2 : j ≤ 10001 := by omega
      clear ht
      by_cases hlt : t < xs.length
      · have hcx := (hx.lay).1 b (o + t) (cell_lt (hc.out _ hlt))
        rw [hc.out _ hlt] at hcx
        have hx0 := hok t
        have hx1 := hok (t + 1)
        have hlt' : (t : Int) < (xs.length : Int) := by omega
        obtain ⟨X0, g0, g0', g0''⟩ : ∃ X : Int, ((xs.getD t 0 : Nat) : Int) = X ∧ 0 ≤ X ∧ X < 4294967296 := ⟨_, rfl, by omega, by omega⟩
        rw [g0] at hcx
        by_cases hl2 : t + 1 < xs.length
        · have hcy := (hx.lay).1 b (o + (t + 1)) (cell_lt (hc.out _ hl2))
          rw [hc.out _ hl2] at hcy
          have hl2' : (t : Int) + 1 < (xs.length : Int) := by omega
          obtain ⟨X1, g1, g1', g1''⟩ : ∃ X : Int, ((xs.getD (t + 1) 0 : Nat) : Int) = X ∧ 0 ≤ X ∧ X < 4294967296 := ⟨_, rfl, by omega, by omega⟩
          rw [g1] at hcy
          obtain ⟨y, ey, hN⟩ : ∃ y : Int, bits BinOp.or IntKind.u64 X0 (X1 * 4294967296) = y ∧ Hid (ints .u64 (wl xs (j + 1)) = ints .u64 (wl xs j) ++ [J zu y]) := by
            refine ⟨_, rfl, ?_⟩
            show _ = _
            rw [hT.out, ← g0, ← g1, or_halves _ _ hx0 hx1]
          clear hx0 hx1 g0 g1 hT
          go_wp2_with (at_builtin; refine wpList_append_lies _ rfl (.tmp 31) (.tmp 33) 48 rfl w.heap.size 90 i0 (J zu 0) 1 8 Tryz.underlying48 hi hz0 hz1 hz2 rfl (by decide) _ j _ rfl (hown.alloc _) ⟨wr.heap.size, 0, none⟩ 1 1 [J zu y] rfl rfl (one_new wr _ _) (by simp [Value.oneCell']) (by decide) (by unfold maxLen; omega) (by omega) (by simp; exact Nat.le_succ_of_le hB.out) (wr.heap.size + 1) (by simp) ?_; intro g cap' w1 hown' hg' hgb hgl; have R1 : Hid (w1.ownsRow w.heap.size 90 1 (.slice (some ⟨g, 0, none⟩) (j + 1) cap') (j + 1) (ints .u64 (wl xs (j + 1)))) := (by show w1.ownsRow _ _ _ _ _ _; rw [hN.out]; exact hown'); have R2 : Hid (Ext w w1) := ext_grown (a := w) (hx.alloc _) (hown.alloc _) hg'; clear hown' hg' hgb hgl hown)
          go_roundw
          case rel => exact ⟨j + 1, t + 2, by have := hH.out; omega, by omega, by go_num, R1.out, R2.out⟩
          case measure => simp [intOf]; omega
        · have hN : Hid (ints .u64 (wl xs (j + 1)) = ints .u64 (wl xs j) ++ [J zu X0]) := by
            show _ = _
            have e0 : xs.getD (t + 1) 0 = 0 := by rw [List.getD_eq_getElem?_getD, List.getElem?_eq_none (by omega)]; rfl
            rw [hT.out, e0, ← g0]; rfl
          have hl2' : ¬ (t : Int) + 1 < (xs.length : Int) := by omega
          clear hx0 hx1 g0 hT
          go_wp2_with (at_builtin; refine wpList_append_lies _ rfl (.tmp 31) (.tmp 33) 48 rfl w.heap.size 90 i0 (J zu 0) 1 8 Tryz.underlying48 hi hz0 hz1 hz2 rfl (by decide) _ j _ rfl (hown.alloc _) ⟨wr.heap.size, 0, none⟩ 1 1 [J zu X0] rfl rfl (one_new wr _ _) (by simp [Value.oneCell']) (by decide) (by unfold maxLen; omega) (by omega) (by simp; exact Nat.le_succ_of_le hB.out) (wr.heap.size + 1) (by simp) ?_; intro g cap' w1 hown' hg' hgb hgl; have R1 : Hid (w1.ownsRow w.heap.size 90 1 (.slice (some ⟨g, 0, none⟩) (j + 1) cap') (j + 1) (ints .u64 (wl xs (j + 1)))) := (by show w1.ownsRow _ _ _ _ _ _; rw [hN.out]; exact hown'); have R2 : Hid (Ext w w1) := ext_grown (a := w) (hx.alloc _) (hown.alloc _) hg'; clear hown' hg' hgb hgl hown)
          go_roundw
          case rel => exact ⟨j + 1, t + 2, by have := hH.out; omega, by omega, by go_num, R1.out, R2.out⟩
          case measure => simp [intOf]; omega
      · have hrow := row_of_own hown
        clear hown
        have hlt' : ¬ (t : Int) < (xs.length : Int) := by omega
        have hle : xs.length ≤ 2 * j := by have := hH.out; omega
        go_wp2_with fail
        refine (HC.out j _ _ hle hrow).mono ?_
        rintro e w1 ⟨⟨v', rfl, hr⟩, rfl⟩
        go_wp2_with fail
        go_ret
        exact ⟨⟨_, rfl, hr⟩, hx⟩
def IsN (w : World) (v : Value) (n : Nat) : Prop := Row .u64 w v (Dig.digs 18446744073709551616 n)
theorem IsN.ext {w w' : World} {v : Value} {n : Nat} (h : IsN w v n) (hx : Ext w w') : IsN w' v n := Row.ext h hx
theorem Row.shape {k : IntKind} {w : World} {v : Value} {xs : List Nat} (h : Row k w v xs) : ∃ a cap, v = .slice a xs.length cap ∧ (0 < xs.length → ∃ b o, a = some ⟨b, o, none⟩ ∧ ∀ i, i < xs.length → w.cell? ⟨b, o + i, none⟩ = some (.int k (xs.getD i 0 : Nat))) := by
  rcases h with ⟨h1, h2⟩ | ⟨b, o, cap, h1, h2, h3, h4⟩
  · exact ⟨none, 0, by rw [h1, h2]; rfl, fun h => by rw [h2] at h; simp at h⟩
  · exact ⟨_, cap, h1, fun _ => ⟨b, o, rfl, h4⟩⟩
theorem plus_step (B k c x y X Y : Nat) (zs : List Nat) (hl : zs.length = k) (h : Dig.val B zs + B ^ k * c = X + Y) :
    Dig.val B (zs ++ [(c + x + y) % B]) + B ^ (k + 1) * ((c + x + y) / B) = X + B ^ k * x + (Y + B ^ k * y) := by
  rw [Dig.val_snoc, hl, Nat.pow_succ, Nat.mul_assoc]
  have e : B ^ k * ((c + x + y) % B) + B ^ k * (B * ((c + x + y) / B)) = B ^ k * c + B ^ k * x + B ^ k * y := by
    rw [← Nat.mul_add, Nat.mod_add_div, Nat.mul_add, Nat.mul_add]
  omega
def PRel (xs ys : List Nat) (k c : Nat) (zs : List Nat) : Prop :=
  zs.length = k ∧ Dig.Ok 4294967296 zs ∧ c ≤ 1 ∧ Dig.val 4294967296 zs + 4294967296 ^ k * c = Dig.val 4294967296 (xs.take k) + Dig.val 4294967296 (ys.take k)
theorem PRel.start (xs ys : List Nat) : PRel xs ys 0 0 [] := ⟨rfl, Dig.ok_nil (by omega), by omega, rfl⟩
theorem PRel.step {xs ys : List Nat} {k c : Nat} {zs : List Nat} (h : PRel xs ys k c zs) (hx : xs.getD k 0 < 4294967296) (hy : ys.getD k 0 < 4294967296) :
    PRel xs ys (k + 1) ((c + xs.getD k 0 + ys.getD k 0) / 4294967296) (zs ++ [(c + xs.getD k 0 + ys.getD k 0) % 4294967296]) := by
  obtain ⟨h1, h2, h3, h4⟩ := h
  refine ⟨by simp [h1], Dig.ok_snoc h2 (by omega), by omega, ?_⟩
  rw [Dig.val_take_succ, Dig.val_take_succ]
  exact plus_step 4294967296 k c _ _ _ _ zs h1 h4
theorem PRel.done {xs ys : List Nat} {k c : Nat} {zs : List Nat} (h : PRel xs ys k c zs) (hx : xs.length ≤ k) (hy : ys.length ≤ k) :
    Dig.Ok 4294967296 (zs ++ [c]) ∧ Dig.val 4294967296 (zs ++ [c]) = Dig.val 4294967296 xs + Dig.val 4294967296 ys := by
  obtain ⟨h1, h2, h3, h4⟩ := h
  refine ⟨Dig.ok_snoc h2 (by omega), ?_⟩
  rw [List.take_of_length_le hx, List.take_of_length_le hy] at h4
  rw [Dig.val_snoc, h1]
  exact h4
theorem cutwhole (zs : List Nat) (hok : Dig.Ok 4294967296 zs) (hl : zs.length ≤ 9000) (N : Nat) (hN : Dig.val 4294967296 zs = N) :
    (∀ v w, Row .u32 w v zs → Calls zP 124 #[v] w fun e w' => (∃ v', e = zR v' ∧ Row .u32 w v' (Dig.digs 4294967296 N)) ∧ w' = w) ∧
    (∀ v w, Row .u32 w v (Dig.digs 4294967296 N) → Calls zP 123 #[v] w fun e w' => (∃ v', e = zR v' ∧ IsN w' v' N) ∧ Ext w w') := by
  constructor
  · intro v w hr
    have h := cut_any zs v w hr hok
    rw [hN] at h
    exact h
  · intro v w hr
    have hlen : (Dig.digs 4294967296 N).length ≤ 9000 := by
      have h1 := Dig.val_lt 4294967296 zs hok
      rw [hN] at h1
      have := Dig.digs_length_le 4294967296 (by omega) N zs.length h1
      omega
    have h := whole_any _ v w hr (Dig.okd 4294967296 N (by omega)) (by omega)
    rw [Dig.vald 4294967296 N (by omega)] at h
    exact h
def Small (n : Nat) : Prop := (Dig.digs 18446744073709551616 n).length ≤ 1000 ∧ (Dig.digs 4294967296 n).length ≤ 2000
set_option maxHeartbeats 4000000 in
theorem nplus_any (m n : Nat) (v1 v2 : Value) (w : World) (h1 : IsN w v1 m) (h2 : IsN w v2 n) (s1 : Small m) (s2 : Small n) :
    Calls zP 91 #[v1, v2] w fun e w' => (∃ v', e = zR v' ∧ IsN w' v' (m + n)) ∧ Ext w w' := by
  obtain ⟨i0, hi, hz0, hz1, hz2⟩ := info_parts Tryz.info32
  have ok1 := Dig.okd 4294967296 m (by omega)
  have ok2 := Dig.okd 4294967296 n (by omega)
  have V1 := Dig.vald 4294967296 m (by omega)
  have V2 := Dig.vald 4294967296 n (by omega)
  have H1 : Hid (∀ w', Ext w w' → Calls zP 122 #[v1] w' fun e w'' => (∃ v', e = zR v' ∧ Row .u32 w'' v' (Dig.digs 4294967296 m)) ∧ Ext w' w'') := fun w' hx => halves_any m v1 w' (h1.ext hx) s1.1
  have H2 : Hid (∀ w', Ext w w' → Calls zP 122 #[v2] w' fun e w'' => (∃ v', e = zR v' ∧ Row .u32 w'' v' (Dig.digs 4294967296 n)) ∧ Ext w' w'') := fun w' hx => halves_any n v2 w' (h2.ext hx) s2.1
  have S1 : (Dig.digs 4294967296 m).length ≤ 2000 := s1.2
  have S2 : (Dig.digs 4294967296 n).length ≤ 2000 := s2.2
  have HD : Hid (∀ k c zs, PRel (Dig.digs 4294967296 m) (Dig.digs 4294967296 n) k c zs → (Dig.digs 4294967296 m).length ≤ k → (Dig.digs 4294967296 n).length ≤ k → k ≤ 2000 → (∀ v w, Row .u32 w v (zs ++ [c]) → Calls zP 124 #[v] w fun e w' => (∃ v', e = zR v' ∧ Row .u32 w v' (Dig.digs 4294967296 (m + n))) ∧ w' = w) ∧
    (∀ v w, Row .u32 w v (Dig.digs 4294967296 (m + n)) → Calls zP 123 #[v] w fun e w' => (∃ v', e = zR v' ∧ IsN w' v' (m + n)) ∧ Ext w w')) := by
    intro k c zs hr hx hy hk
    obtain ⟨d1, d2⟩ := hr.done hx hy
    rw [V1, V2] at d2
    exact cutwhole _ d1 (by have := hr.1; simp; omega) _ d2
  clear h1 h2 s1 s2 V1 V2
  generalize Dig.digs 4294967296 m = xs at *
  generalize Dig.digs 4294967296 n = ys at *
  go_enter Tryz.func91, Tryz.ntmps91
  go_wp2_with fail
  refine (H1.out _ (Ext.refl _)).mono ?_
  rintro e w1 ⟨⟨x, rfl, hx⟩, x1⟩
  go_wp2_with fail
  refine (H2.out _ x1).mono ?_
  rintro e w2 ⟨⟨y, rfl, hy⟩, x2⟩
  have hx' := hx.ext x2
  have X2 : Hid (Ext w w2) := x1.trans x2
  obtain ⟨ax, cx, rfl, gx⟩ := hx'.shape
  obtain ⟨ay, cy, rfl, gy⟩ := hy.shape
  have GX : Hid _ := gx
  have GY : Hid _ := gy
  clear hx hy hx' x1 x2 H1 H2 gx gy
  go_wp2_with fail
  go_loopw [7, 8, 9] (fun l c i wr => ∃ (k C : Nat) (zs : List Nat), k ≤ 2000 ∧ i = J zq (k : Int) ∧ c = J zu (C : Int) ∧ PRel xs ys k C zs ∧ wr.ownsRow w2.heap.size 164 1 l k (ints .u32 zs) ∧ Ext w2 wr) (fun _ _ i _ => 2001 - (intOf i).toNat)
  case atStart => exact ⟨0, 0, [], by omega, rfl, rfl, PRel.start _ _, World.ownsRow_nil _ _ _ _, Ext.refl _⟩
  case round =>
    obtain ⟨k, C, zs, hk, rfl, rfl, hP, hown, hx⟩ := hrel
    have hB : Hid (w2.heap.size ≤ wr.heap.size) := hx.size
    have hC := hP.2.2.1
    obtain ⟨c0, gc, gc', gc''⟩ : ∃ c : Int, (C : Int) = c ∧ 0 ≤ c ∧ c ≤ 1 := ⟨_, rfl, by omega, by omega⟩
    rw [gc]
    by_cases hlx : k < xs.length
    · obtain ⟨blx, ofx, rfl, cellsx⟩ := GX.out (by omega)
      have hcx := (hx.lay).1 blx (ofx + k) (cell_lt (cellsx k hlx))
      rw [cellsx k hlx] at hcx
      have hxk := ok1 k
      have hlx' : (k : Int) < (xs.length : Int) := by omega
      obtain ⟨X, gx, gx', gx''⟩ : ∃ X : Int, ((xs.getD k 0 : Nat) : Int) = X ∧ 0 ≤ X ∧ X < 4294967296 := ⟨_, rfl, by omega, by omega⟩
      rw [gx] at hcx
      by_cases hly : k < ys.length
      · obtain ⟨bly, ofy, rfl, cellsy⟩ := GY.out (by omega)
        have hcy := (hx.lay).1 bly (ofy + k) (cell_lt (cellsy k hly))
        rw [cellsy k hly] at hcy
        have hyk := ok2 k
        have hly' : (k : Int) < (ys.length : Int) := by omega
        obtain ⟨Y, gy, gy', gy''⟩ : ∃ X : Int, ((ys.getD k 0 : Nat) : Int) = X ∧ 0 ≤ X ∧ X < 4294967296 := ⟨_, rfl, by omega, by omega⟩
        rw [gy] at hcy
        have hs := hP.step (ok1 k) (ok2 k)
        obtain ⟨Z, eZ, fZ⟩ : ∃ Z : Int, IntKind.u32.wrap (c0 + X + Y) = Z ∧ Hid (Z = (((C + xs.getD k 0 + ys.getD k 0) % 4294967296 : Nat) : Int)) := ⟨_, rfl, by show _ = _; rw [IntKind.wrap_u32]; omega⟩
        obtain ⟨D, eD, fD⟩ : ∃ D : Int, (c0 + X + Y) / 4294967296 = D ∧ Hid ((((C + xs.getD k 0 + ys.getD k 0) / 4294967296 : Nat) : Int) = D) := ⟨_, rfl, by show _ = _; omega⟩
        have hN : Hid (ints .u32 (zs ++ [(C + xs.getD k 0 + ys.getD k 0) % 4294967296]) = ints .u32 zs ++ [.int .u32 Z]) := by
          show _ = _
          rw [fZ.out]; simp [ints]
        have HS : Hid _ := hs
        clear hs hP fZ gc gx gy hxk hyk
        go_wp2_with (at_builtin; refine wpList_append_lies _ rfl (.tmp 48) (.tmp 51) 162 rfl w2.heap.size 164 i0 (.int .u32 0) 1 4 Tryz.underlying162 hi hz0 hz1 hz2 rfl (by decide) _ k _ rfl (hown.alloc _) ⟨wr.heap.size, 0, none⟩ 1 1 [.int .u32 Z] rfl rfl (one_new wr _ _) (by simp [Value.oneCell']) (by decide) (by unfold maxLen; omega) (by omega) (by simp; exact Nat.le_succ_of_le hB.out) (wr.heap.size + 1) (by simp) ?_; intro g cap' wz hown' hg' hgb hgl; have R1 : Hid (wz.ownsRow w2.heap.size 164 1 (.slice (some ⟨g, 0, none⟩) (k + 1) cap') (k + 1) (ints .u32 (zs ++ [(C + xs.getD k 0 + ys.getD k 0) % 4294967296]))) := (by show wz.ownsRow _ _ _ _ _ _; rw [hN.out]; exact hown'); have R2 : Hid (Ext w2 wz) := ext_grown (a := w2) (hx.alloc _) (hown.alloc _) hg'; clear hown' hg' hgb hgl hown)
        go_roundw
        case rel => exact ⟨k + 1, _, _, by omega, by go_num, congrArg (Value.int .u64) fD.out.symm, HS.out, R1.out, R2.out⟩
        case measure => simp [intOf]; omega
      · have zy : ys.getD k 0 = 0 := by rw [List.getD_eq_getElem?_getD, List.getElem?_eq_none (by omega)]; rfl
        have hly' : ¬ (k : Int) < (ys.length : Int) := by omega
        have hs := hP.step (ok1 k) (ok2 k)
        obtain ⟨Z, eZ, fZ⟩ : ∃ Z : Int, IntKind.u32.wrap (c0 + X) = Z ∧ Hid (Z = (((C + xs.getD k 0 + ys.getD k 0) % 4294967296 : Nat) : Int)) := ⟨_, rfl, by show _ = _; rw [IntKind.wrap_u32]; omega⟩
        obtain ⟨D, eD, fD⟩ : ∃ D : Int, (c0 + X) / 4294967296 = D ∧ Hid ((((C + xs.getD k 0 + ys.getD k 0) / 4294967296 : Nat) : Int) = D) := ⟨_, rfl, by show _ = _; omega⟩
        have hN : Hid (ints .u32 (zs ++ [(C + xs.getD k 0 + ys.getD k 0) % 4294967296]) = ints .u32 zs ++ [.int .u32 Z]) := by
          show _ = _
          rw [fZ.out]; simp [ints]
        have HS : Hid _ := hs
        clear hs hP fZ gc gx hxk zy
        go_wp2_with (at_builtin; refine wpList_append_lies _ rfl (.tmp 48) (.tmp 51) 162 rfl w2.heap.size 164 i0 (.int .u32 0) 1 4 Tryz.underlying162 hi hz0 hz1 hz2 rfl (by decide) _ k _ rfl (hown.alloc _) ⟨wr.heap.size, 0, none⟩ 1 1 [.int .u32 Z] rfl rfl (one_new wr _ _) (by simp [Value.oneCell']) (by decide) (by unfold maxLen; omega) (by omega) (by simp; exact Nat.le_succ_of_le hB.out) (wr.heap.size + 1) (by simp) ?_; intro g cap' wz hown' hg' hgb hgl; have R1 : Hid (wz.ownsRow w2.heap.size 164 1 (.slice (some ⟨g, 0, none⟩) (k + 1) cap') (k + 1) (ints .u32 (zs ++ [(C + xs.getD k 0 + ys.getD k 0) % 4294967296]))) := (by show wz.ownsRow _ _ _ _ _ _; rw [hN.out]; exact hown'); have R2 : Hid (Ext w2 wz) := ext_grown (a := w2) (hx.alloc _) (hown.alloc _) hg'; clear hown' hg' hgb hgl hown)
        go_roundw
        case rel => exact ⟨k + 1, _, _, by omega, by go_num, congrArg (Value.int .u64) fD.out.symm, HS.out, R1.out, R2.out⟩
        case measure => simp [intOf]; omega
    · have zx : xs.getD k 0 = 0 := by rw [List.getD_eq_getElem?_getD, List.getElem?_eq_none (by omega)]; rfl
      have hlx' : ¬ (k : Int) < (xs.length : Int) := by omega
      by_cases hly : k < ys.length
      · obtain ⟨bly, ofy, rfl, cellsy⟩ := GY.out (by omega)
        have hcy := (hx.lay).1 bly (ofy + k) (cell_lt (cellsy k hly))
        rw [cellsy k hly] at hcy
        have hyk := ok2 k
        have hly' : (k : Int) < (ys.length : Int) := by omega
        obtain ⟨Y, gy, gy', gy''⟩ : ∃ X : Int, ((ys.getD k 0 : Nat) : Int) = X ∧ 0 ≤ X ∧ X < 4294967296 := ⟨_, rfl, by omega, by omega⟩
        rw [gy] at hcy
        have hs := hP.step (ok1 k) (ok2 k)
        obtain ⟨Z, eZ, fZ⟩ : ∃ Z : Int, IntKind.u32.wrap (c0 + Y) = Z ∧ Hid (Z = (((C + xs.getD k 0 + ys.getD k 0) % 4294967296 : Nat) : Int)) := ⟨_, rfl, by show _ = _; rw [IntKind.wrap_u32]; omega⟩
        obtain ⟨D, eD, fD⟩ : ∃ D : Int, (c0 + Y) / 4294967296 = D ∧ Hid ((((C + xs.getD k 0 + ys.getD k 0) / 4294967296 : Nat) : Int) = D) := ⟨_, rfl, by show _ = _; omega⟩
        have hN : Hid (ints .u32 (zs ++ [(C + xs.getD k 0 + ys.getD k 0) % 4294967296]) = ints .u32 zs ++ [.int .u32 Z]) := by
          show _ = _
          rw [fZ.out]; simp [ints]
        have HS : Hid _ := hs
        clear hs hP fZ gc gy hyk zx
        go_wp2_with (at_builtin; refine wpList_append_lies _ rfl (.tmp 48) (.tmp 51) 162 rfl w2.heap.size 164 i0 (.int .u32 0) 1 4 Tryz.underlying162 hi hz0 hz1 hz2 rfl (by decide) _ k _ rfl (hown.alloc _) ⟨wr.heap.size, 0, none⟩ 1 1 [.int .u32 Z] rfl rfl (one_new wr _ _) (by simp [Value.oneCell']) (by decide) (by unfold maxLen; omega) (by omega) (by simp; exact Nat.le_succ_of_le hB.out) (wr.heap.size + 1) (by simp) ?_; intro g cap' wz hown' hg' hgb hgl; have R1 : Hid (wz.ownsRow w2.heap.size 164 1 (.slice (some ⟨g, 0, none⟩) (k + 1) cap') (k + 1) (ints .u32 (zs ++ [(C + xs.getD k 0 + ys.getD k 0) % 4294967296]))) := (by show wz.ownsRow _ _ _ _ _ _; rw [hN.out]; exact hown'); have R2 : Hid (Ext w2 wz) := ext_grown (a := w2) (hx.alloc _) (hown.alloc _) hg'; clear hown' hg' hgb hgl hown)
        go_roundw
        case rel => exact ⟨k + 1, _, _, by omega, by go_num, congrArg (Value.int .u64) fD.out.symm, HS.out, R1.out, R2.out⟩
        case measure => simp [intOf]; omega
      · have hly' : ¬ (k : Int) < (ys.length : Int) := by omega
        obtain ⟨hcut, hwhole⟩ := HD.out k C zs hP (by omega) (by omega) hk
        have HCu : Hid _ := hcut
        have HWh : Hid _ := hwhole
        have hN : Hid (ints .u32 (zs ++ [C]) = ints .u32 zs ++ [.int .u32 c0]) := by
          show _ = _
          rw [← gc]; simp [ints]
        clear hcut hwhole zx gc hP
        go_wp2_with (at_builtin; refine wpList_append_lies _ rfl (.tmp 55) (.tmp 58) 162 rfl w2.heap.size 164 i0 (.int .u32 0) 1 4 Tryz.underlying162 hi hz0 hz1 hz2 rfl (by decide) _ k _ rfl (hown.alloc _) ⟨wr.heap.size, 0, none⟩ 1 1 [.int .u32 c0] rfl rfl (one_new wr _ _) (by simp [Value.oneCell']) (by decide) (by unfold maxLen; omega) (by omega) (by simp; exact Nat.le_succ_of_le hB.out) (wr.heap.size + 1) (by simp) ?_; intro g cap' wz hown' hg' hgb hgl; have R1 : Hid (wz.ownsRow w2.heap.size 164 1 (.slice (some ⟨g, 0, none⟩) (k + 1) cap') (k + 1) (ints .u32 (zs ++ [C]))) := (by show wz.ownsRow _ _ _ _ _ _; rw [hN.out]; exact hown'); have R2 : Hid (Ext w2 wz) := ext_grown (a := w2) (hx.alloc _) (hown.alloc _) hg'; clear hown' hg' hgb hgl hown)
        have hrow := row_of_own R1.out
        refine (HCu.out _ _ hrow).mono ?_
        rintro e w4 ⟨⟨v3, rfl, hr3⟩, rfl⟩
        clear hrow
        go_wp2_with fail
        refine (HWh.out _ _ hr3).mono ?_
        rintro e w5 ⟨⟨v4, rfl, hr4⟩, x5⟩
        go_wp2_with fail
        go_ret
        exact ⟨⟨_, rfl, hr4⟩, (X2.out.trans R2.out).trans x5⟩
end Go.Proofs.YtoeecldhbabmbaaGreat
