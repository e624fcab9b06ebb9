/- The reference's whole numbers: digits in memory; NTrim, cut. -/
import Derived.Test.YtbmocnigmpmfkaaCorem
import Derived.Test.YtbmocnigmpmfkaaDigm
import Derived.Deep.QuietTactic
import Derived.BigQuiet
namespace Go.Proofs.Ytbmocnigmpmfkaa
open Go.RowKit

/-- the slice v holds the numbers xs -/
def Row (k : IntKind) (w : World) (v : Value) (xs : List Nat) : Prop :=
  (v = .slice none 0 0 ∧ xs = []) ∨
  ∃ b o cap, v = .slice (some ⟨b, o, none⟩) xs.length cap ∧ xs.length ≤ cap ∧ cap ≤ maxLen ∧ ∀ i, i < xs.length → w.cell? ⟨b, o + i, none⟩ = some (.int k (xs.getD i 0 : Nat))
theorem Row.ext {k : IntKind} {w w' : World} {v : Value} {xs : List Nat} (h : Row k w v xs) (hx : Ext w w') : Row k w' v xs := by
  rcases h with h | ⟨b, o, cap, h1, h2, h3, h4⟩
  · exact .inl h
  · exact .inr ⟨b, o, cap, h1, h2, h3, fun i hi => by rw [(hx.lay).1 b _ (cell_lt (h4 i hi))]; exact h4 i hi⟩

set_option maxHeartbeats 1000000 in
theorem ntrim_any (xs : List Nat) (v : Value) (w : World) (hr : Row .u64 w v xs) (hok : Dig.Ok 18446744073709551616 xs) :
    Calls Try.prog 50 #[v] w fun e w' => (∃ v', e = .returned v' ∧ Row .u64 w v' (Dig.digs 18446744073709551616 (Dig.val 18446744073709551616 xs))) ∧ w' = w := by
  rcases hr with ⟨rfl, rfl⟩ | ⟨b, o, cap, rfl, h1, h2, hcell⟩
  · go_enter Try.func50, Try.ntmps50
    go_wp2_with fail
    refine wp_loop_rounds 1 ?_
    rw [rounds_succ]
    go_wp2_with fail
    go_ret
    exact ⟨⟨_, rfl, .inl ⟨rfl, rfl⟩⟩, rfl⟩
  · have hl : (xs.length : Int) ≤ 9223372036854775807 := by unfold maxLen at h2; omega
    have fin : ∀ m, m ≤ xs.length → (∀ j, m ≤ j → xs.getD j 0 = 0) → (m = 0 ∨ xs.getD (m - 1) 0 ≠ 0) → Row .u64 w (.slice (some ⟨b, o, none⟩) m cap) (Dig.digs 18446744073709551616 (Dig.val 18446744073709551616 xs)) := by
      intro m hm hz hlast
      have hlen : (xs.take m).length = m := by rw [List.length_take]; omega
      have e1 := Dig.canon 18446744073709551616 (by omega) (xs.take m) (Dig.ok_take hok m) (by
        rcases hlast with rfl | h
        · exact .inl rfl
        · by_cases hm0 : m = 0
          · subst hm0; exact .inl rfl
          · right
            rw [hlen, List.getD_eq_getElem?_getD, List.getElem?_take_of_lt (by omega), ← List.getD_eq_getElem?_getD]
            exact h)
      rw [Dig.val_take_zero 18446744073709551616 xs m hz] at e1
      rw [e1]
      refine .inr ⟨b, o, cap, by rw [hlen], by omega, h2, ?_⟩
      intro i hi
      rw [hlen] at hi
      rw [hcell i (by omega), List.getD_eq_getElem?_getD, List.getD_eq_getElem?_getD, List.getElem?_take_of_lt hi]
    have hF : Hid _ := fin
    have hc : Hid _ := hcell
    have hm' : cap ≤ 9223372036854775807 := by unfold maxLen at h2; omega
    clear fin hcell h2 hok
    go_enter Try.func50, Try.ntmps50
    go_wp2_with fail
    go_loop [3] (fun n => ∃ m : Nat, m ≤ xs.length ∧ n = .int .i64 m ∧ ∀ j, m ≤ j → xs.getD j 0 = 0) (fun n => (intOf n).toNat)
    case atStart => exact ⟨xs.length, Nat.le_refl _, rfl, fun j hj => by rw [List.getD_eq_getElem?_getD, List.getElem?_eq_none hj]; rfl⟩
    case round =>
      obtain ⟨m, hm, rfl, hz⟩ := hrel
      have hZ : Hid _ := hz
      clear hz
      cases m with
      | zero =>
        go_wp2_with fail
        go_ret
        exact ⟨⟨_, rfl, hF.out 0 (by omega) hZ.out (.inl rfl)⟩, rfl⟩
      | succ m =>
        have hcm := hc.out m (by omega)
        by_cases h0 : xs.getD m 0 = 0
        · have hZ' : Hid (∀ j, m ≤ j → xs.getD j 0 = 0) := by
            intro j hj
            by_cases e : j = m
            · rw [e]; exact h0
            · exact hZ.out j (by omega)
          rw [h0] at hcm
          clear h0
          have hpos : (0 : Int) < (m : Int) + 1 := by omega
          go_wp2_with fail
          go_round
          case rel => exact ⟨m, by omega, by go_num, hZ'.out⟩
          case measure => simp [intOf]
        · have hn : Hid (xs.getD m 0 ≠ 0) := h0
          obtain ⟨x, hx⟩ : ∃ x : Int, ((xs.getD m 0 : Nat) : Int) = x := ⟨_, rfl⟩
          have hx0 : (x == 0) = false := by rw [← hx]; simp only [beq_eq_false_iff_ne, ne_eq]; omega
          rw [hx] at hcm
          clear hx h0
          go_wp2_with fail
          go_ret
          exact ⟨⟨_, rfl, hF.out (m + 1) (by omega) hZ.out (.inr hn.out)⟩, rfl⟩

set_option maxHeartbeats 1000000 in
theorem cut_any (xs : List Nat) (v : Value) (w : World) (hr : Row .u32 w v xs) (hok : Dig.Ok 4294967296 xs) :
    Calls Try.prog 70 #[v] w fun e w' => (∃ v', e = .returned v' ∧ Row .u32 w v' (Dig.digs 4294967296 (Dig.val 4294967296 xs))) ∧ w' = w := by
  rcases hr with ⟨rfl, rfl⟩ | ⟨b, o, cap, rfl, h1, h2, hcell⟩
  · go_enter Try.func70, Try.ntmps70
    go_wp2_with fail
    refine wp_loop_rounds 1 ?_
    rw [rounds_succ]
    go_wp2_with fail
    go_ret
    exact ⟨⟨_, rfl, .inl ⟨rfl, rfl⟩⟩, rfl⟩
  · have hl : (xs.length : Int) ≤ 9223372036854775807 := by unfold maxLen at h2; omega
    have fin : ∀ m, m ≤ xs.length → (∀ j, m ≤ j → xs.getD j 0 = 0) → (m = 0 ∨ xs.getD (m - 1) 0 ≠ 0) → Row .u32 w (.slice (some ⟨b, o, none⟩) m cap) (Dig.digs 4294967296 (Dig.val 4294967296 xs)) := by
      intro m hm hz hlast
      have hlen : (xs.take m).length = m := by rw [List.length_take]; omega
      have e1 := Dig.canon 4294967296 (by omega) (xs.take m) (Dig.ok_take hok m) (by
        rcases hlast with rfl | h
        · exact .inl rfl
        · by_cases hm0 : m = 0
          · subst hm0; exact .inl rfl
          · right
            rw [hlen, List.getD_eq_getElem?_getD, List.getElem?_take_of_lt (by omega), ← List.getD_eq_getElem?_getD]
            exact h)
      rw [Dig.val_take_zero 4294967296 xs m hz] at e1
      rw [e1]
      refine .inr ⟨b, o, cap, by rw [hlen], by omega, h2, ?_⟩
      intro i hi
      rw [hlen] at hi
      rw [hcell i (by omega), List.getD_eq_getElem?_getD, List.getD_eq_getElem?_getD, List.getElem?_take_of_lt hi]
    have hF : Hid _ := fin
    have hc : Hid _ := hcell
    have hm' : cap ≤ 9223372036854775807 := by unfold maxLen at h2; omega
    clear fin hcell h2 hok
    go_enter Try.func70, Try.ntmps70
    go_wp2_with fail
    go_loop [3] (fun n => ∃ m : Nat, m ≤ xs.length ∧ n = .int .i64 m ∧ ∀ j, m ≤ j → xs.getD j 0 = 0) (fun n => (intOf n).toNat)
    case atStart => exact ⟨xs.length, Nat.le_refl _, rfl, fun j hj => by rw [List.getD_eq_getElem?_getD, List.getElem?_eq_none hj]; rfl⟩
    case round =>
      obtain ⟨m, hm, rfl, hz⟩ := hrel
      have hZ : Hid _ := hz
      clear hz
      cases m with
      | zero =>
        go_wp2_with fail
        go_ret
        exact ⟨⟨_, rfl, hF.out 0 (by omega) hZ.out (.inl rfl)⟩, rfl⟩
      | succ m =>
        have hcm := hc.out m (by omega)
        by_cases h0 : xs.getD m 0 = 0
        · have hZ' : Hid (∀ j, m ≤ j → xs.getD j 0 = 0) := by
            intro j hj
            by_cases e : j = m
            · rw [e]; exact h0
            · exact hZ.out j (by omega)
          rw [h0] at hcm
          clear h0
          have hpos : (0 : Int) < (m : Int) + 1 := by omega
          go_wp2_with fail
          go_round
          case rel => exact ⟨m, by omega, by go_num, hZ'.out⟩
          case measure => simp [intOf]
        · have hn : Hid (xs.getD m 0 ≠ 0) := h0
          obtain ⟨x, hx⟩ : ∃ x : Int, ((xs.getD m 0 : Nat) : Int) = x := ⟨_, rfl⟩
          have hx0 : (x == 0) = false := by rw [← hx]; simp only [beq_eq_false_iff_ne, ne_eq]; omega
          rw [hx] at hcm
          clear hx h0
          go_wp2_with fail
          go_ret
          exact ⟨⟨_, rfl, hF.out (m + 1) (by omega) hZ.out (.inr hn.out)⟩, rfl⟩
end Go.Proofs.Ytbmocnigmpmfkaa
