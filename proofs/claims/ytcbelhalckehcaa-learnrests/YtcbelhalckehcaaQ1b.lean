/- cmp.Or. -/
import Derived.Test.YtcbelhalckehcaaQ0
import Derived.Test.YtcbelhalckehcaaLeaf
namespace Go.Proofs.Ytcbelhalckehcaa
open Go.RowKit Go.Shelf

set_option maxRecDepth 20000 in
set_option maxHeartbeats 2000000 in
theorem cmpOr_any (n B : Nat) (E : Nat → Int) (w : World) (hn : n ≤ 4) (HB : Hid (∀ i, i < n → w.cell? ⟨B, i, none⟩ = some (.int .i64 (E i)) ∧ B < w.heap.size)) :
    Calls Try.prog 35 #[.slice (some ⟨B, 0, none⟩) n n] w fun e w' => (∃ r : Int, e = .returned (.int .i64 r) ∧ ((∃ k, k < n ∧ (∀ i, i < k → E i = 0) ∧ E k ≠ 0 ∧ r = E k) ∨ ((∀ i, i < n → E i = 0) ∧ r = 0))) ∧ Ext w w' := by
  go_enter Try.func35, Try.ntmps35
  go_wp2_with fail
  go_loopw [8] (fun i wr => ∃ k : Nat, k ≤ n ∧ i = .int .i64 (k : Int) ∧ Hid (∀ i, i < k → E i = 0) ∧ Ext w wr) (fun i _ => n - (intOf i).toNat)
  case atStart => exact ⟨0, by omega, rfl, fun i hi => by omega, Ext.refl _⟩
  case round =>
    obtain ⟨k, hk, rfl, hE, hx⟩ := hrel
    by_cases hlt : k < n
    · have kx : (k : Int) < (n : Int) := by omega
      obtain ⟨hcy, hay⟩ := HB.out k hlt
      have hcy := ((hx.lay).1 B k hay).trans hcy
      by_cases h0 : E k = 0
      · have H1 : Hid (∀ i, i < k + 1 → E i = 0) := fun i hi => by
          rcases Nat.lt_or_ge i k with h | h
          · exact hE.out i h
          · obtain rfl : i = k := by omega
            exact h0
        rw [h0] at hcy
        clear hE HB
        go_wp2_with fail
        go_roundw
        case rel => exact ⟨k + 1, by omega, by go_num, H1, hx⟩
        case measure => simp [intOf]; omega
      · have h1 : (E k != 0) = true := by simp [h0]
        have H1 : Hid (∃ k, k < n ∧ (∀ i, i < k → E i = 0) ∧ E k ≠ 0 ∧ E k = E k) := ⟨k, hlt, hE.out, h0, rfl⟩
        have H2 : Hid (∃ j, j < n ∧ (∀ i, i < j → E i = 0) ∧ E j ≠ 0 ∧ E k = E j) := ⟨k, hlt, hE.out, h0, rfl⟩
        clear hE HB H1
        generalize E k = x at *
        go_wp2_with fail
        go_ret
        exact ⟨⟨x, rfl, Or.inl H2.out⟩, hx⟩
    · have hkn : k = n := by omega
      subst hkn
      have H2 : Hid (∀ i, i < k → E i = 0) := hE
      clear HB hE
      go_wp2_with fail
      go_ret
      exact ⟨⟨0, rfl, Or.inr ⟨H2.out, rfl⟩⟩, hx⟩

theorem cmpOr4 (a b c d r : Int) (g : Nat) (w : World) (h : H4 w g (.int .i64 a) (.int .i64 b) (.int .i64 c) (.int .i64 d)) (hr : r = if a ≠ 0 then a else if b ≠ 0 then b else if c ≠ 0 then c else d) :
    Calls Try.prog 35 #[.slice (some ⟨g, 0, none⟩) 4 4] w fun e w' => e = .returned (.int .i64 r) ∧ Ext w w' := by
  obtain ⟨c0, c1, c2, c3, f0, f1, f2, f3, hb⟩ := h
  refine (cmpOr_any 4 g (fun i => if i = 0 then a else if i = 1 then b else if i = 2 then c else d) w (by omega) (fun i hi => ?_)).mono ?_
  · obtain rfl | rfl | rfl | rfl : i = 0 ∨ i = 1 ∨ i = 2 ∨ i = 3 := by omega
    · exact ⟨c0, hb⟩
    · exact ⟨c1, hb⟩
    · exact ⟨c2, hb⟩
    · exact ⟨c3, hb⟩
  · rintro e w1 ⟨⟨s, rfl, hs⟩, x1⟩
    refine ⟨?_, x1⟩
    have : s = r := by
      rcases hs with ⟨k, hk, h1, h2, rfl⟩ | ⟨h1, rfl⟩
      · obtain rfl | rfl | rfl | rfl : k = 0 ∨ k = 1 ∨ k = 2 ∨ k = 3 := by omega
        · have g0 : a ≠ 0 := h2
          rw [hr]; simp_all
        · have g0 : a = 0 := h1 0 (by omega)
          have g1 : b ≠ 0 := h2
          rw [hr]; simp_all
        · have g0 : a = 0 := h1 0 (by omega)
          have g1 : b = 0 := h1 1 (by omega)
          have g2 : c ≠ 0 := h2
          rw [hr]; simp_all
        · have g0 : a = 0 := h1 0 (by omega)
          have g1 : b = 0 := h1 1 (by omega)
          have g2 : c = 0 := h1 2 (by omega)
          rw [hr]; simp_all
      · have g0 : a = 0 := h1 0 (by omega)
        have g1 : b = 0 := h1 1 (by omega)
        have g2 : c = 0 := h1 2 (by omega)
        have g3 : d = 0 := h1 3 (by omega)
        rw [hr]; simp_all
    rw [this]

theorem cmpOr2 (a b r : Int) (g : Nat) (w : World) (h : H2 w g (.int .i64 a) (.int .i64 b)) (hr : r = if a ≠ 0 then a else b) :
    Calls Try.prog 35 #[.slice (some ⟨g, 0, none⟩) 2 2] w fun e w' => e = .returned (.int .i64 r) ∧ Ext w w' := by
  obtain ⟨c0, c1, f0, f1, hb⟩ := h
  refine (cmpOr_any 2 g (fun i => if i = 0 then a else b) w (by omega) (fun i hi => ?_)).mono ?_
  · obtain rfl | rfl : i = 0 ∨ i = 1 := by omega
    · exact ⟨c0, hb⟩
    · exact ⟨c1, hb⟩
  · rintro e w1 ⟨⟨s, rfl, hs⟩, x1⟩
    refine ⟨?_, x1⟩
    have : s = r := by
      rcases hs with ⟨k, hk, h1, h2, rfl⟩ | ⟨h1, rfl⟩
      · obtain rfl | rfl : k = 0 ∨ k = 1 := by omega
        · have g0 : a ≠ 0 := h2
          rw [hr]; simp_all
        · have g0 : a = 0 := h1 0 (by omega)
          rw [hr]; simp_all
      · have g0 : a = 0 := h1 0 (by omega)
        have g3 : b = 0 := h1 1 (by omega)
        rw [hr]; simp_all
    rw [this]

end Go.Proofs.Ytcbelhalckehcaa
