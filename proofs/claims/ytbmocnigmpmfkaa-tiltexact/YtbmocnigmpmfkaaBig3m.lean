/- The reference's whole numbers: whole. -/
import Derived.Test.YtbmocnigmpmfkaaBig2m
import Derived.Laws.Bits64b
namespace Go.Proofs.Ytbmocnigmpmfkaa
open Go.RowKit

def wl (xs : List Nat) (j : Nat) : List Nat := (List.range j).map fun t => xs.getD (2 * t) 0 + 4294967296 * xs.getD (2 * t + 1) 0
theorem wl_succ (xs : List Nat) (j : Nat) : wl xs (j + 1) = wl xs j ++ [xs.getD (2 * j) 0 + 4294967296 * xs.getD (2 * j + 1) 0] := by simp [wl, List.range_succ]
theorem wl_len (xs : List Nat) (j : Nat) : (wl xs j).length = j := by simp [wl]
theorem wl_val (xs : List Nat) (j : Nat) : Dig.val 18446744073709551616 (wl xs j) = Dig.val 4294967296 (xs.take (2 * j)) := by
  induction j with
  | zero => rfl
  | succ j ih =>
    rw [wl_succ, Dig.val_snoc, wl_len, ih, show 2 * (j + 1) = 2 * j + 1 + 1 by omega, Dig.val_take_succ, Dig.val_take_succ]
    have e : (4294967296 : Nat) ^ (2 * j) = 18446744073709551616 ^ j := by rw [Nat.pow_mul]
    have e2 : (4294967296 : Nat) ^ (2 * j + 1) = 18446744073709551616 ^ j * 4294967296 := by rw [Nat.pow_succ, e]
    rw [e, e2, Nat.mul_add, Nat.mul_assoc]
    omega
theorem wl_ok (xs : List Nat) (h : Dig.Ok 4294967296 xs) (j : Nat) : Dig.Ok 18446744073709551616 (wl xs j) := by
  induction j with
  | zero => exact Dig.ok_nil (by omega)
  | succ j ih =>
    rw [wl_succ]
    have h1 := h (2 * j)
    have h2 := h (2 * j + 1)
    exact Dig.ok_snoc ih (by omega)
theorem one_new (w : World) (u : Value) (T : TypeId) : ∀ j x, [u][j]? = some x → (w.alloc (.cells #[u] T)).cell? ((⟨w.heap.size, 0, none⟩ : Addr).add j) = some x := by
  intro j x h
  match j, h with
  | 0, h => simp at h; subst h; simp [Addr.add, go_sem]
  | j + 1, h => simp at h

theorem or_halves (a b : Nat) (ha : a < 4294967296) (hb : b < 4294967296) : bits BinOp.or IntKind.u64 (a : Int) ((b : Int) * 4294967296) = ((a + 4294967296 * b : Nat) : Int) := by
  have e : (b : Int) * 4294967296 = ((b * 4294967296 : Nat) : Int) := by omega
  rw [e, bits_or_u64_nat _ _ (by omega) (by omega)]
  have : a ||| b * 4294967296 = a + 4294967296 * b := by
    rw [Nat.or_comm, Nat.mul_comm, show (4294967296 : Nat) = 2 ^ 32 from rfl, ← Nat.two_pow_add_eq_or_of_lt ha]
    omega
  rw [this]

set_option maxHeartbeats 2000000 in
theorem whole_any (xs : List Nat) (v : Value) (w : World) (hr : Row .u32 w v xs) (hok : Dig.Ok 4294967296 xs) (hs : xs.length ≤ 10000) :
    Calls Try.prog 67 #[v] w fun e w' => (∃ v', e = .returned v' ∧ Row .u64 w' v' (Dig.digs 18446744073709551616 (Dig.val 4294967296 xs))) ∧ Ext w w' := by
  have HC : Hid (∀ j v w, xs.length ≤ 2 * j → Row .u64 w v (wl xs j) → Calls Try.prog 50 #[v] w fun e w' => (∃ v', e = .returned v' ∧ Row .u64 w v' (Dig.digs 18446744073709551616 (Dig.val 4294967296 xs))) ∧ w' = w) := by
    intro j v w hj hr
    have h := ntrim_any _ v w hr (wl_ok xs hok j)
    rw [wl_val, List.take_of_length_le hj] at h
    exact h
  generalize Dig.digs 18446744073709551616 (Dig.val 4294967296 xs) = out at *
  obtain ⟨i0, hi, hz0, hz1, hz2⟩ := info_parts Try.info64
  rcases hr with ⟨rfl, rfl⟩ | ⟨b, o, cap, rfl, h1, h2, hcell⟩
  · go_enter Try.func67, Try.ntmps67
    go_wp2_with fail
    refine wp_loop_rounds 1 ?_
    rw [rounds_succ]
    go_wp2_with fail
    refine (HC.out 0 _ _ (by simp) (.inl ⟨rfl, rfl⟩)).mono ?_
    rintro e w1 ⟨⟨v', rfl, hr⟩, rfl⟩
    go_wp2_with fail
    go_ret
    exact ⟨⟨_, rfl, hr⟩, Ext.refl _⟩
  · have hc : Hid _ := hcell
    clear hcell h1 h2
    go_enter Try.func67, Try.ntmps67
    go_wp2_with fail
    go_loopw [3, 4] (fun l i wr => ∃ j t : Nat, t = 2 * j ∧ t ≤ xs.length + 1 ∧ i = .int .i64 (t : Int) ∧ wr.ownsRow w.heap.size 49 1 l j (ints .u64 (wl xs j)) ∧ Ext w wr) (fun _ i _ => xs.length + 1 - (intOf i).toNat)
    case atStart => exact ⟨0, 0, rfl, Nat.zero_le _, rfl, World.ownsRow_nil _ _ _ _, Ext.refl _⟩
    case round =>
      obtain ⟨j, t, ht, hj, rfl, hown, hx⟩ := hrel
      have hB : Hid (w.heap.size ≤ wr.heap.size) := hx.size
      have hT : Hid (ints .u64 (wl xs (j + 1)) = ints .u64 (wl xs j) ++ [.int .u64 ((xs.getD t 0 + 4294967296 * xs.getD (t + 1) 0 : Nat) : Int)]) := by
        show _ = _
        rw [wl_succ, ht]; simp [ints]
      have hH : Hid (t = 2 * j) := ht
      have hj2 : j ≤ 10001 := by omega
      clear ht
      by_cases hlt : t < xs.length
      · have hcx := (hx.lay).1 b (o + t) (cell_lt (hc.out _ hlt))
        rw [hc.out _ hlt] at hcx
        have hx0 := hok t
        have hx1 := hok (t + 1)
        have hlt' : (t : Int) < (xs.length : Int) := by omega
        obtain ⟨X0, g0, g0', g0''⟩ : ∃ X : Int, ((xs.getD t 0 : Nat) : Int) = X ∧ 0 ≤ X ∧ X < 4294967296 := ⟨_, rfl, by omega, by omega⟩
        rw [g0] at hcx
        by_cases hl2 : t + 1 < xs.length
        · have hcy := (hx.lay).1 b (o + (t + 1)) (cell_lt (hc.out _ hl2))
          rw [hc.out _ hl2] at hcy
          have hl2' : (t : Int) + 1 < (xs.length : Int) := by omega
          obtain ⟨X1, g1, g1', g1''⟩ : ∃ X : Int, ((xs.getD (t + 1) 0 : Nat) : Int) = X ∧ 0 ≤ X ∧ X < 4294967296 := ⟨_, rfl, by omega, by omega⟩
          rw [g1] at hcy
          obtain ⟨y, ey, hN⟩ : ∃ y : Int, bits BinOp.or IntKind.u64 X0 (X1 * 4294967296) = y ∧ Hid (ints .u64 (wl xs (j + 1)) = ints .u64 (wl xs j) ++ [.int .u64 y]) := by
            refine ⟨_, rfl, ?_⟩
            show _ = _
            rw [hT.out, ← g0, ← g1, or_halves _ _ hx0 hx1]
          clear hx0 hx1 g0 g1 hT
          go_wp2_with (at_builtin; refine wpList_append_lies _ rfl (.tmp 31) (.tmp 33) 61 rfl w.heap.size 49 i0 (.int .u64 0) 1 8 Try.underlying61 hi hz0 hz1 hz2 rfl (by decide) _ j _ rfl (hown.alloc _) ⟨wr.heap.size, 0, none⟩ 1 1 [.int .u64 y] rfl rfl (one_new wr _ _) (by simp [Value.oneCell']) (by decide) (by unfold maxLen; omega) (by omega) (by simp; exact Nat.le_succ_of_le hB.out) (wr.heap.size + 1) (by simp) ?_; intro g cap' w1 hown' hg' hgb hgl; have R1 : Hid (w1.ownsRow w.heap.size 49 1 (.slice (some ⟨g, 0, none⟩) (j + 1) cap') (j + 1) (ints .u64 (wl xs (j + 1)))) := (by show w1.ownsRow _ _ _ _ _ _; rw [hN.out]; exact hown'); have R2 : Hid (Ext w w1) := ext_grown (a := w) (hx.alloc _) (hown.alloc _) hg'; clear hown' hg' hgb hgl hown)
          go_roundw
          case rel => exact ⟨j + 1, t + 2, by have := hH.out; omega, by omega, by go_num, R1.out, R2.out⟩
          case measure => simp [intOf]; omega
        · have hN : Hid (ints .u64 (wl xs (j + 1)) = ints .u64 (wl xs j) ++ [.int .u64 X0]) := by
            show _ = _
            have e0 : xs.getD (t + 1) 0 = 0 := by rw [List.getD_eq_getElem?_getD, List.getElem?_eq_none (by omega)]; rfl
            rw [hT.out, e0, ← g0]; rfl
          have hl2' : ¬ (t : Int) + 1 < (xs.length : Int) := by omega
          clear hx0 hx1 g0 hT
          go_wp2_with (at_builtin; refine wpList_append_lies _ rfl (.tmp 31) (.tmp 33) 61 rfl w.heap.size 49 i0 (.int .u64 0) 1 8 Try.underlying61 hi hz0 hz1 hz2 rfl (by decide) _ j _ rfl (hown.alloc _) ⟨wr.heap.size, 0, none⟩ 1 1 [.int .u64 X0] rfl rfl (one_new wr _ _) (by simp [Value.oneCell']) (by decide) (by unfold maxLen; omega) (by omega) (by simp; exact Nat.le_succ_of_le hB.out) (wr.heap.size + 1) (by simp) ?_; intro g cap' w1 hown' hg' hgb hgl; have R1 : Hid (w1.ownsRow w.heap.size 49 1 (.slice (some ⟨g, 0, none⟩) (j + 1) cap') (j + 1) (ints .u64 (wl xs (j + 1)))) := (by show w1.ownsRow _ _ _ _ _ _; rw [hN.out]; exact hown'); have R2 : Hid (Ext w w1) := ext_grown (a := w) (hx.alloc _) (hown.alloc _) hg'; clear hown' hg' hgb hgl hown)
          go_roundw
          case rel => exact ⟨j + 1, t + 2, by have := hH.out; omega, by omega, by go_num, R1.out, R2.out⟩
          case measure => simp [intOf]; omega
      · have hrow := row_of_own hown
        clear hown
        have hlt' : ¬ (t : Int) < (xs.length : Int) := by omega
        have hle : xs.length ≤ 2 * j := by have := hH.out; omega
        go_wp2_with fail
        refine (HC.out j _ _ hle hrow).mono ?_
        rintro e w1 ⟨⟨v', rfl, hr⟩, rfl⟩
        go_wp2_with fail
        go_ret
        exact ⟨⟨_, rfl, hr⟩, hx⟩
end Go.Proofs.Ytbmocnigmpmfkaa
