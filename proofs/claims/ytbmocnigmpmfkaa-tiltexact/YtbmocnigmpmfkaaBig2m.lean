/- The reference's whole numbers: NOf, halves. -/
import Derived.Test.YtbmocnigmpmfkaaBig1m
import Derived.Deep.AppendLies
import Derived.Deep.RegionLaw
namespace Go.Proofs.Ytbmocnigmpmfkaa
open Go.RowKit

theorem Try.info32 : (Try.prog.info? 104).map (fun i => (i.zero, i.size, i.bytes)) = some (some (.int .u32 0), 1, 4) := by kernel_rfl
theorem Try.info64 : (Try.prog.info? 49).map (fun i => (i.zero, i.size, i.bytes)) = some (some (.int .u64 0), 1, 8) := by kernel_rfl

def ints (k : IntKind) (xs : List Nat) : List Value := xs.map fun x : Nat => Value.int k (x : Int)

theorem row_of_own {k : IntKind} {w : World} {base : Nat} {e : TypeId} {v : Value} {n : Nat} {xs : List Nat} (h : w.ownsRow base e 1 v n (ints k xs)) : Row k w v xs := by
  have hlen : xs.length = n := by have := h.1; unfold ints at this; simpa using this
  rcases h.2 with ⟨hv, h0⟩ | ⟨g, cap, cur, hv, hb, hg, hn, hm, hs, ht⟩
  · exact .inl ⟨hv, List.eq_nil_of_length_eq_zero (by omega)⟩
  · refine .inr ⟨g, 0, cap, by rw [hlen]; exact hv, by omega, hm, ?_⟩
    intro i hi
    have hc := h.cells (g := g) (by rw [hv]; rfl) i (.int k (xs.getD i 0 : Nat)) (by
      unfold ints
      rw [List.getElem?_map, List.getElem?_eq_getElem hi, List.getD_eq_getElem?_getD, List.getElem?_eq_getElem hi]
      rfl)
    have e : (⟨g, 0, none⟩ : Addr).add i = ⟨g, 0 + i, none⟩ := by
      unfold Addr.add; split
      · subst_vars; rfl
      · rfl
    rw [e] at hc
    exact hc

theorem two_new (w : World) (u v : Value) (T : TypeId) : ∀ j x, [u, v][j]? = some x → ((w.alloc (.cells #[u, v] T)).drew).cell? ((⟨w.heap.size, 0, none⟩ : Addr).add j) = some x := by
  intro j x h
  match j, h with
  | 0, h => simp at h; subst h; simp [Addr.add, go_sem]
  | 1, h => simp at h; subst h; simp [Addr.add, go_sem]
  | j + 2, h => simp at h

theorem ext_grown {a w w' : World} {v : Value} {e : TypeId} {n : Nat} {xs : List Value} (h : Ext a w) (ho : w.ownsRow a.heap.size e 1 v n xs) (hg : w.grownBy w' v.ownBlock) : Ext a w' :=
  Below.grown h hg h.size (fun k hk => (ho.lt k hk).1)

def w64 : Nat := 18446744073709551616
def w32 : Nat := 4294967296

set_option maxHeartbeats 400000 in
theorem nof_any (n : Nat) (hn : n < 18446744073709551616) (w : World) :
    Calls Try.prog 37 #[.int .u64 (n : Int)] w fun e w' => (∃ v', e = .returned v' ∧ Row .u64 w' v' (Dig.digs 18446744073709551616 n)) ∧ Ext w w' := by
  have HT : Hid (∀ v w, Row .u64 w v [n] → Calls Try.prog 50 #[v] w fun e w' => (∃ v', e = .returned v' ∧ Row .u64 w v' (Dig.digs 18446744073709551616 n)) ∧ w' = w) := by
    intro v w hr
    have h := ntrim_any [n] v w hr (Dig.ok_cons hn (Dig.ok_nil (by omega)))
    have e : Dig.val 18446744073709551616 [n] = n := by simp [Dig.val]
    rw [e] at h
    exact h
  go_enter Try.func37, Try.ntmps37
  go_wp2_with fail
  refine (HT.out _ _ ?_).mono ?_
  · refine .inr ⟨w.heap.size, 0, 1, rfl, by simp, by decide, ?_⟩
    intro i hi
    obtain rfl : i = 0 := by simpa using hi
    simp [go_sem]
  · rintro e w1 ⟨⟨v', rfl, hr⟩, rfl⟩
    go_wp2_with fail
    go_ret
    exact ⟨⟨_, rfl, hr⟩, (Ext.refl _).alloc _⟩

/-- the halves of the first limbs -/
def hv (xs : List Nat) : List Nat := xs.flatMap fun x => [x % 4294967296, x / 4294967296]
theorem hv_snoc (xs : List Nat) (x : Nat) : hv (xs ++ [x]) = hv xs ++ [x % 4294967296, x / 4294967296] := by simp [hv]
theorem hv_take (xs : List Nat) (k : Nat) (h : k < xs.length) : hv (xs.take (k + 1)) = hv (xs.take k) ++ [xs.getD k 0 % 4294967296, xs.getD k 0 / 4294967296] := by
  rw [List.take_succ_eq_append_getElem h, hv_snoc, List.getD_eq_getElem?_getD, List.getElem?_eq_getElem h]
  rfl
theorem hv_length (xs : List Nat) : (hv xs).length = 2 * xs.length := by
  induction xs with
  | nil => rfl
  | cons x xs ih => simp only [hv, List.flatMap_cons, List.length_append, List.length_cons, List.length_nil] at *; omega
theorem hv_val (xs : List Nat) : Dig.val 4294967296 (hv xs) = Dig.val 18446744073709551616 xs := by
  induction xs with
  | nil => rfl
  | cons x xs ih =>
    have e : hv (x :: xs) = x % 4294967296 :: x / 4294967296 :: hv xs := by simp [hv]
    rw [e]
    simp only [Dig.val]
    rw [ih]
    omega
theorem hv_ok (xs : List Nat) (h : Dig.Ok 18446744073709551616 xs) : Dig.Ok 4294967296 (hv xs) := by
  induction xs with
  | nil => exact Dig.ok_nil (by omega)
  | cons x xs ih =>
    have e : hv (x :: xs) = x % 4294967296 :: x / 4294967296 :: hv xs := by simp [hv]
    rw [e]
    have hx : x < 18446744073709551616 := by simpa using h 0
    exact Dig.ok_cons (by omega) (Dig.ok_cons (by omega) (ih (Dig.ok_tail h)))

set_option maxHeartbeats 2000000 in
theorem halves_any (n : Nat) (v : Value) (w : World) (hr : Row .u64 w v (Dig.digs 18446744073709551616 n)) (hs : (Dig.digs 18446744073709551616 n).length ≤ 1000) :
    Calls Try.prog 65 #[v] w fun e w' => (∃ v', e = .returned v' ∧ Row .u32 w' v' (Dig.digs 4294967296 n)) ∧ Ext w w' := by
  have hok := Dig.okd 18446744073709551616 n (by omega)
  have hvn := Dig.vald 18446744073709551616 n (by omega)
  have HC : Hid (∀ v w, Row .u32 w v (hv (Dig.digs 18446744073709551616 n)) → Calls Try.prog 70 #[v] w fun e w' => (∃ v', e = .returned v' ∧ Row .u32 w v' (Dig.digs 4294967296 n)) ∧ w' = w) := by
    intro v w hr
    have h := cut_any _ v w hr (hv_ok _ hok)
    rw [hv_val, hvn] at h
    exact h
  clear hvn
  generalize Dig.digs 18446744073709551616 n = xs at *
  obtain ⟨i0, hi, hz0, hz1, hz2⟩ := info_parts Try.info32
  rcases hr with ⟨rfl, rfl⟩ | ⟨b, o, cap, rfl, h1, h2, hcell⟩
  · go_enter Try.func65, Try.ntmps65
    go_wp2_with fail
    refine wp_loop_rounds 1 ?_
    rw [rounds_succ]
    go_wp2_with fail
    refine (HC.out _ _ (.inl ⟨rfl, rfl⟩)).mono ?_
    rintro e w1 ⟨⟨v', rfl, hr⟩, rfl⟩
    go_wp2_with fail
    go_ret
    exact ⟨⟨_, rfl, hr⟩, Ext.refl _⟩
  · have hc : Hid _ := hcell
    clear hcell h1 h2
    go_enter Try.func65, Try.ntmps65
    go_wp2_with fail
    go_loopw [3, 4] (fun l i wr => ∃ k : Nat, k ≤ xs.length ∧ i = .int .i64 k ∧ wr.ownsRow w.heap.size 104 1 l (2 * k) (ints .u32 (hv (xs.take k))) ∧ Ext w wr) (fun _ i _ => xs.length - (intOf i).toNat)
    case atStart => exact ⟨0, Nat.zero_le _, rfl, World.ownsRow_nil _ _ _ _, Ext.refl _⟩
    case round =>
      obtain ⟨k, hk, rfl, hown, hx⟩ := hrel
      by_cases hlt : k < xs.length
      · have hcx := (hx.lay).1 b (o + k) (cell_lt (hc.out k hlt))
        rw [hc.out k hlt] at hcx
        have hxk := hok k
        have hT : Hid (hv (xs.take (k + 1)) = hv (xs.take k) ++ [xs.getD k 0 % 4294967296, xs.getD k 0 / 4294967296]) := hv_take xs k hlt
        obtain ⟨x, hx64⟩ : ∃ x : Nat, xs.getD k 0 = x := ⟨_, rfl⟩
        rw [hx64] at hcx hxk hT
        clear hx64
        have hlt' : (k : Int) < (xs.length : Int) := by omega
        obtain ⟨y0, e0, f0⟩ : ∃ y : Int, IntKind.u32.wrap (x : Int) = y ∧ Hid (y = ((x % 4294967296 : Nat) : Int)) := ⟨_, rfl, by show _ = _; rw [IntKind.wrap_u32]; omega⟩
        obtain ⟨y1, e1, f1⟩ : ∃ y : Int, IntKind.u32.wrap ((x : Int) / 4294967296) = y ∧ Hid (y = ((x / 4294967296 : Nat) : Int)) := ⟨_, rfl, by show _ = _; rw [IntKind.wrap_u32]; omega⟩
        have hB : Hid (w.heap.size ≤ wr.heap.size) := hx.size
        have hN : Hid (ints .u32 (hv (xs.take (k + 1))) = ints .u32 (hv (xs.take k)) ++ [.int .u32 y0, .int .u32 y1]) := by
          show _ = _
          rw [hT.out, f0.out, f1.out]; simp [ints]
        clear f0 f1 hT
        generalize ints .u32 (hv (xs.take k)) = old at *
        go_wp2_with fail
        go_region_law (refine step_append_lies _ rfl (.tmp 11) (.tmp 23) 102 rfl w.heap.size 104 i0 (.int .u32 0) 1 4 Try.underlying102 hi hz0 hz1 hz2 rfl (by decide) _ (2 * k) old rfl (by exact hown.alloc _) ⟨wr.heap.size, 0, none⟩ 2 2 [.int .u32 y0, .int .u32 y1] rfl rfl (by exact two_new wr _ _ _) (by simp [Value.oneCell']) (by decide) (by unfold maxLen; omega) (by omega) (by simp; exact Nat.le_succ_of_le hB.out) (wr.heap.size + 1) (by simp) ?_; intro g cap' w1 hown' hg' hgb hgl)
        all_goals
          have R1 : Hid (w1.ownsRow w.heap.size 104 1 (.slice (some ⟨g, 0, none⟩) (2 * k + 2) cap') (2 * (k + 1)) (ints .u32 (hv (xs.take (k + 1))))) := by
            have e : 2 * (k + 1) = 2 * k + 2 := by omega
            show w1.ownsRow _ _ _ _ _ _
            rw [e, hN.out]
            exact hown'
          have R2 : Hid (Ext w w1) := ext_grown (a := w) ((hx.alloc _).drew) (hown.alloc _) hg'
          clear hown' hg' hgb hgl hown
          go_wp2_with fail
          go_roundw
          case rel => exact ⟨k + 1, by omega, by go_num, R1.out, R2.out⟩
          case measure => simp [intOf]; omega
      · obtain rfl : k = xs.length := by omega
        rw [List.take_of_length_le (Nat.le_refl _)] at hown
        have hrow := row_of_own hown
        clear hown
        go_wp2_with fail
        refine (HC.out _ _ hrow).mono ?_
        rintro e w1 ⟨⟨v', rfl, hr⟩, rfl⟩
        go_wp2_with fail
        go_ret
        exact ⟨⟨_, rfl, hr⟩, hx⟩
end Go.Proofs.Ytbmocnigmpmfkaa
