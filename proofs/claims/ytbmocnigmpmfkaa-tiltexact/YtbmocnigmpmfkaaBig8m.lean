/- The reference's whole numbers: Up2. -/
import Derived.Test.YtbmocnigmpmfkaaBig7m
namespace Go.Proofs.Ytbmocnigmpmfkaa
open Go.RowKit

theorem Ext.kept {w w' : World} (h : Ext w w') {b o : Nat} {v : Value} (hc : w.cell? ⟨b, o, none⟩ = some v) : w'.cell? ⟨b, o, none⟩ = some v := by
  rw [(h.lay).1 b o (cell_lt hc)]
  exact hc

theorem shl_limb (x c s : Nat) (hx : x < 18446744073709551616) (hs : s ≤ 63) (hc : c < 2 ^ s) :
    ∃ y : Nat, bits BinOp.or IntKind.u64 (IntKind.u64.wrap ((x : Int) * 2 ^ s)) (c : Int) = (y : Int) ∧ y < 18446744073709551616 ∧ y + 18446744073709551616 * (x / 2 ^ (64 - s)) = x * 2 ^ s + c ∧ x / 2 ^ (64 - s) < 2 ^ s := by
  have hp : 0 < 2 ^ s := Nat.pow_pos (by omega)
  have e64 : 2 ^ (64 - s) * 2 ^ s = 18446744073709551616 := by rw [← Nat.pow_add, show 64 - s + s = 64 by omega]
  have e1 : x * 2 ^ s % 18446744073709551616 = (x % 2 ^ (64 - s)) * 2 ^ s := by rw [← e64, Nat.mul_mod_mul_right]
  have e2 : x * 2 ^ s / 18446744073709551616 = x / 2 ^ (64 - s) := by rw [← e64, Nat.mul_div_mul_right _ _ hp]
  have hm := Nat.mod_add_div (x * 2 ^ s) 18446744073709551616
  have hlt : x * 2 ^ s % 18446744073709551616 < 18446744073709551616 := Nat.mod_lt _ (by omega)
  have hlt2 : (x % 2 ^ (64 - s) + 1) * 2 ^ s ≤ 2 ^ (64 - s) * 2 ^ s := Nat.mul_le_mul_right _ (Nat.mod_lt _ (Nat.pow_pos (by omega)))
  rw [Nat.add_mul, Nat.one_mul, e64, ← e1] at hlt2
  rw [e2] at hm
  refine ⟨x * 2 ^ s % 18446744073709551616 + c, ?_, by omega, by omega, ?_⟩
  · rw [Num.cast_shl, Num.wrapMod, e1]
    exact Num.or_shift _ _ _ hs hc (by rw [← e1]; exact hlt)
  · rw [Nat.div_lt_iff_lt_mul (Nat.pow_pos (by omega)), Nat.mul_comm, e64]
    exact hx

def URel (xs : List Nat) (s k c : Nat) (zs : List Nat) : Prop :=
  zs.length = k ∧ Dig.Ok 18446744073709551616 zs ∧ c < 2 ^ s ∧ Dig.val 18446744073709551616 zs + 18446744073709551616 ^ k * c = Dig.val 18446744073709551616 (xs.take k) * 2 ^ s
theorem URel.start (xs : List Nat) (s : Nat) : URel xs s 0 0 [] := ⟨rfl, Dig.ok_nil (by omega), Nat.pow_pos (by omega), by simp [Dig.val]⟩
theorem URel.step {xs : List Nat} {s k c : Nat} {zs : List Nat} (h : URel xs s k c zs) (y : Nat) (hy : y < 18446744073709551616) (e : y + 18446744073709551616 * (xs.getD k 0 / 2 ^ (64 - s)) = xs.getD k 0 * 2 ^ s + c) (hc : xs.getD k 0 / 2 ^ (64 - s) < 2 ^ s) :
    URel xs s (k + 1) (xs.getD k 0 / 2 ^ (64 - s)) (zs ++ [y]) := by
  obtain ⟨h1, h2, h3, h4⟩ := h
  refine ⟨by simp [h1], Dig.ok_snoc h2 hy, hc, ?_⟩
  rw [Dig.val_snoc, Dig.val_take_succ, h1, Nat.pow_succ, Nat.mul_assoc, Nat.add_mul, ← h4, Nat.mul_assoc (18446744073709551616 ^ k)]
  have := congrArg (fun z => 18446744073709551616 ^ k * z) e
  simp only [Nat.mul_add] at this
  omega
theorem zeros_val (B q : Nat) : Dig.val B (List.replicate q 0) = 0 := by
  induction q with
  | zero => rfl
  | succ q ih => simp [List.replicate_succ, Dig.val, ih]
theorem zeros_ok (B q : Nat) (hB : 0 < B) : Dig.Ok B (List.replicate q 0) := by
  induction q with
  | zero => exact Dig.ok_nil hB
  | succ q ih => exact Dig.ok_cons hB ih
theorem ok_append {B : Nat} {xs ys : List Nat} (h : Dig.Ok B xs) (k : Dig.Ok B ys) : Dig.Ok B (xs ++ ys) := by
  induction xs with
  | nil => exact k
  | cons x xs ih => exact Dig.ok_cons (by simpa using h 0) (ih (Dig.ok_tail h))
theorem URel.done {xs : List Nat} {s k c q : Nat} {zs : List Nat} (h : URel xs s k c zs) (hk : xs.length ≤ k) (hs : s ≤ 63) :
    Dig.Ok 18446744073709551616 (List.replicate q 0 ++ zs ++ [c]) ∧ Dig.val 18446744073709551616 (List.replicate q 0 ++ zs ++ [c]) = Dig.val 18446744073709551616 xs * 2 ^ (64 * q + s) := by
  obtain ⟨h1, h2, h3, h4⟩ := h
  have hc : c < 18446744073709551616 := by
    have := Nat.pow_le_pow_right (n := 2) (by omega) hs
    have e : (2 : Nat) ^ 63 = 9223372036854775808 := by decide
    omega
  refine ⟨Dig.ok_snoc (ok_append (zeros_ok _ q (by omega)) h2) hc, ?_⟩
  rw [List.append_assoc, Dig.val_append, zeros_val, Nat.zero_add, Dig.val_snoc, h1, h4, List.take_of_length_le hk, List.length_replicate, Nat.pow_add, Nat.pow_mul]
  have : (2 : Nat) ^ 64 = 18446744073709551616 := by decide
  rw [this, Nat.mul_left_comm]

theorem made_own (w : World) (q : Nat) (hq : q ≤ 100000) : (w.alloc (.cells (madeCells #[Value.int .u64 0] q) 49)).ownsRow w.heap.size 49 1 (.slice (some ⟨w.heap.size, 0, none⟩) q q) q (ints .u64 (List.replicate q 0)) := by
  refine ⟨by simp [ints], .inr ⟨w.heap.size, q, madeCells #[Value.int .u64 0] q, rfl, Nat.le_refl _, heap_alloc_new w _, Nat.le_refl _, by unfold maxLen; omega, by simp [size_madeCells], ?_⟩⟩
  apply List.ext_getElem?
  intro i
  by_cases hi : i < q
  · simp [ints, madeCells, hi, Nat.mod_one]
  · rw [List.getElem?_eq_none (by simp [size_madeCells]; omega), List.getElem?_eq_none (by simp [ints]; omega)]

set_option maxHeartbeats 4000000 in
theorem up2_any (m n : Nat) (v : Value) (w : World) (h1 : IsN w v m) (s1 : Small m) (hn : n ≤ 10000) :
    Calls Try.prog 36 #[v, .int .i64 (n : Int)] w fun e w' => (∃ v', e = .returned v' ∧ IsN w' v' (m * 2 ^ n)) ∧ Ext w w' := by
  have ok1 := Dig.okd 18446744073709551616 m (by omega)
  have V1 := Dig.vald 18446744073709551616 m (by omega)
  have S1 : (Dig.digs 18446744073709551616 m).length ≤ 1000 := s1.1
  have hz : Dig.digs 18446744073709551616 m = [] → m = 0 := Dig.digs_nil _ _ (by omega)
  obtain ⟨q, s, hq, hs, hs63, hqn, hH⟩ : ∃ q s : Nat, (n : Int) / 64 = (q : Int) ∧ (n : Int) % 64 = (s : Int) ∧ s ≤ 63 ∧ q ≤ 200 ∧ Hid (n = 64 * q + s) := ⟨n / 64, n % 64, by omega, by omega, by omega, by omega, by show _ = _; omega⟩
  have HD : Hid (∀ k c zs, URel (Dig.digs 18446744073709551616 m) s k c zs → (Dig.digs 18446744073709551616 m).length ≤ k → ∀ v w, Row .u64 w v (List.replicate q 0 ++ zs ++ [c]) → Calls Try.prog 50 #[v] w fun e w' => (∃ v', e = .returned v' ∧ IsN w v' (m * 2 ^ n)) ∧ w' = w) := by
    intro k c zs hr hk v w hrow
    obtain ⟨d1, d2⟩ := hr.done (q := q) hk hs63
    have h := ntrim_any _ v w hrow d1
    rw [d2, V1, ← hH.out] at h
    exact h
  unfold IsN at h1
  clear s1 V1
  obtain ⟨i0, hi, hz0, hz1, hz2⟩ := info_parts Try.info64
  have hmk := run_make_row' (P := Try.prog) 61 49 (.int .u64 0) 8 Try.underlying61 Try.info64 rfl .i64 .i64 q (by omega) (by omega)
  generalize Dig.digs 18446744073709551616 m = xs at *
  obtain ⟨ax, cx, rfl, gx⟩ := h1.shape
  by_cases h0 : xs.length = 0
  · have hm0 : m = 0 := hz (List.eq_nil_of_length_eq_zero h0)
    subst hm0
    have e0 : ((xs.length : Int) == 0) = true := by rw [beq_iff_eq]; omega
    clear gx hmk hz
    go_enter Try.func36, Try.ntmps36
    go_wp2_with fail
    go_ret
    refine ⟨⟨_, rfl, .inl ⟨rfl, ?_⟩⟩, Ext.refl _⟩
    rw [Nat.zero_mul]; rfl
  · obtain ⟨b, o, rfl, hcell⟩ := gx (by omega)
    have hc : Hid _ := hcell
    have e0 : ((xs.length : Int) == 0) = false := beq_eq_false_iff_ne.2 (by omega)
    clear gx hcell hz h1
    go_enter Try.func36, Try.ntmps36
    go_wp2_with fail
    clear hmk hq hs e0
    go_loopw [5, 7, 8] (fun l c i wr => ∃ (k C : Nat) (zs : List Nat), k ≤ xs.length ∧ i = .int .i64 (k : Int) ∧ c = .int .u64 (C : Int) ∧ URel xs s k C zs ∧ wr.ownsRow w.heap.size 49 1 l (q + k) (ints .u64 (List.replicate q 0 ++ zs)) ∧ Ext w wr) (fun _ _ i _ => xs.length - (intOf i).toNat)
    case atStart => exact ⟨0, 0, [], by omega, rfl, rfl, URel.start _ _, by rw [List.append_nil]; exact made_own w q (by omega), (Ext.refl _).alloc _⟩
    case round =>
      obtain ⟨k, C, zs, hk, rfl, rfl, hU, hown, hx⟩ := hrel
      have hB : Hid (w.heap.size ≤ wr.heap.size) := hx.size
      by_cases hlt : k < xs.length
      · have hcx := (hx.lay).1 b (o + k) (cell_lt (hc.out k hlt))
        rw [hc.out k hlt] at hcx
        have hxk := ok1 k
        have hlt' : (k : Int) < (xs.length : Int) := by omega
        obtain ⟨y, y1, y2, y3, y4⟩ := shl_limb (xs.getD k 0) C s hxk hs63 hU.2.2.1
        have HS : Hid _ := hU.step y y2 y3 y4
        obtain ⟨yy, gy⟩ : ∃ yy : Int, (y : Int) = yy := ⟨_, rfl⟩
        obtain ⟨X, gX, gX', gX''⟩ : ∃ X : Int, ((xs.getD k 0 : Nat) : Int) = X ∧ 0 ≤ X ∧ X < 18446744073709551616 := ⟨_, rfl, by omega, by omega⟩
        obtain ⟨D, fD, fD2⟩ : ∃ D : Int, X / 2 ^ (64 - s) = D ∧ Hid (((xs.getD k 0 / 2 ^ (64 - s) : Nat) : Int) = D) := ⟨_, rfl, by show _ = _; rw [← gX, Num.cast_shr]⟩
        have hN : Hid (ints .u64 (List.replicate q 0 ++ (zs ++ [y])) = ints .u64 (List.replicate q 0 ++ zs) ++ [.int .u64 yy]) := by
          show _ = _
          rw [← gy]; simp [ints]
        rw [gX] at hcx y1
        rw [gy] at y1
        obtain ⟨c0, gc⟩ : ∃ c : Int, (C : Int) = c := ⟨_, rfl⟩
        rw [gc] at y1 ⊢
        by_cases hs0 : 0 < s
        · have hs0' : (0 : Int) < (s : Int) := by omega
          have HCX : Hid (w.cell? ⟨b, o + k, none⟩ = some (.int .u64 X)) := by show _ = _; rw [hc.out k hlt, gX]
          clear gX gy gc hU hxk y2 y3 y4
          go_wp2_with (at_builtin; refine wpList_append_lies _ rfl (.tmp 24) (.tmp 33) 61 rfl w.heap.size 49 i0 (.int .u64 0) 1 8 Try.underlying61 hi hz0 hz1 hz2 rfl (by decide) _ (q + k) _ rfl (hown.alloc _) ⟨wr.heap.size, 0, none⟩ 1 1 [.int .u64 yy] rfl rfl (one_new wr _ _) (by simp [Value.oneCell']) (by decide) (by unfold maxLen; omega) (by omega) (by simp; exact Nat.le_succ_of_le hB.out) (wr.heap.size + 1) (by simp) ?_; intro g cap' wz hown' hg' hgb hgl; have R1 : Hid (wz.ownsRow w.heap.size 49 1 (.slice (some ⟨g, 0, none⟩) (q + k + 1) cap') (q + (k + 1)) (ints .u64 (List.replicate q 0 ++ (zs ++ [y])))) := (by show wz.ownsRow _ _ _ _ _ _; rw [hN.out]; exact hown'); have R2 : Hid (Ext w wz) := ext_grown (a := w) (hx.alloc _) (hown.alloc _) hg'; have hcz := R2.out.kept HCX.out; clear hown' hg' hgb hgl hown)
          go_roundw
          case rel => exact ⟨k + 1, _, _, by omega, by go_num, congrArg (Value.int .u64) fD2.out.symm, HS.out, R1.out, R2.out⟩
          case measure => simp [intOf]; omega
        · have hs0' : ¬ (0 : Int) < (s : Int) := by omega
          have HZ : Hid (((xs.getD k 0 / 2 ^ (64 - s) : Nat) : Int) = 0) := by
            obtain rfl : s = 0 := by omega
            show _ = _
            have : xs.getD k 0 / 2 ^ (64 - 0) < 2 ^ 0 := y4
            simp only [Nat.pow_zero] at this
            omega
          clear gX gy gc hU hxk y2 y3 y4 fD fD2
          go_wp2_with (at_builtin; refine wpList_append_lies _ rfl (.tmp 24) (.tmp 33) 61 rfl w.heap.size 49 i0 (.int .u64 0) 1 8 Try.underlying61 hi hz0 hz1 hz2 rfl (by decide) _ (q + k) _ rfl (hown.alloc _) ⟨wr.heap.size, 0, none⟩ 1 1 [.int .u64 yy] rfl rfl (one_new wr _ _) (by simp [Value.oneCell']) (by decide) (by unfold maxLen; omega) (by omega) (by simp; exact Nat.le_succ_of_le hB.out) (wr.heap.size + 1) (by simp) ?_; intro g cap' wz hown' hg' hgb hgl; have R1 : Hid (wz.ownsRow w.heap.size 49 1 (.slice (some ⟨g, 0, none⟩) (q + k + 1) cap') (q + (k + 1)) (ints .u64 (List.replicate q 0 ++ (zs ++ [y])))) := (by show wz.ownsRow _ _ _ _ _ _; rw [hN.out]; exact hown'); have R2 : Hid (Ext w wz) := ext_grown (a := w) (hx.alloc _) (hown.alloc _) hg'; clear hown' hg' hgb hgl hown)
          go_roundw
          case rel => exact ⟨k + 1, _, _, by omega, by go_num, congrArg (Value.int .u64) HZ.out.symm, HS.out, R1.out, R2.out⟩
          case measure => simp [intOf]; omega
      · have hlt' : ¬ (k : Int) < (xs.length : Int) := by omega
        obtain ⟨c0, gc⟩ : ∃ c : Int, (C : Int) = c := ⟨_, rfl⟩
        have HT : Hid _ := HD.out k C zs hU (by omega)
        have hN : Hid (ints .u64 (List.replicate q 0 ++ zs ++ [C]) = ints .u64 (List.replicate q 0 ++ zs) ++ [.int .u64 c0]) := by
          show _ = _
          rw [← gc]; simp [ints]
        rw [gc]
        clear gc hU
        go_wp2_with (at_builtin; refine wpList_append_lies _ rfl (.tmp 44) (.tmp 46) 61 rfl w.heap.size 49 i0 (.int .u64 0) 1 8 Try.underlying61 hi hz0 hz1 hz2 rfl (by decide) _ (q + k) _ rfl (hown.alloc _) ⟨wr.heap.size, 0, none⟩ 1 1 [.int .u64 c0] rfl rfl (one_new wr _ _) (by simp [Value.oneCell']) (by decide) (by unfold maxLen; omega) (by omega) (by simp; exact Nat.le_succ_of_le hB.out) (wr.heap.size + 1) (by simp) ?_; intro g cap' wz hown' hg' hgb hgl; have R1 : Hid (wz.ownsRow w.heap.size 49 1 (.slice (some ⟨g, 0, none⟩) (q + k + 1) cap') (q + (k + 1)) (ints .u64 (List.replicate q 0 ++ zs ++ [C]))) := (by show wz.ownsRow _ _ _ _ _ _; rw [hN.out]; exact hown'); have R2 : Hid (Ext w wz) := ext_grown (a := w) (hx.alloc _) (hown.alloc _) hg'; clear hown' hg' hgb hgl hown)
        have hrow := row_of_own R1.out
        refine (HT.out _ _ hrow).mono ?_
        rintro e w4 ⟨⟨v3, rfl, hr3⟩, rfl⟩
        clear hrow
        go_wp2_with fail
        go_ret
        exact ⟨⟨_, rfl, hr3⟩, R2.out⟩
end Go.Proofs.Ytbmocnigmpmfkaa
