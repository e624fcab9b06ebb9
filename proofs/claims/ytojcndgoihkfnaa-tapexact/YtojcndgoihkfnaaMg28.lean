/- The reference's whole numbers: Up2. Plain numbers: lengths in bits, shifts down, long division. The reference's whole numbers: NLen, Down2. -/
import Derived.Test.YtojcndgoihkfnaaBig7m
import Derived.Test.YtojcndgoihkfnaaMg23
namespace Go.Proofs.Ytojcndgoihkfnaa
open Go.RowKit

theorem Ext.kept {w w' : World} (h : Ext w w') {b o : Nat} {v : Value} (hc : w.cell? ⟨b, o, none⟩ = some v) : w'.cell? ⟨b, o, none⟩ = some v := by
  rw [(h.lay).1 b o (cell_lt hc)]
  exact hc

theorem shl_limb (x c s : Nat) (hx : x < 18446744073709551616) (hs : s ≤ 63) (hc : c < 2 ^ s) :
    ∃ y : Nat, bits BinOp.or IntKind.u64 (IntKind.u64.wrap ((x : Int) * 2 ^ s)) (c : Int) = (y : Int) ∧ y < 18446744073709551616 ∧ y + 18446744073709551616 * (x / 2 ^ (64 - s)) = x * 2 ^ s + c ∧ x / 2 ^ (64 - s) < 2 ^ s := by
  have hp : 0 < 2 ^ s := Nat.pow_pos (by omega)
  have e64 : 2 ^ (64 - s) * 2 ^ s = 18446744073709551616 := by rw [← Nat.pow_add, show 64 - s + s = 64 by omega]
  have e1 : x * 2 ^ s % 18446744073709551616 = (x % 2 ^ (64 - s)) * 2 ^ s := by rw [← e64, Nat.mul_mod_mul_right]
  have e2 : x * 2 ^ s / 18446744073709551616 = x / 2 ^ (64 - s) := by rw [← e64, Nat.mul_div_mul_right _ _ hp]
  have hm := Nat.mod_add_div (x * 2 ^ s) 18446744073709551616
  have hlt : x * 2 ^ s % 18446744073709551616 < 18446744073709551616 := Nat.mod_lt _ (by omega)
  have hlt2 : (x % 2 ^ (64 - s) + 1) * 2 ^ s ≤ 2 ^ (64 - s) * 2 ^ s := Nat.mul_le_mul_right _ (Nat.mod_lt _ (Nat.pow_pos (by omega)))
  rw [Nat.add_mul, Nat.one_mul, e64, ← e1] at hlt2
  rw [e2] at hm
  refine ⟨x * 2 ^ s % 18446744073709551616 + c, ?_, by omega, by omega, ?_⟩
  · rw [Num.cast_shl, Num.wrapMod, e1]
    exact Num.or_shift _ _ _ hs hc (by rw [← e1]; exact hlt)
  · rw [Nat.div_lt_iff_lt_mul (Nat.pow_pos (by omega)), Nat.mul_comm, e64]
    exact hx

def URel (xs : List Nat) (s k c : Nat) (zs : List Nat) : Prop :=
  zs.length = k ∧ Dig.Ok 18446744073709551616 zs ∧ c < 2 ^ s ∧ Dig.val 18446744073709551616 zs + 18446744073709551616 ^ k * c = Dig.val 18446744073709551616 (xs.take k) * 2 ^ s
theorem URel.start (xs : List Nat) (s : Nat) : URel xs s 0 0 [] := ⟨rfl, Dig.ok_nil (by omega), Nat.pow_pos (by omega), by simp [Dig.val]⟩
theorem URel.step {xs : List Nat} {s k c : Nat} {zs : List Nat} (h : URel xs s k c zs) (y : Nat) (hy : y < 18446744073709551616) (e : y + 18446744073709551616 * (xs.getD k 0 / 2 ^ (64 - s)) = xs.getD k 0 * 2 ^ s + c) (hc : xs.getD k 0 / 2 ^ (64 - s) < 2 ^ s) :
    URel xs s (k + 1) (xs.getD k 0 / 2 ^ (64 - s)) (zs ++ [y]) := by
  obtain ⟨h1, h2, h3, h4⟩ := h
  refine ⟨by simp [h1], Dig.ok_snoc h2 hy, hc, ?_⟩
  rw [Dig.val_snoc, Dig.val_take_succ, h1, Nat.pow_succ, Nat.mul_assoc, Nat.add_mul, ← h4, Nat.mul_assoc (18446744073709551616 ^ k)]
  have := congrArg (fun z => 18446744073709551616 ^ k * z) e
  simp only [Nat.mul_add] at this
  omega
theorem zeros_val (B q : Nat) : Dig.val B (List.replicate q 0) = 0 := by
  induction q with
  | zero => rfl
  | succ q ih => simp [List.replicate_succ, Dig.val, ih]
theorem zeros_ok (B q : Nat) (hB : 0 < B) : Dig.Ok B (List.replicate q 0) := by
  induction q with
  | zero => exact Dig.ok_nil hB
  | succ q ih => exact Dig.ok_cons hB ih
theorem ok_append {B : Nat} {xs ys : List Nat} (h : Dig.Ok B xs) (k : Dig.Ok B ys) : Dig.Ok B (xs ++ ys) := by
  induction xs with
  | nil => exact k
  | cons x xs ih => exact Dig.ok_cons (by simpa using h 0) (ih (Dig.ok_tail h))
theorem URel.done {xs : List Nat} {s k c q : Nat} {zs : List Nat} (h : URel xs s k c zs) (hk : xs.length ≤ k) (hs : s ≤ 63) :
    Dig.Ok 18446744073709551616 (List.replicate q 0 ++ zs ++ [c]) ∧ Dig.val 18446744073709551616 (List.replicate q 0 ++ zs ++ [c]) = Dig.val 18446744073709551616 xs * 2 ^ (64 * q + s) := by
  obtain ⟨h1, h2, h3, h4⟩ := h
  have hc : c < 18446744073709551616 := by
    have := Nat.pow_le_pow_right (n := 2) (by omega) hs
    have e : (2 : Nat) ^ 63 = 9223372036854775808 := by decide
    omega
  refine ⟨Dig.ok_snoc (ok_append (zeros_ok _ q (by omega)) h2) hc, ?_⟩
  rw [List.append_assoc, Dig.val_append, zeros_val, Nat.zero_add, Dig.val_snoc, h1, h4, List.take_of_length_le hk, List.length_replicate, Nat.pow_add, Nat.pow_mul]
  have : (2 : Nat) ^ 64 = 18446744073709551616 := by decide
  rw [this, Nat.mul_left_comm]

theorem made_own (w : World) (q : Nat) (hq : q ≤ 100000) : (w.alloc (.cells (madeCells #[Value.int .u64 0] q) 59)).ownsRow w.heap.size 59 1 (.slice (some ⟨w.heap.size, 0, none⟩) q q) q (ints .u64 (List.replicate q 0)) := by
  refine ⟨by simp [ints], .inr ⟨w.heap.size, q, madeCells #[Value.int .u64 0] q, rfl, Nat.le_refl _, heap_alloc_new w _, Nat.le_refl _, by unfold maxLen; omega, by simp [size_madeCells], ?_⟩⟩
  apply List.ext_getElem?
  intro i
  by_cases hi : i < q
  · simp [ints, madeCells, hi, Nat.mod_one]
  · rw [List.getElem?_eq_none (by simp [size_madeCells]; omega), List.getElem?_eq_none (by simp [ints]; omega)]

set_option maxHeartbeats 4000000 in
theorem up2_any (m n : Nat) (v : Value) (w : World) (h1 : IsN w v m) (s1 : Small m) (hn : n ≤ 10000) :
    Calls Try.prog 90 #[v, .int .i64 (n : Int)] w fun e w' => (∃ v', e = .returned v' ∧ IsN w' v' (m * 2 ^ n)) ∧ Ext w w' := by
  have ok1 := Dig.okd 18446744073709551616 m (by omega)
  have V1 := Dig.vald 18446744073709551616 m (by omega)
  have S1 : (Dig.digs 18446744073709551616 m).length ≤ 1000 := s1.1
  have hz : Dig.digs 18446744073709551616 m = [] → m = 0 := Dig.digs_nil _ _ (by omega)
  obtain ⟨q, s, hq, hs, hs63, hqn, hH⟩ : ∃ q s : Nat, (n : Int) / 64 = (q : Int) ∧ (n : Int) % 64 = (s : Int) ∧ s ≤ 63 ∧ q ≤ 200 ∧ Hid (n = 64 * q + s) := ⟨n / 64, n % 64, by omega, by omega, by omega, by omega, by show _ = _; omega⟩
  have HD : Hid (∀ k c zs, URel (Dig.digs 18446744073709551616 m) s k c zs → (Dig.digs 18446744073709551616 m).length ≤ k → ∀ v w, Row .u64 w v (List.replicate q 0 ++ zs ++ [c]) → Calls Try.prog 91 #[v] w fun e w' => (∃ v', e = .returned v' ∧ IsN w v' (m * 2 ^ n)) ∧ w' = w) := by
    intro k c zs hr hk v w hrow
    obtain ⟨d1, d2⟩ := hr.done (q := q) hk hs63
    have h := ntrim_any _ v w hrow d1
    rw [d2, V1, ← hH.out] at h
    exact h
  unfold IsN at h1
  clear s1 V1
  obtain ⟨i0, hi, hz0, hz1, hz2⟩ := info_parts Try.info64
  have hmk := run_make_row' (P := Try.prog) 70 59 (.int .u64 0) 8 Try.underlying70 Try.info64 rfl .i64 .i64 q (by omega) (by omega)
  generalize Dig.digs 18446744073709551616 m = xs at *
  obtain ⟨ax, cx, rfl, gx⟩ := h1.shape
  by_cases h0 : xs.length = 0
  · have hm0 : m = 0 := hz (List.eq_nil_of_length_eq_zero h0)
    subst hm0
    have e0 : ((xs.length : Int) == 0) = true := by rw [beq_iff_eq]; omega
    clear gx hmk hz
    go_enter Try.func90, Try.ntmps90
    go_wp2_with fail
    go_ret
    refine ⟨⟨_, rfl, .inl ⟨rfl, ?_⟩⟩, Ext.refl _⟩
    rw [Nat.zero_mul]; rfl
  · obtain ⟨b, o, rfl, hcell⟩ := gx (by omega)
    have hc : Hid _ := hcell
    have e0 : ((xs.length : Int) == 0) = false := beq_eq_false_iff_ne.2 (by omega)
    clear gx hcell hz h1
    go_enter Try.func90, Try.ntmps90
    go_wp2_with fail
    clear hmk hq hs e0
    go_loopw [5, 7, 8] (fun l c i wr => ∃ (k C : Nat) (zs : List Nat), k ≤ xs.length ∧ i = .int .i64 (k : Int) ∧ c = .int .u64 (C : Int) ∧ URel xs s k C zs ∧ wr.ownsRow w.heap.size 59 1 l (q + k) (ints .u64 (List.replicate q 0 ++ zs)) ∧ Ext w wr) (fun _ _ i _ => xs.length - (intOf i).toNat)
    case atStart => exact ⟨0, 0, [], by omega, rfl, rfl, URel.start _ _, by rw [List.append_nil]; exact made_own w q (by omega), (Ext.refl _).alloc _⟩
    case round =>
      obtain ⟨k, C, zs, hk, rfl, rfl, hU, hown, hx⟩ := hrel
      have hB : Hid (w.heap.size ≤ wr.heap.size) := hx.size
      by_cases hlt : k < xs.length
      · have hcx := (hx.lay).1 b (o + k) (cell_lt (hc.out k hlt))
        rw [hc.out k hlt] at hcx
        have hxk := ok1 k
        have hlt' : (k : Int) < (xs.length : Int) := by omega
        obtain ⟨y, y1, y2, y3, y4⟩ := shl_limb (xs.getD k 0) C s hxk hs63 hU.2.2.1
        have HS : Hid _ := hU.step y y2 y3 y4
        obtain ⟨yy, gy⟩ : ∃ yy : Int, (y : Int) = yy := ⟨_, rfl⟩
        obtain ⟨X, gX, gX', gX''⟩ : ∃ X : Int, ((xs.getD k 0 : Nat) : Int) = X ∧ 0 ≤ X ∧ X < 18446744073709551616 := ⟨_, rfl, by omega, by omega⟩
        obtain ⟨D, fD, fD2⟩ : ∃ D : Int, X / 2 ^ (64 - s) = D ∧ Hid (((xs.getD k 0 / 2 ^ (64 - s) : Nat) : Int) = D) := ⟨_, rfl, by show _ = _; rw [← gX, Num.cast_shr]⟩
        have hN : Hid (ints .u64 (List.replicate q 0 ++ (zs ++ [y])) = ints .u64 (List.replicate q 0 ++ zs) ++ [.int .u64 yy]) := by
          show _ = _
          rw [← gy]; simp [ints]
        rw [gX] at hcx y1
        rw [gy] at y1
        obtain ⟨c0, gc⟩ : ∃ c : Int, (C : Int) = c := ⟨_, rfl⟩
        rw [gc] at y1 ⊢
        by_cases hs0 : 0 < s
        · have hs0' : (0 : Int) < (s : Int) := by omega
          have HCX : Hid (w.cell? ⟨b, o + k, none⟩ = some (.int .u64 X)) := by show _ = _; rw [hc.out k hlt, gX]
          clear gX gy gc hU hxk y2 y3 y4
          go_wp2_with (at_builtin; refine wpList_append_lies _ rfl (.tmp 24) (.tmp 33) 70 rfl w.heap.size 59 i0 (.int .u64 0) 1 8 Try.underlying70 hi hz0 hz1 hz2 rfl (by decide) _ (q + k) _ rfl (hown.alloc _) ⟨wr.heap.size, 0, none⟩ 1 1 [.int .u64 yy] rfl rfl (one_new wr _ _) (by simp [Value.oneCell']) (by decide) (by unfold maxLen; omega) (by omega) (by simp; exact Nat.le_succ_of_le hB.out) (wr.heap.size + 1) (by simp) ?_; intro g cap' wz hown' hg' hgb hgl; have R1 : Hid (wz.ownsRow w.heap.size 59 1 (.slice (some ⟨g, 0, none⟩) (q + k + 1) cap') (q + (k + 1)) (ints .u64 (List.replicate q 0 ++ (zs ++ [y])))) := (by show wz.ownsRow _ _ _ _ _ _; rw [hN.out]; exact hown'); have R2 : Hid (Ext w wz) := ext_grown (a := w) (hx.alloc _) (hown.alloc _) hg'; have hcz := R2.out.kept HCX.out; clear hown' hg' hgb hgl hown)
          go_roundw
          case rel => exact ⟨k + 1, _, _, by omega, by go_num, congrArg (Value.int .u64) fD2.out.symm, HS.out, R1.out, R2.out⟩
          case measure => simp [intOf]; omega
        · have hs0' : ¬ (0 : Int) < (s : Int) := by omega
          have HZ : Hid (((xs.getD k 0 / 2 ^ (64 - s) : Nat) : Int) = 0) := by
            obtain rfl : s = 0 := by omega
            show _ = _
            have : xs.getD k 0 / 2 ^ (64 - 0) < 2 ^ 0 := y4
            simp only [Nat.pow_zero] at this
            omega
          clear gX gy gc hU hxk y2 y3 y4 fD fD2
          go_wp2_with (at_builtin; refine wpList_append_lies _ rfl (.tmp 24) (.tmp 33) 70 rfl w.heap.size 59 i0 (.int .u64 0) 1 8 Try.underlying70 hi hz0 hz1 hz2 rfl (by decide) _ (q + k) _ rfl (hown.alloc _) ⟨wr.heap.size, 0, none⟩ 1 1 [.int .u64 yy] rfl rfl (one_new wr _ _) (by simp [Value.oneCell']) (by decide) (by unfold maxLen; omega) (by omega) (by simp; exact Nat.le_succ_of_le hB.out) (wr.heap.size + 1) (by simp) ?_; intro g cap' wz hown' hg' hgb hgl; have R1 : Hid (wz.ownsRow w.heap.size 59 1 (.slice (some ⟨g, 0, none⟩) (q + k + 1) cap') (q + (k + 1)) (ints .u64 (List.replicate q 0 ++ (zs ++ [y])))) := (by show wz.ownsRow _ _ _ _ _ _; rw [hN.out]; exact hown'); have R2 : Hid (Ext w wz) := ext_grown (a := w) (hx.alloc _) (hown.alloc _) hg'; clear hown' hg' hgb hgl hown)
          go_roundw
          case rel => exact ⟨k + 1, _, _, by omega, by go_num, congrArg (Value.int .u64) HZ.out.symm, HS.out, R1.out, R2.out⟩
          case measure => simp [intOf]; omega
      · have hlt' : ¬ (k : Int) < (xs.length : Int) := by omega
        obtain ⟨c0, gc⟩ : ∃ c : Int, (C : Int) = c := ⟨_, rfl⟩
        have HT : Hid _ := HD.out k C zs hU (by omega)
        have hN : Hid (ints .u64 (List.replicate q 0 ++ zs ++ [C]) = ints .u64 (List.replicate q 0 ++ zs) ++ [.int .u64 c0]) := by
          show _ = _
          rw [← gc]; simp [ints]
        rw [gc]
        clear gc hU
        go_wp2_with (at_builtin; refine wpList_append_lies _ rfl (.tmp 44) (.tmp 46) 70 rfl w.heap.size 59 i0 (.int .u64 0) 1 8 Try.underlying70 hi hz0 hz1 hz2 rfl (by decide) _ (q + k) _ rfl (hown.alloc _) ⟨wr.heap.size, 0, none⟩ 1 1 [.int .u64 c0] rfl rfl (one_new wr _ _) (by simp [Value.oneCell']) (by decide) (by unfold maxLen; omega) (by omega) (by simp; exact Nat.le_succ_of_le hB.out) (wr.heap.size + 1) (by simp) ?_; intro g cap' wz hown' hg' hgb hgl; have R1 : Hid (wz.ownsRow w.heap.size 59 1 (.slice (some ⟨g, 0, none⟩) (q + k + 1) cap') (q + (k + 1)) (ints .u64 (List.replicate q 0 ++ zs ++ [C]))) := (by show wz.ownsRow _ _ _ _ _ _; rw [hN.out]; exact hown'); have R2 : Hid (Ext w wz) := ext_grown (a := w) (hx.alloc _) (hown.alloc _) hg'; clear hown' hg' hgb hgl hown)
        have hrow := row_of_own R1.out
        refine (HT.out _ _ hrow).mono ?_
        rintro e w4 ⟨⟨v3, rfl, hr3⟩, rfl⟩
        clear hrow
        go_wp2_with fail
        go_ret
        exact ⟨⟨_, rfl, hr3⟩, R2.out⟩
end Go.Proofs.Ytojcndgoihkfnaa

namespace Go.Proofs.Ytojcndgoihkfnaa.Dig

theorem digs_getD (B : Nat) (hB : 2 ≤ B) : ∀ i n, (digs B n).getD i 0 = n / B ^ i % B := by
  intro i
  induction i with
  | zero =>
    intro n
    by_cases h : n = 0
    · subst h; simp [digs_zero]
    · rw [digs_step B n hB h]; simp
  | succ i ih =>
    intro n
    by_cases h : n = 0
    · subst h; simp [digs_zero]
    · rw [digs_step B n hB h]
      simp only [List.getD_cons_succ]
      rw [ih, Nat.div_div_eq_div_mul, Nat.pow_succ, Nat.mul_comm B]

def blen (n : Nat) : Nat := if h : n = 0 then 0 else blen (n / 2) + 1
  decreasing_by omega
theorem blen_zero : blen 0 = 0 := by unfold blen; rfl
theorem blen_pos (n : Nat) (h : n ≠ 0) : blen n = blen (n / 2) + 1 := by
  rw [blen, dif_neg h]
theorem blen_shl (t k r : Nat) (ht : t ≠ 0) (hr : r < 2 ^ k) : blen (t * 2 ^ k + r) = blen t + k := by
  induction k generalizing r with
  | zero =>
    have : r = 0 := by simpa using hr
    subst this; simp
  | succ k ih =>
    have hp : 0 < 2 ^ k := Nat.pow_pos (by omega)
    have h1 : 1 * 2 ^ k ≤ t * 2 ^ k := Nat.mul_le_mul_right _ (by omega)
    have e1 : t * 2 ^ (k + 1) = 2 * (t * 2 ^ k) := by rw [Nat.pow_succ, ← Nat.mul_assoc, Nat.mul_comm]
    rw [blen_pos _ (by omega)]
    have e2 : (t * 2 ^ (k + 1) + r) / 2 = t * 2 ^ k + r / 2 := by omega
    rw [e2, ih (r / 2) (by rw [Nat.pow_succ] at hr; omega)]
    omega
theorem lt_blen : ∀ n, n < 2 ^ blen n := by
  intro n
  induction n using Nat.strongRecOn with
  | _ n ih =>
    by_cases h : n = 0
    · subst h; simp [blen_zero]
    · have := ih (n / 2) (by omega)
      rw [blen_pos n h, Nat.pow_succ]
      omega
theorem blen_le : ∀ n k, n < 2 ^ k → blen n ≤ k := by
  intro n
  induction n using Nat.strongRecOn with
  | _ n ih =>
    intro k hk
    by_cases h : n = 0
    · subst h; simp [blen_zero]
    · cases k with
      | zero => simp at hk; omega
      | succ k =>
        have := ih (n / 2) (by omega) k (by rw [Nat.pow_succ] at hk; omega)
        rw [blen_pos n h]
        omega
theorem blen_ge (n : Nat) (h : n ≠ 0) : 2 ^ blen n ≤ 2 * n := by
  apply Nat.le_of_not_lt
  intro hlt
  have h1 := blen_pos n h
  rw [h1, Nat.pow_succ] at hlt
  have := blen_le n (blen (n / 2)) (by omega)
  omega

/-- one limb of a number shifted down -/
theorem down_limb (X s j : Nat) (hs : s ≤ 63) :
    X / 18446744073709551616 ^ j % 18446744073709551616 / 2 ^ s + (X / 18446744073709551616 ^ (j + 1) % 18446744073709551616) % 2 ^ s * 2 ^ (64 - s) = X / 18446744073709551616 ^ j / 2 ^ s % 18446744073709551616 := by
  rw [Nat.pow_succ, ← Nat.div_div_eq_div_mul]
  generalize X / 18446744073709551616 ^ j = Y
  have hp : 0 < 2 ^ s := Nat.pow_pos (by omega)
  have hq : 0 < 2 ^ (64 - s) := Nat.pow_pos (by omega)
  have e64 : 2 ^ s * 2 ^ (64 - s) = 18446744073709551616 := by rw [← Nat.pow_add, show s + (64 - s) = 64 by omega]
  have hd : 2 ^ s ∣ 18446744073709551616 := ⟨_, e64.symm⟩
  rw [Nat.mod_mod_of_dvd _ hd]
  have hx : Y % 18446744073709551616 < 18446744073709551616 := Nat.mod_lt _ (by omega)
  have hY := Nat.mod_add_div Y 18446744073709551616
  generalize Y / 18446744073709551616 = Z at *
  generalize Y % 18446744073709551616 = x at *
  have hz := Nat.mod_add_div Z (2 ^ s)
  have e1 : Y / 2 ^ s = x / 2 ^ s + 2 ^ (64 - s) * Z := by
    rw [← hY, ← e64, Nat.mul_assoc, Nat.add_mul_div_left _ _ hp]
  have e2 : 2 ^ (64 - s) * Z = Z % 2 ^ s * 2 ^ (64 - s) + 18446744073709551616 * (Z / 2 ^ s) := by
    rw [← e64, Nat.mul_comm (2 ^ s) (2 ^ (64 - s)), Nat.mul_assoc, Nat.mul_comm (Z % 2 ^ s), ← Nat.mul_add, hz]
  rw [e1, e2, ← Nat.add_assoc, Nat.add_mul_mod_self_left]
  refine (Nat.mod_eq_of_lt ?_).symm
  have h1 : x / 2 ^ s < 2 ^ (64 - s) := by rw [Nat.div_lt_iff_lt_mul hp, Nat.mul_comm, e64]; exact hx
  have h2 : (Z % 2 ^ s + 1) * 2 ^ (64 - s) ≤ 2 ^ s * 2 ^ (64 - s) := Nat.mul_le_mul_right _ (Nat.mod_lt _ hp)
  rw [e64, Nat.add_mul, Nat.one_mul] at h2
  omega

/-- the digits of a number, as many as are asked for -/
def digN (B Y k : Nat) : List Nat := (List.range k).map fun j => Y / B ^ j % B
theorem digN_zero (B Y : Nat) : digN B Y 0 = [] := rfl
theorem digN_succ (B Y k : Nat) : digN B Y (k + 1) = digN B Y k ++ [Y / B ^ k % B] := by
  unfold digN; rw [List.range_succ, List.map_append, List.map_singleton]
theorem digN_length (B Y k : Nat) : (digN B Y k).length = k := by simp [digN]
theorem digN_ok (B Y k : Nat) (hB : 0 < B) : Ok B (digN B Y k) := by
  induction k with
  | zero => exact ok_nil hB
  | succ k ih => rw [digN_succ]; exact ok_snoc ih (Nat.mod_lt _ hB)
theorem digN_val (B Y k : Nat) : val B (digN B Y k) = Y % B ^ k := by
  induction k with
  | zero => simp [digN_zero, val, Nat.mod_one]
  | succ k ih => rw [digN_succ, val_snoc, ih, digN_length, Nat.pow_succ, Nat.mod_mul]
theorem digN_done (B Y k : Nat) (h : Y < B ^ k) : val B (digN B Y k) = Y := by rw [digN_val, Nat.mod_eq_of_lt h]
theorem down_lt (X q s L : Nat) (hX : X < 18446744073709551616 ^ L) (hq : q ≤ L) : X / 18446744073709551616 ^ q / 2 ^ s < 18446744073709551616 ^ (L - q) := by
  have h1 : X / 18446744073709551616 ^ q < 18446744073709551616 ^ (L - q) := by
    rw [Nat.div_lt_iff_lt_mul (Nat.pow_pos (by omega)), ← Nat.pow_add, show L - q + q = L by omega]
    exact hX
  exact Nat.lt_of_le_of_lt (Nat.div_le_self _ _) h1
theorem down_eq (X q s : Nat) : X / 18446744073709551616 ^ q / 2 ^ s = X / 2 ^ (64 * q + s) := by
  have : (18446744073709551616 : Nat) = 2 ^ 64 := by decide
  rw [Nat.div_div_eq_div_mul, this, ← Nat.pow_mul, ← Nat.pow_add]

/-- one step of the division by a digit -/
theorem short_step (X d t : Nat) (hd : 0 < d) :
    (X / 4294967296 ^ (t + 1) % d * 4294967296 + X / 4294967296 ^ t % 4294967296) / d = X / d / 4294967296 ^ t % 4294967296 ∧
    (X / 4294967296 ^ (t + 1) % d * 4294967296 + X / 4294967296 ^ t % 4294967296) % d = X / 4294967296 ^ t % d := by
  have e0 : X / d / 4294967296 ^ t = X / 4294967296 ^ t / d := by rw [Nat.div_div_eq_div_mul, Nat.div_div_eq_div_mul, Nat.mul_comm]
  rw [e0, Nat.pow_succ, ← Nat.div_div_eq_div_mul]
  generalize X / 4294967296 ^ t = Y
  have hY := Nat.mod_add_div Y 4294967296
  have hx : Y % 4294967296 < 4294967296 := Nat.mod_lt _ (by omega)
  generalize Y / 4294967296 = Z at *
  generalize Y % 4294967296 = x at *
  have hZ := Nat.mod_add_div Z d
  have hr : Z % d < d := Nat.mod_lt _ hd
  generalize Z / d = q at *
  generalize Z % d = r at *
  have eY : Y = (r * 4294967296 + x) + d * (4294967296 * q) := by
    rw [← hY, ← hZ, Nat.mul_add, Nat.mul_left_comm d]; omega
  rw [eY, Nat.add_mul_div_left _ _ hd, Nat.add_mul_mod_self_left, Nat.add_mul_mod_self_left]
  have h1 : (r * 4294967296 + x) / d < 4294967296 := by
    rw [Nat.div_lt_iff_lt_mul hd]
    have := Nat.mul_le_mul_right 4294967296 (show r + 1 ≤ d from hr)
    rw [Nat.add_mul] at this
    rw [Nat.mul_comm 4294967296 d]
    omega
  exact ⟨(Nat.mod_eq_of_lt h1).symm, rfl⟩

/-- bit by bit: what the division's loop keeps, with t bits to come -/
structure DRelQNum3 (m b L t Q r : Nat) (F : Nat → Nat) : Prop where
  sum : m = b * Q + r
  rest : r < b * 2 ^ t
  low : ∀ j, 2 ^ t ∣ F j * 18446744073709551616 ^ j
  dig : ∀ j, F j < 18446744073709551616

theorem DRelQNum3.start {m b n : Nat} (L : Nat) (hb : b ≠ 0) (hn : blen m ≤ blen b + n) : DRelQNum3 m b L (n + 1) 0 m (fun _ => 0) := by
  refine ⟨by omega, ?_, fun j => ⟨0, by simp⟩, fun _ => by show 0 < _; omega⟩
  have h1 := lt_blen m
  have h2 := Nat.pow_le_pow_right (n := 2) (by omega) hn
  have h3 := Nat.mul_le_mul_right (2 ^ n) (blen_ge b hb)
  rw [Nat.pow_add] at h2
  rw [Nat.pow_succ]
  have e : 2 * b * 2 ^ n = b * (2 ^ n * 2) := by rw [Nat.mul_comm 2 b, Nat.mul_assoc, Nat.mul_comm 2]
  omega
theorem DRelQNum3.no {m b L i Q r : Nat} {F : Nat → Nat} (h : DRelQNum3 m b L (i + 1) Q r F) (hr : r < b * 2 ^ i) : DRelQNum3 m b L i Q r F :=
  ⟨h.sum, hr, fun j => Nat.dvd_trans (Nat.pow_dvd_pow 2 (by omega)) (h.low j), h.dig⟩
theorem DRelQNum3.bit {m b L i Q r : Nat} {F : Nat → Nat} (h : DRelQNum3 m b L (i + 1) Q r F) : F (i / 64) % 2 ^ (i % 64 + 1) = 0 ∧ F (i / 64) + 2 ^ (i % 64) < 18446744073709551616 := by
  have h1 := h.low (i / 64)
  have e : (18446744073709551616 : Nat) = 2 ^ 64 := by decide
  have e1 : (2 : Nat) ^ (i + 1) = 2 ^ (i % 64 + 1) * 18446744073709551616 ^ (i / 64) := by
    rw [e, ← Nat.pow_mul, ← Nat.pow_add]; congr 1; omega
  rw [e1] at h1
  have h2 : 2 ^ (i % 64 + 1) ∣ F (i / 64) := Nat.dvd_of_mul_dvd_mul_right (Nat.pow_pos (by omega)) h1
  refine ⟨Nat.mod_eq_zero_of_dvd h2, ?_⟩
  obtain ⟨c, hc⟩ := h2
  have h3 := h.dig (i / 64)
  have e2 : (18446744073709551616 : Nat) = 2 ^ (i % 64 + 1) * 2 ^ (63 - i % 64) := by rw [e, ← Nat.pow_add]; congr 1; omega
  have hp : 0 < 2 ^ (i % 64) := Nat.pow_pos (by omega)
  rw [hc, e2] at h3
  have h4 : c < 2 ^ (63 - i % 64) := Nat.lt_of_mul_lt_mul_left h3
  have h5 : 2 ^ (i % 64 + 1) * (c + 1) ≤ 2 ^ (i % 64 + 1) * 2 ^ (63 - i % 64) := Nat.mul_le_mul_left _ h4
  rw [← e2, Nat.mul_add, ← hc, Nat.mul_one, Nat.pow_succ] at h5
  omega
theorem or_bit (f s : Nat) (h : f % 2 ^ (s + 1) = 0) : f ||| 2 ^ s = f + 2 ^ s := by
  have e : f = 2 ^ (s + 1) * (f / 2 ^ (s + 1)) := by have := Nat.mod_add_div f (2 ^ (s + 1)); omega
  have hlt : 2 ^ s < 2 ^ (s + 1) := Nat.pow_lt_pow_right (by omega) (by omega)
  rw [e, ← Nat.two_pow_add_eq_or_of_lt hlt]

theorem length_bounds (B n k : Nat) (hB : 2 ≤ B) (h : (digs B n).length = k + 1) : B ^ k ≤ n ∧ n < B ^ (k + 1) := by
  constructor
  · apply Nat.le_of_not_lt
    intro hlt
    have := digs_length_le B hB n k hlt
    omega
  · have := val_lt B _ (okd B n hB)
    rw [vald B n hB, h] at this
    exact this
theorem blen_top (m k : Nat) (h : (digs 18446744073709551616 m).length = k + 1) : blen m = blen ((digs 18446744073709551616 m).getD k 0) + 64 * k := by
  obtain ⟨h1, h2⟩ := length_bounds _ m k (by omega) h
  have hp : 0 < 18446744073709551616 ^ k := Nat.pow_pos (by omega)
  have e : (18446744073709551616 : Nat) = 2 ^ 64 := by decide
  have h3 : m / 18446744073709551616 ^ k < 18446744073709551616 := by
    rw [Nat.div_lt_iff_lt_mul hp, Nat.mul_comm, ← Nat.pow_succ]; exact h2
  have h4 : m / 18446744073709551616 ^ k ≠ 0 := by
    intro h0
    have := Nat.lt_of_div_eq_zero hp h0
    omega
  rw [digs_getD _ (by omega), Nat.mod_eq_of_lt h3]
  have h5 := Nat.mod_lt m hp
  have h6 := Nat.mod_add_div m (18446744073709551616 ^ k)
  have e2 : (18446744073709551616 : Nat) ^ k = 2 ^ (64 * k) := by rw [e, ← Nat.pow_mul]
  rw [e2] at h4 h5 h6 ⊢
  have := blen_shl (m / 2 ^ (64 * k)) (64 * k) (m % 2 ^ (64 * k)) h4 h5
  rw [← this]
  congr 1
  rw [Nat.mul_comm]; omega
theorem blen_bound (m L : Nat) (h : (digs 18446744073709551616 m).length ≤ L) : blen m ≤ 64 * L := by
  apply blen_le
  have h1 := val_lt 18446744073709551616 _ (okd 18446744073709551616 m (by omega))
  rw [vald 18446744073709551616 m (by omega)] at h1
  have h2 := Nat.pow_le_pow_right (n := 18446744073709551616) (by omega) h
  have e : (18446744073709551616 : Nat) ^ L = 2 ^ (64 * L) := by
    have : (18446744073709551616 : Nat) = 2 ^ 64 := by decide
    rw [this, ← Nat.pow_mul]
  rw [← e]
  omega
theorem blen_half (c T N : Nat) (h : N + blen c = T) (h0 : c ≠ 0) : (N + 1) + blen (c / 2) = T := by
  rw [blen_pos c h0] at h; omega

end Go.Proofs.Ytojcndgoihkfnaa.Dig

namespace Go.Proofs.Ytojcndgoihkfnaa
open Go.RowKit

set_option maxHeartbeats 1000000 in
theorem nlen_any (m : Nat) (v : Value) (w : World) (h1 : IsN w v m) (s1 : Small m) :
    Calls Try.prog 98 #[v] w fun e w' => e = .returned (.int .i64 (Dig.blen m : Int)) ∧ w' = w := by
  have ok1 := Dig.okd 18446744073709551616 m (by omega)
  have S1 : (Dig.digs 18446744073709551616 m).length ≤ 1000 := s1.1
  have T1 : Dig.blen m ≤ 64000 := Dig.blen_bound m 1000 S1
  have hz : Dig.digs 18446744073709551616 m = [] → m = 0 := Dig.digs_nil _ _ (by omega)
  have HB : Hid (∀ k, (Dig.digs 18446744073709551616 m).length = k + 1 → Dig.blen m = Dig.blen ((Dig.digs 18446744073709551616 m).getD k 0) + 64 * k) := fun k hk => Dig.blen_top m k hk
  unfold IsN at h1
  clear s1
  generalize Dig.digs 18446744073709551616 m = xs at *
  obtain ⟨ax, cx, rfl, gx⟩ := h1.shape
  clear h1
  cases hk : xs.length with
  | zero =>
    have hm0 : m = 0 := hz (List.eq_nil_of_length_eq_zero hk)
    subst hm0
    have e : Hid (0 = (Dig.blen 0 : Int)) := by show _ = _; rw [Dig.blen_zero]; rfl
    clear gx hz HB hk S1 T1
    go_enter Try.func98, Try.ntmps98
    go_wp2_with fail
    go_ret
    exact ⟨ret_int e.out, rfl⟩
  | succ k =>
    obtain ⟨b, o, rfl, hcell⟩ := gx (by omega)
    have hc := hcell k (by omega)
    have hT : Hid (64 * k + Dig.blen (xs.getD k 0) = Dig.blen m) := by have := HB.out k hk; show _ = _; omega
    have hxk := ok1 k
    have hk1 : k ≤ 999 := by omega
    generalize Dig.blen m = T at *
    clear gx hz HB hcell ok1 S1 hk
    obtain ⟨X, gX⟩ : ∃ X : Nat, xs.getD k 0 = X := ⟨_, rfl⟩
    rw [gX] at hc hT hxk
    clear gX
    go_enter Try.func98, Try.ntmps98
    go_wp2_with fail
    go_loop [3, 4] (fun n x => ∃ (c N : Nat), n = .int .i64 (N : Int) ∧ x = .int .u64 (c : Int) ∧ Hid (N + Dig.blen c = T) ∧ c < 18446744073709551616) (fun _ x => (intOf x).toNat)
    case atStart => exact ⟨X, 64 * k, by go_num, rfl, hT, hxk⟩
    case round =>
      clear hc hT hxk
      obtain ⟨c, N, rfl, rfl, hN, hc64⟩ := hrel
      by_cases h0 : c = 0
      · subst h0
        have e : Hid ((N : Int) = (T : Int)) := by have := hN.out; rw [Dig.blen_zero] at this; show _ = _; omega
        go_wp2_with fail
        go_ret
        exact ⟨ret_int e.out, rfl⟩
      · obtain ⟨C, gC, gC'⟩ : ∃ C : Int, (c : Int) = C ∧ 0 < C ∧ C < 18446744073709551616 := ⟨_, rfl, by omega, by omega⟩
        have hne : (C != 0) = true := by simp; omega
        have hN2 : N + 1 ≤ 64000 := by have := hN.out; rw [Dig.blen_pos c h0] at this; omega
        have HN' : Hid ((N + 1) + Dig.blen (c / 2) = T) := Dig.blen_half c T N hN.out h0
        have HD : Hid (C / 2 = ((c / 2 : Nat) : Int)) := by show _ = _; omega
        have HL : Hid ((C / 2).toNat < C.toNat) := by show _ < _; omega
        obtain ⟨gC1, gC2⟩ := gC'
        rw [gC]
        clear hN h0 gC
        go_wp2_with fail
        go_round
        case rel => exact ⟨c / 2, N + 1, by go_num, congrArg (Value.int .u64) HD.out, HN', by omega⟩
        case measure => exact HL.out

end Go.Proofs.Ytojcndgoihkfnaa
