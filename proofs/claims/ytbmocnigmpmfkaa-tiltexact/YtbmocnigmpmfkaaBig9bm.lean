/- The reference's whole numbers: Down2. -/
import Derived.Test.YtbmocnigmpmfkaaBig9m
namespace Go.Proofs.Ytbmocnigmpmfkaa
open Go.RowKit

theorem shr_limb (x y s : Nat) (hx : x < 18446744073709551616) (hs : 0 < s) (hs2 : s ≤ 63) :
    bits BinOp.or IntKind.u64 ((x / 2 ^ s : Nat) : Int) (IntKind.u64.wrap ((y : Int) * 2 ^ (64 - s))) = ((x / 2 ^ s + y % 2 ^ s * 2 ^ (64 - s) : Nat) : Int) := by
  have hp : 0 < 2 ^ s := Nat.pow_pos (by omega)
  have e64 : 2 ^ s * 2 ^ (64 - s) = 18446744073709551616 := by rw [← Nat.pow_add, show s + (64 - s) = 64 by omega]
  have e1 : y * 2 ^ (64 - s) % 18446744073709551616 = (y % 2 ^ s) * 2 ^ (64 - s) := by rw [← e64, Nat.mul_mod_mul_right]
  have h1 : x / 2 ^ s < 2 ^ (64 - s) := by rw [Nat.div_lt_iff_lt_mul hp, Nat.mul_comm, e64]; exact hx
  have h2 : (y % 2 ^ s) * 2 ^ (64 - s) < 18446744073709551616 := by rw [← e1]; exact Nat.mod_lt _ (by omega)
  have h3 : x / 2 ^ s < 18446744073709551616 := Nat.lt_of_le_of_lt (Nat.div_le_self _ _) hx
  rw [Num.cast_shl, Num.wrapMod, e1, bits_or_u64_nat _ _ h3 h2]
  congr 1
  rw [Nat.or_comm, Nat.mul_comm, ← Nat.two_pow_add_eq_or_of_lt h1, Nat.add_comm]

set_option maxHeartbeats 4000000 in
theorem down2_any (m n : Nat) (v : Value) (w : World) (h1 : IsN w v m) (s1 : Small m) (hn : n ≤ 100000) :
    Calls Try.prog 69 #[v, .int .i64 (n : Int)] w fun e w' => (∃ v', e = .returned v' ∧ IsN w' v' (m / 2 ^ n)) ∧ Ext w w' := by
  have ok1 := Dig.okd 18446744073709551616 m (by omega)
  have S1 : (Dig.digs 18446744073709551616 m).length ≤ 1000 := s1.1
  have T1 : Dig.blen m ≤ 64000 := Dig.blen_bound m 1000 S1
  have HL : Hid (∀ w', Ext w w' → Calls Try.prog 68 #[v] w' fun e w'' => e = .returned (.int .i64 (Dig.blen m : Int)) ∧ w'' = w') := fun w' hx => nlen_any m v w' (h1.ext hx) s1
  by_cases hbig : Dig.blen m ≤ n
  · have e0 : Hid (m / 2 ^ n = 0) := Nat.div_eq_of_lt (Nat.lt_of_lt_of_le (Dig.lt_blen m) (Nat.pow_le_pow_right (by omega) hbig))
    have hb : (Dig.blen m : Int) ≤ (n : Int) := by omega
    clear h1 s1 ok1 S1
    generalize Dig.blen m = T at *
    go_enter Try.func69, Try.ntmps69
    go_wp2_with fail
    refine (HL.out _ (Ext.refl _)).mono ?_
    rintro e wx ⟨rfl, hwx⟩
    have hwy := hwx.symm
    clear hwx
    subst hwy
    go_wp2_with fail
    go_ret
    refine ⟨⟨_, rfl, .inl ⟨rfl, ?_⟩⟩, Ext.refl _⟩
    rw [e0.out]; rfl
  · have hb : ¬ (Dig.blen m : Int) ≤ (n : Int) := by omega
    obtain ⟨q, s, hq, hs, hs63, hqn, hH⟩ : ∃ q s : Nat, (n : Int) / 64 = (q : Int) ∧ (n : Int) % 64 = (s : Int) ∧ s ≤ 63 ∧ q ≤ 2000 ∧ Hid (n = 64 * q + s) := ⟨n / 64, n % 64, by omega, by omega, by omega, by omega, by show _ = _; omega⟩
    have hlt0 := Dig.val_lt 18446744073709551616 _ (Dig.okd 18446744073709551616 m (by omega))
    rw [Dig.vald 18446744073709551616 m (by omega)] at hlt0
    have hqL : q ≤ (Dig.digs 18446744073709551616 m).length := by
      have := Dig.blen_bound m _ (Nat.le_refl _)
      have := hH.out
      omega
    obtain ⟨Y, hY⟩ : ∃ Y, Hid (m / 18446744073709551616 ^ q / 2 ^ s = Y) := ⟨_, rfl⟩
    have HD : Hid (∀ v w, Row .u64 w v (Dig.digN 18446744073709551616 Y ((Dig.digs 18446744073709551616 m).length - q)) → Calls Try.prog 50 #[v] w fun e w' => (∃ v', e = .returned v' ∧ IsN w v' (m / 2 ^ n)) ∧ w' = w) := by
      intro v w hrow
      have h := ntrim_any _ v w hrow (Dig.digN_ok _ _ _ (by omega))
      rw [Dig.digN_done _ _ _ (by rw [← hY.out]; exact Dig.down_lt m q s _ hlt0 hqL), ← hY.out, Dig.down_eq, ← hH.out] at h
      exact h
    have HX : Hid (∀ k, (Dig.digs 18446744073709551616 m).getD (q + k) 0 / 2 ^ s + (Dig.digs 18446744073709551616 m).getD (q + k + 1) 0 % 2 ^ s * 2 ^ (64 - s) = Y / 18446744073709551616 ^ k % 18446744073709551616) := by
      intro k
      rw [Dig.digs_getD _ (by omega), Dig.digs_getD _ (by omega), Dig.down_limb m s (q + k) hs63, ← hY.out]
      congr 1
      rw [Nat.pow_add, Nat.div_div_eq_div_mul, Nat.div_div_eq_div_mul, Nat.div_div_eq_div_mul]
      congr 1
      rw [Nat.mul_assoc, Nat.mul_comm (18446744073709551616 ^ k)]
    unfold IsN at h1
    clear s1 hlt0
    obtain ⟨i0, hi, hz0, hz1, hz2⟩ := info_parts Try.info64
    generalize Dig.blen m = T at *
    generalize Dig.digs 18446744073709551616 m = xs at *
    obtain ⟨ax, cx, rfl, gx⟩ := h1.shape
    have GX : Hid _ := gx
    clear gx h1
    go_enter Try.func69, Try.ntmps69
    go_wp2_with fail
    refine (HL.out _ (Ext.refl _)).mono ?_
    rintro e wx ⟨rfl, hwx⟩
    have hwy := hwx.symm
    clear hwx
    subst hwy
    go_wp2_with fail
    clear hq hs HL
    go_loopw [6, 7] (fun l i wr => ∃ (k : Nat), q + k ≤ xs.length ∧ i = .int .i64 ((q + k : Nat) : Int) ∧ wr.ownsRow w.heap.size 49 1 l k (ints .u64 (Dig.digN 18446744073709551616 Y k)) ∧ Ext w wr) (fun _ i _ => xs.length - (intOf i).toNat)
    case atStart => exact ⟨0, by omega, rfl, World.ownsRow_nil _ _ _ _, Ext.refl _⟩
    case round =>
      obtain ⟨k, hk, rfl, hown, hx⟩ := hrel
      have hB : Hid (w.heap.size ≤ wr.heap.size) := hx.size
      by_cases hlt : q + k < xs.length
      · obtain ⟨b, o, rfl, hcell⟩ := GX.out (by omega)
        have hcx := (hx.lay).1 b (o + (q + k)) (cell_lt (hcell (q + k) hlt))
        rw [hcell (q + k) hlt] at hcx
        have hxk := ok1 (q + k)
        have hxv := HX.out k
        have hlt' : ((q + k : Nat) : Int) < (xs.length : Int) := by omega
        obtain ⟨i1, hi1, hi2⟩ : ∃ i1 : Nat, q + k = i1 ∧ Hid (q + (k + 1) = i1 + 1) := ⟨_, rfl, rfl⟩
        rw [hi1] at hcx hxk hlt' hlt ⊢
        by_cases hs0 : 0 < s
        · by_cases hi3 : i1 + 1 < xs.length
          · have hcy := (hx.lay).1 b (o + (i1 + 1)) (cell_lt (hcell (i1 + 1) hi3))
            rw [hcell (i1 + 1) hi3] at hcy
            have y1 := shr_limb (xs.getD i1 0) (xs.getD (i1 + 1) 0) s hxk hs0 hs63
            have hxv' : xs.getD i1 0 / 2 ^ s + xs.getD (i1 + 1) 0 % 2 ^ s * 2 ^ (64 - s) = Y / 18446744073709551616 ^ k % 18446744073709551616 := by rw [← hi1]; exact hxv
            rw [hxv'] at y1
            obtain ⟨X, gX, gX', gX''⟩ : ∃ X : Int, ((xs.getD i1 0 : Nat) : Int) = X ∧ 0 ≤ X ∧ X < 18446744073709551616 := ⟨_, rfl, by omega, by omega⟩
            obtain ⟨W, gW⟩ : ∃ X : Int, ((xs.getD (i1 + 1) 0 : Nat) : Int) = X := ⟨_, rfl⟩
            obtain ⟨yy, gy⟩ : ∃ yy : Int, ((Y / 18446744073709551616 ^ k % 18446744073709551616 : Nat) : Int) = yy := ⟨_, rfl⟩
            rw [gX] at hcx
            rw [gW] at hcy y1
            rw [gy] at y1
            have y2 : bits BinOp.or IntKind.u64 (X / 2 ^ s) (IntKind.u64.wrap (W * 2 ^ (64 - s))) = yy := by
              rw [← y1, ← gX]; simp
            have hN : Hid (ints .u64 (Dig.digN 18446744073709551616 Y (k + 1)) = ints .u64 (Dig.digN 18446744073709551616 Y k) ++ [.int .u64 yy]) := by
              show _ = _
              rw [Dig.digN_succ, ← gy]; simp [ints]
            have hs0' : (0 : Int) < (s : Int) := by omega
            have hi3' : (i1 : Int) + 1 < (xs.length : Int) := by omega
            clear y1 gX gW gy hxv hxv' hxk hcell
            go_wp2_with (at_builtin; refine wpList_append_lies _ rfl (.tmp 49) (.tmp 51) 61 rfl w.heap.size 49 i0 (.int .u64 0) 1 8 Try.underlying61 hi hz0 hz1 hz2 rfl (by decide) _ k _ rfl (hown.alloc _) ⟨wr.heap.size, 0, none⟩ 1 1 [.int .u64 yy] rfl rfl (one_new wr _ _) (by simp [Value.oneCell']) (by decide) (by unfold maxLen; omega) (by omega) (by simp; exact Nat.le_succ_of_le hB.out) (wr.heap.size + 1) (by simp) ?_; intro g cap' wz hown' hg' hgb hgl; have R1 : Hid (wz.ownsRow w.heap.size 49 1 (.slice (some ⟨g, 0, none⟩) (k + 1) cap') (k + 1) (ints .u64 (Dig.digN 18446744073709551616 Y (k + 1)))) := (by show wz.ownsRow _ _ _ _ _ _; rw [hN.out]; exact hown'); have R2 : Hid (Ext w wz) := ext_grown (a := w) (hx.alloc _) (hown.alloc _) hg'; clear hown' hg' hgb hgl hown)
            go_roundw
            case rel => exact ⟨k + 1, by omega, congrArg (fun z : Nat => Value.int .i64 (z : Int)) hi2.out.symm, R1.out, R2.out⟩
            case measure => simp [intOf]; omega
          · have hxv' : xs.getD i1 0 / 2 ^ s = Y / 18446744073709551616 ^ k % 18446744073709551616 := by
              rw [← hxv, hi1]
              have : xs.getD (i1 + 1) 0 = 0 := by rw [List.getD_eq_getElem?_getD, List.getElem?_eq_none (by omega)]; rfl
              rw [this, Nat.zero_mod, Nat.zero_mul, Nat.add_zero]
            obtain ⟨X, gX, gX', gX''⟩ : ∃ X : Int, ((xs.getD i1 0 : Nat) : Int) = X ∧ 0 ≤ X ∧ X < 18446744073709551616 := ⟨_, rfl, by omega, by omega⟩
            obtain ⟨yy, gy⟩ : ∃ yy : Int, ((Y / 18446744073709551616 ^ k % 18446744073709551616 : Nat) : Int) = yy := ⟨_, rfl⟩
            rw [gX] at hcx
            have y2 : X / 2 ^ s = yy := by
              rw [← gy, ← hxv', ← gX]; simp
            have hN : Hid (ints .u64 (Dig.digN 18446744073709551616 Y (k + 1)) = ints .u64 (Dig.digN 18446744073709551616 Y k) ++ [.int .u64 yy]) := by
              show _ = _
              rw [Dig.digN_succ, ← gy]; simp [ints]
            have hs0' : (0 : Int) < (s : Int) := by omega
            have hi3' : ¬ (i1 : Int) + 1 < (xs.length : Int) := by omega
            clear gX gy hxv hxv' hxk hcell
            go_wp2_with (at_builtin; refine wpList_append_lies _ rfl (.tmp 49) (.tmp 51) 61 rfl w.heap.size 49 i0 (.int .u64 0) 1 8 Try.underlying61 hi hz0 hz1 hz2 rfl (by decide) _ k _ rfl (hown.alloc _) ⟨wr.heap.size, 0, none⟩ 1 1 [.int .u64 yy] rfl rfl (one_new wr _ _) (by simp [Value.oneCell']) (by decide) (by unfold maxLen; omega) (by omega) (by simp; exact Nat.le_succ_of_le hB.out) (wr.heap.size + 1) (by simp) ?_; intro g cap' wz hown' hg' hgb hgl; have R1 : Hid (wz.ownsRow w.heap.size 49 1 (.slice (some ⟨g, 0, none⟩) (k + 1) cap') (k + 1) (ints .u64 (Dig.digN 18446744073709551616 Y (k + 1)))) := (by show wz.ownsRow _ _ _ _ _ _; rw [hN.out]; exact hown'); have R2 : Hid (Ext w wz) := ext_grown (a := w) (hx.alloc _) (hown.alloc _) hg'; clear hown' hg' hgb hgl hown)
            go_roundw
            case rel => exact ⟨k + 1, by omega, congrArg (fun z : Nat => Value.int .i64 (z : Int)) hi2.out.symm, R1.out, R2.out⟩
            case measure => simp [intOf]; omega
        · have hxv' : xs.getD i1 0 / 2 ^ s = Y / 18446744073709551616 ^ k % 18446744073709551616 := by
            rw [← hxv, hi1]
            obtain rfl : s = 0 := by omega
            rw [Nat.pow_zero, Nat.mod_one, Nat.zero_mul, Nat.add_zero]
          obtain ⟨X, gX, gX', gX''⟩ : ∃ X : Int, ((xs.getD i1 0 : Nat) : Int) = X ∧ 0 ≤ X ∧ X < 18446744073709551616 := ⟨_, rfl, by omega, by omega⟩
          obtain ⟨yy, gy⟩ : ∃ yy : Int, ((Y / 18446744073709551616 ^ k % 18446744073709551616 : Nat) : Int) = yy := ⟨_, rfl⟩
          rw [gX] at hcx
          have y2 : X / 2 ^ s = yy := by
            rw [← gy, ← hxv', ← gX]; simp
          have hN : Hid (ints .u64 (Dig.digN 18446744073709551616 Y (k + 1)) = ints .u64 (Dig.digN 18446744073709551616 Y k) ++ [.int .u64 yy]) := by
            show _ = _
            rw [Dig.digN_succ, ← gy]; simp [ints]
          have hs0' : ¬ (0 : Int) < (s : Int) := by omega
          clear gX gy hxv hxv' hxk hcell
          go_wp2_with (at_builtin; refine wpList_append_lies _ rfl (.tmp 49) (.tmp 51) 61 rfl w.heap.size 49 i0 (.int .u64 0) 1 8 Try.underlying61 hi hz0 hz1 hz2 rfl (by decide) _ k _ rfl (hown.alloc _) ⟨wr.heap.size, 0, none⟩ 1 1 [.int .u64 yy] rfl rfl (one_new wr _ _) (by simp [Value.oneCell']) (by decide) (by unfold maxLen; omega) (by omega) (by simp; exact Nat.le_succ_of_le hB.out) (wr.heap.size + 1) (by simp) ?_; intro g cap' wz hown' hg' hgb hgl; have R1 : Hid (wz.ownsRow w.heap.size 49 1 (.slice (some ⟨g, 0, none⟩) (k + 1) cap') (k + 1) (ints .u64 (Dig.digN 18446744073709551616 Y (k + 1)))) := (by show wz.ownsRow _ _ _ _ _ _; rw [hN.out]; exact hown'); have R2 : Hid (Ext w wz) := ext_grown (a := w) (hx.alloc _) (hown.alloc _) hg'; clear hown' hg' hgb hgl hown)
          go_roundw
          case rel => exact ⟨k + 1, by omega, congrArg (fun z : Nat => Value.int .i64 (z : Int)) hi2.out.symm, R1.out, R2.out⟩
          case measure => simp [intOf]; omega
      · obtain ⟨i1, hi1, hi2⟩ : ∃ i1 : Nat, q + k = i1 ∧ Hid (xs.length - q = k) := ⟨_, rfl, by show _ = _; omega⟩
        rw [hi1] at hlt ⊢
        have hlt' : ¬ (i1 : Int) < (xs.length : Int) := by omega
        have hrow := row_of_own hown
        rw [hi2.out] at HD
        clear hown
        go_wp2_with fail
        refine (HD.out _ _ hrow).mono ?_
        rintro e w4 ⟨⟨v3, rfl, hr3⟩, rfl⟩
        clear hrow
        go_wp2_with fail
        go_ret
        exact ⟨⟨_, rfl, hr3⟩, hx⟩
end Go.Proofs.Ytbmocnigmpmfkaa
