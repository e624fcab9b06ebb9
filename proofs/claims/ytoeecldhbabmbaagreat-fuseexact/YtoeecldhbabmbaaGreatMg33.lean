/- The reference's whole numbers: Down2. The reference's whole numbers: short. Plain numbers: the division bit by bit. -/
import Derived.Test.YtoeecldhbabmbaaGreatMg32
open Go.Value renaming int → J
open Go.IntKind renaming i64 → zq, u64 → zu
namespace Go.Proofs.YtoeecldhbabmbaaGreat
open Go.RowKit
theorem shr_limb (x y s : Nat) (hx : x < 18446744073709551616) (hs : 0 < s) (hs2 : s ≤ 63) :
    bits BinOp.or IntKind.u64 ((x / 2 ^ s : Nat) : Int) (IntKind.u64.wrap ((y : Int) * 2 ^ (64 - s))) = ((x / 2 ^ s + y % 2 ^ s * 2 ^ (64 - s) : Nat) : Int) := by
  have hp : 0 < 2 ^ s := Nat.pow_pos (by omega)
  have e64 : 2 ^ s * 2 ^ (64 - s) = 18446744073709551616 := by rw [← Nat.pow_add, show s + (64 - s) = 64 by omega]
  have e1 : y * 2 ^ (64 - s) % 18446744073709551616 = (y % 2 ^ s) * 2 ^ (64 - s) := by rw [← e64, Nat.mul_mod_mul_right]
  have h1 : x / 2 ^ s < 2 ^ (64 - s) := by rw [Nat.div_lt_iff_lt_mul hp, Nat.mul_comm, e64]; exact hx
  have h2 : (y % 2 ^ s) * 2 ^ (64 - s) < 18446744073709551616 := by rw [← e1]; exact Nat.mod_lt _ (by omega)
  have h3 : x / 2 ^ s < 18446744073709551616 := Nat.lt_of_le_of_lt (Nat.div_le_self _ _) hx
  rw [Num.cast_shl, Num.wrapMod, e1, bits_or_u64_nat _ _ h3 h2]
  congr 1
  rw [Nat.or_comm, Nat.mul_comm, ← Nat.two_pow_add_eq_or_of_lt h1, Nat.add_comm]
set_option maxHeartbeats 4000000 in
theorem down2_any (m n : Nat) (v : Value) (w : World) (h1 : IsN w v m) (s1 : Small m) (hn : n ≤ 100000) :
    Calls Tryz.prog 161 #[v, J zq (n : Int)] w fun e w' => (∃ v', e = .returned v' ∧ IsN w' v' (m / 2 ^ n)) ∧ Ext w w' := by
  have ok1 := Dig.okd 18446744073709551616 m (by omega)
  have S1 : (Dig.digs 18446744073709551616 m).length ≤ 1000 := s1.1
  have T1 : Dig.blen m ≤ 64000 := Dig.blen_bound m 1000 S1
  have HL : Hid (∀ w', Ext w w' → Calls Tryz.prog 163 #[v] w' fun e w'' => e = .returned (J zq (Dig.blen m : Int)) ∧ w'' = w') := fun w' hx => nlen_any m v w' (h1.ext hx) s1
  by_cases hbig : Dig.blen m ≤ n
  · have e0 : Hid (m / 2 ^ n = 0) := Nat.div_eq_of_lt (Nat.lt_of_lt_of_le (Dig.lt_blen m) (Nat.pow_le_pow_right (by omega) hbig))
    have hb : (Dig.blen m : Int) ≤ (n : Int) := by omega
    clear h1 s1 ok1 S1
    generalize Dig.blen m = T at *
    go_enter Tryz.func161, Tryz.ntmps161
    go_wp2_with fail
    refine (HL.out _ (Ext.refl _)).mono ?_
    rintro e wx ⟨rfl, hwx⟩
    have hwy := hwx.symm
    clear hwx
    subst hwy
    go_wp2_with fail
    go_ret
    refine ⟨⟨_, rfl, .inl ⟨rfl, ?_⟩⟩, Ext.refl _⟩
    rw [e0.out]; rfl
  · have hb : ¬ (Dig.blen m : Int) ≤ (n : Int) := by omega
    obtain ⟨q, s, hq, hs, hs63, hqn, hH⟩ : ∃ q s : Nat, (n : Int) / 64 = (q : Int) ∧ (n : Int) % 64 = (s : Int) ∧ s ≤ 63 ∧ q ≤ 2000 ∧ Hid (n = 64 * q + s) := ⟨n / 64, n % 64, by omega, by omega, by omega, by omega, by show _ = _; omega⟩
    have hlt0 := Dig.val_lt 18446744073709551616 _ (Dig.okd 18446744073709551616 m (by omega))
    rw [Dig.vald 18446744073709551616 m (by omega)] at hlt0
    have hqL : q ≤ (Dig.digs 18446744073709551616 m).length := by
      have := Dig.blen_bound m _ (Nat.le_refl _)
      have := hH.out
      omega
    obtain ⟨Y, hY⟩ : ∃ Y, Hid (m / 18446744073709551616 ^ q / 2 ^ s = Y) := ⟨_, rfl⟩
    have HD : Hid (∀ v w, Row .u64 w v (Dig.digN 18446744073709551616 Y ((Dig.digs 18446744073709551616 m).length - q)) → Calls Tryz.prog 96 #[v] w fun e w' => (∃ v', e = .returned v' ∧ IsN w v' (m / 2 ^ n)) ∧ w' = w) := by
      intro v w hrow
      have h := ntrim_any _ v w hrow (Dig.digN_ok _ _ _ (by omega))
      rw [Dig.digN_done _ _ _ (by rw [← hY.out]; exact Dig.down_lt m q s _ hlt0 hqL), ← hY.out, Dig.down_eq, ← hH.out] at h
      exact h
    have HX : Hid (∀ k, (Dig.digs 18446744073709551616 m).getD (q + k) 0 / 2 ^ s + (Dig.digs 18446744073709551616 m).getD (q + k + 1) 0 % 2 ^ s * 2 ^ (64 - s) = Y / 18446744073709551616 ^ k % 18446744073709551616) := by
      intro k
      rw [Dig.digs_getD _ (by omega), Dig.digs_getD _ (by omega), Dig.down_limb m s (q + k) hs63, ← hY.out]
      congr 1
      rw [Nat.pow_add, Nat.div_div_eq_div_mul, Nat.div_div_eq_div_mul, Nat.div_div_eq_div_mul]
      congr 1
      rw [Nat.mul_assoc, Nat.mul_comm (18446744073709551616 ^ k)]
    unfold IsN at h1
    clear s1 hlt0
    obtain ⟨i0, hi, hz0, hz1, hz2⟩ := info_parts Tryz.info64
    generalize Dig.blen m = T at *
    generalize Dig.digs 18446744073709551616 m = xs at *
    obtain ⟨ax, cx, rfl, gx⟩ := h1.shape
    have GX : Hid _ := gx
    clear gx h1
    go_enter Tryz.func161, Tryz.ntmps161
    go_wp2_with fail
    refine (HL.out _ (Ext.refl _)).mono ?_
    rintro e wx ⟨rfl, hwx⟩
    have hwy := hwx.symm
    clear hwx
    subst hwy
    go_wp2_with fail
    clear hq hs HL
    go_loopw [6, 7] (fun l i wr => ∃ (k : Nat), q + k ≤ xs.length ∧ i = J zq ((q + k : Nat) : Int) ∧ wr.ownsRow w.heap.size 90 1 l k (ints .u64 (Dig.digN 18446744073709551616 Y k)) ∧ Ext w wr) (fun _ i _ => xs.length - (intOf i).toNat)
    case atStart => exact ⟨0, by omega, rfl, World.ownsRow_nil _ _ _ _, Ext.refl _⟩
    case round =>
      obtain ⟨k, hk, rfl, hown, hx⟩ := hrel
      have hB : Hid (w.heap.size ≤ wr.heap.size) := hx.size
      by_cases hlt : q + k < xs.length
      · obtain ⟨b, o, rfl, hcell⟩ := GX.out (by omega)
        have hcx := (hx.lay).1 b (o + (q + k)) (cell_lt (hcell (q + k) hlt))
        rw [hcell (q + k) hlt] at hcx
        have hxk := ok1 (q + k)
        have hxv := HX.out k
        have hlt' : ((q + k : Nat) : Int) < (xs.length : Int) := by omega
        obtain ⟨i1, hi1, hi2⟩ : ∃ i1 : Nat, q + k = i1 ∧ Hid (q + (k + 1) = i1 + 1) := ⟨_, rfl, rfl⟩
        rw [hi1] at hcx hxk hlt' hlt ⊢
        by_cases hs0 : 0 < s
        · by_cases hi3 : i1 + 1 < xs.length
          · have hcy := (hx.lay).1 b (o + (i1 + 1)) (cell_lt (hcell (i1 + 1) hi3))
            rw [hcell (i1 + 1) hi3] at hcy
            have y1 := shr_limb (xs.getD i1 0) (xs.getD (i1 + 1) 0) s hxk hs0 hs63
            have hxv' : xs.getD i1 0 / 2 ^ s + xs.getD (i1 + 1) 0 % 2 ^ s * 2 ^ (64 - s) = Y / 18446744073709551616 ^ k % 18446744073709551616 := by rw [← hi1]; exact hxv
            rw [hxv'] at y1
            obtain ⟨X, gX, gX', gX''⟩ : ∃ X : Int, ((xs.getD i1 0 : Nat) : Int) = X ∧ 0 ≤ X ∧ X < 18446744073709551616 := ⟨_, rfl, by omega, by omega⟩
            obtain ⟨W, gW⟩ : ∃ X : Int, ((xs.getD (i1 + 1) 0 : Nat) : Int) = X := ⟨_, rfl⟩
            obtain ⟨yy, gy⟩ : ∃ yy : Int, ((Y / 18446744073709551616 ^ k % 18446744073709551616 : Nat) : Int) = yy := ⟨_, rfl⟩
            rw [gX] at hcx
            rw [gW] at hcy y1
            rw [gy] at y1
            have y2 : bits BinOp.or IntKind.u64 (X / 2 ^ s) (IntKind.u64.wrap (W * 2 ^ (64 - s))) = yy := by
              rw [← y1, ← gX]; simp
            have hN : Hid (ints .u64 (Dig.digN 18446744073709551616 Y (k + 1)) = ints .u64 (Dig.digN 18446744073709551616 Y k) ++ [J zu yy]) := by
              show _ = _
              rw [Dig.digN_succ, ← gy]; simp [ints]
            have hs0' : (0 : Int) < (s : Int) := by omega
            have hi3' : (i1 : Int) + 1 < (xs.length : Int) := by omega
            clear y1 gX gW gy hxv hxv' hxk hcell
            go_wp2_with (at_builtin; refine wpList_append_lies _ rfl (.tmp 49) (.tmp 51) 48 rfl w.heap.size 90 i0 (J zu 0) 1 8 Tryz.underlying48 hi hz0 hz1 hz2 rfl (by decide) _ k _ rfl (hown.alloc _) ⟨wr.heap.size, 0, none⟩ 1 1 [J zu yy] rfl rfl (one_new wr _ _) (by simp [Value.oneCell']) (by decide) (by unfold maxLen; omega) (by omega) (by simp; exact Nat.le_succ_of_le hB.out) (wr.heap.size + 1) (by simp) ?_; intro g cap' wz hown' hg' hgb hgl; have R1 : Hid (wz.ownsRow w.heap.size 90 1 (.slice (some ⟨g, 0, none⟩) (k + 1) cap') (k + 1) (ints .u64 (Dig.digN 18446744073709551616 Y (k + 1)))) := (by show wz.ownsRow _ _ _ _ _ _; rw [hN.out]; exact hown'); have R2 : Hid (Ext w wz) := ext_grown (a := w) (hx.alloc _) (hown.alloc _) hg'; clear hown' hg' hgb hgl hown)
            go_roundw
            case rel => exact ⟨k + 1, by omega, congrArg (fun z : Nat => J zq (z : Int)) hi2.out.symm, R1.out, R2.out⟩
            case measure => simp [intOf]; omega
          · have hxv' : xs.getD i1 0 / 2 ^ s = Y / 18446744073709551616 ^ k % 18446744073709551616 := by
              rw [← hxv, hi1]
              have : xs.getD (i1 + 1) 0 = 0 := by rw [List.getD_eq_getElem?_getD, List.getElem?_eq_none (by omega)]; rfl
              rw [this, Nat.zero_mod, Nat.zero_mul, Nat.add_zero]
            obtain ⟨X, gX, gX', gX''⟩ : ∃ X : Int, ((xs.getD i1 0 : Nat) : Int) = X ∧ 0 ≤ X ∧ X < 18446744073709551616 := ⟨_, rfl, by omega, by omega⟩
            obtain ⟨yy, gy⟩ : ∃ yy : Int, ((Y / 18446744073709551616 ^ k % 18446744073709551616 : Nat) : Int) = yy := ⟨_, rfl⟩
            rw [gX] at hcx
            have y2 : X / 2 ^ s = yy := by
              rw [← gy, ← hxv', ← gX]; simp
            have hN : Hid (ints .u64 (Dig.digN 18446744073709551616 Y (k + 1)) = ints .u64 (Dig.digN 18446744073709551616 Y k) ++ [J zu yy]) := by
              show _ = _
              rw [Dig.digN_succ, ← gy]; simp [ints]
            have hs0' : (0 : Int) < (s : Int) := by omega
            have hi3' : ¬ (i1 : Int) + 1 < (xs.length : Int) := by omega
            clear gX gy hxv hxv' hxk hcell
            go_wp2_with (at_builtin; refine wpList_append_lies _ rfl (.tmp 49) (.tmp 51) 48 rfl w.heap.size 90 i0 (J zu 0) 1 8 Tryz.underlying48 hi hz0 hz1 hz2 rfl (by decide) _ k _ rfl (hown.alloc _) ⟨wr.heap.size, 0, none⟩ 1 1 [J zu yy] rfl rfl (one_new wr _ _) (by simp [Value.oneCell']) (by decide) (by unfold maxLen; omega) (by omega) (by simp; exact Nat.le_succ_of_le hB.out) (wr.heap.size + 1) (by simp) ?_; intro g cap' wz hown' hg' hgb hgl; have R1 : Hid (wz.ownsRow w.heap.size 90 1 (.slice (some ⟨g, 0, none⟩) (k + 1) cap') (k + 1) (ints .u64 (Dig.digN 18446744073709551616 Y (k + 1)))) := (by show wz.ownsRow _ _ _ _ _ _; rw [hN.out]; exact hown'); have R2 : Hid (Ext w wz) := ext_grown (a := w) (hx.alloc _) (hown.alloc _) hg'; clear hown' hg' hgb hgl hown)
            go_roundw
            case rel => exact ⟨k + 1, by omega, congrArg (fun z : Nat => J zq (z : Int)) hi2.out.symm, R1.out, R2.out⟩
            case measure => simp [intOf]; omega
        · have hxv' : xs.getD i1 0 / 2 ^ s = Y / 18446744073709551616 ^ k % 18446744073709551616 := by
            rw [← hxv, hi1]
            obtain rfl : s = 0 := by omega
            rw [Nat.pow_zero, Nat.mod_one, Nat.zero_mul, Nat.add_zero]
          obtain ⟨X, gX, gX', gX''⟩ : ∃ X : Int, ((xs.getD i1 0 : Nat) : Int) = X ∧ 0 ≤ X ∧ X < 18446744073709551616 := ⟨_, rfl, by omega, by omega⟩
          obtain ⟨yy, gy⟩ : ∃ yy : Int, ((Y / 18446744073709551616 ^ k % 18446744073709551616 : Nat) : Int) = yy := ⟨_, rfl⟩
          rw [gX] at hcx
          have y2 : X / 2 ^ s = yy := by
            rw [← gy, ← hxv', ← gX]; simp
          have hN : Hid (ints .u64 (Dig.digN 18446744073709551616 Y (k + 1)) = ints .u64 (Dig.digN 18446744073709551616 Y k) ++ [J zu yy]) := by
            show _ = _
            rw [Dig.digN_succ, ← gy]; simp [ints]
          have hs0' : ¬ (0 : Int) < (s : Int) := by omega
          clear gX gy hxv hxv' hxk hcell
          go_wp2_with (at_builtin; refine wpList_append_lies _ rfl (.tmp 49) (.tmp 51) 48 rfl w.heap.size 90 i0 (J zu 0) 1 8 Tryz.underlying48 hi hz0 hz1 hz2 rfl (by decide) _ k _ rfl (hown.alloc _) ⟨wr.heap.size, 0, none⟩ 1 1 [J zu yy] rfl rfl (one_new wr _ _) (by simp [Value.oneCell']) (by decide) (by unfold maxLen; omega) (by omega) (by simp; exact Nat.le_succ_of_le hB.out) (wr.heap.size + 1) (by simp) ?_; intro g cap' wz hown' hg' hgb hgl; have R1 : Hid (wz.ownsRow w.heap.size 90 1 (.slice (some ⟨g, 0, none⟩) (k + 1) cap') (k + 1) (ints .u64 (Dig.digN 18446744073709551616 Y (k + 1)))) := (by show wz.ownsRow _ _ _ _ _ _; rw [hN.out]; exact hown'); have R2 : Hid (Ext w wz) := ext_grown (a := w) (hx.alloc _) (hown.alloc _) hg'; clear hown' hg' hgb hgl hown)
          go_roundw
          case rel => exact ⟨k + 1, by omega, congrArg (fun z : Nat => J zq (z : Int)) hi2.out.symm, R1.out, R2.out⟩
          case measure => simp [intOf]; omega
      · obtain ⟨i1, hi1, hi2⟩ : ∃ i1 : Nat, q + k = i1 ∧ Hid (xs.length - q = k) := ⟨_, rfl, by show _ = _; omega⟩
        rw [hi1] at hlt ⊢
        have hlt' : ¬ (i1 : Int) < (xs.length : Int) := by omega
        have hrow := row_of_own hown
        rw [hi2.out] at HD
        clear hown
        go_wp2_with fail
        refine (HD.out _ _ hrow).mono ?_
        rintro e w4 ⟨⟨v3, rfl, hr3⟩, rfl⟩
        clear hrow
        go_wp2_with fail
        go_ret
        exact ⟨⟨_, rfl, hr3⟩, hx⟩
set_option maxHeartbeats 2000000 in
theorem short_any (m d : Nat) (v : Value) (w : World) (hr : Row .u32 w v (Dig.digs 4294967296 m)) (hs : (Dig.digs 4294967296 m).length ≤ 2000) (hd : 0 < d) (hd2 : d < 4294967296) :
    Calls Tryz.prog 162 #[v, .int .u32 (d : Int)] w fun e w' => (∃ v', e = .returned (.tuple #[v', .int .u32 ((m % d : Nat) : Int)]) ∧ Row .u32 w' v' (Dig.digs 4294967296 (m / d))) ∧ Ext w w' := by
  have hX : Hid (∀ t, (Dig.digs 4294967296 m).getD t 0 = m / 4294967296 ^ t % 4294967296) := fun t => Dig.digs_getD _ (by omega) t m
  have hlt : Hid (m < 4294967296 ^ (Dig.digs 4294967296 m).length) := by
    have := Dig.val_lt 4294967296 _ (Dig.okd 4294967296 m (by omega))
    rw [Dig.vald 4294967296 m (by omega)] at this
    exact this
  generalize Dig.digs 4294967296 m = xs at hr hs hX hlt
  obtain ⟨L, hL⟩ : ∃ L : Nat, Hid (xs.length = L) := ⟨_, rfl⟩
  have HC : Hid (∀ v w F, (∀ j, j < L → F j = m / d / 4294967296 ^ j % 4294967296) → Row .u32 w v ((List.range L).map F) → Calls Tryz.prog 124 #[v] w fun e w' => (∃ v', e = .returned v' ∧ Row .u32 w v' (Dig.digs 4294967296 (m / d))) ∧ w' = w) := by
    intro v w F hF hr
    have e : (List.range L).map F = Dig.digN 4294967296 (m / d) L := by
      unfold Dig.digN
      apply List.map_congr_left
      intro j hj
      exact hF j (List.mem_range.1 hj)
    rw [e] at hr
    have h := cut_any _ v w hr (Dig.digN_ok _ _ _ (by omega))
    rw [Dig.digN_done _ _ _ (by
      have := hlt.out
      rw [hL.out] at this
      exact Nat.lt_of_le_of_lt (Nat.div_le_self _ _) this)] at h
    exact h
  have R0 : Hid (m / 4294967296 ^ xs.length % d = 0) := by
    show _ = _
    rw [Nat.div_eq_of_lt hlt.out, Nat.zero_mod]
  have R1 : Hid (m / 4294967296 ^ 0 % d = m % d) := by show _ = _; rw [Nat.pow_zero, Nat.div_one]
  obtain ⟨ax, cx, rfl, gx⟩ := hr.shape
  rw [hL.out] at R0
  have GX : Hid _ := gx
  rw [hL.out] at hs ⊢
  have hmk := run_make_row' (P := Tryz.prog) 162 164 (.int .u32 0) 4 Tryz.underlying162 Tryz.info32 rfl .i64 .i64 L (by omega) (by omega)
  obtain ⟨D, gD, gD1, gD2⟩ : ∃ D : Int, (d : Int) = D ∧ 0 < D ∧ D < 4294967296 := ⟨_, rfl, by omega, by omega⟩
  have hD0 : (D == 0) = false := by simp; omega
  rw [gD]
  have ST : Hid (∀ t, (m / 4294967296 ^ (t + 1) % d * 4294967296 + m / 4294967296 ^ t % 4294967296) / d = m / d / 4294967296 ^ t % 4294967296 ∧ (m / 4294967296 ^ (t + 1) % d * 4294967296 + m / 4294967296 ^ t % 4294967296) % d = m / 4294967296 ^ t % d) := fun t => Dig.short_step m d t hd
  have RL : Hid (∀ t, m / 4294967296 ^ t % d < d) := fun t => Nat.mod_lt _ hd
  clear hr gx hlt
  go_enter Tryz.func162, Tryz.ntmps162
  go_wp2_with fail
  clear hmk
  go_loopw [7, 8] (fun r i wr => ∃ (t R : Nat) (F : Nat → Nat), t ≤ L ∧ i = J zq ((t : Int) - 1) ∧ r = J zu (R : Int) ∧ Hid (R = m / 4294967296 ^ t % d) ∧ Hid (∀ j, t ≤ j → j < L → F j = m / d / 4294967296 ^ j % 4294967296) ∧ wr.rowIs w.heap.size 164 L (f32 F) ∧ Ext w wr) (fun _ i _ => ((intOf i) + 1).toNat)
  case atStart => exact ⟨L, 0, fun _ => 0, Nat.le_refl _, rfl, rfl, R0.out.symm, fun j h1 h2 => by omega, World.rowIs_made _ _ _ _, (Ext.refl _).alloc _⟩
  case round =>
    obtain ⟨t, R, F, ht, rfl, rfl, hR, hF, hrow, hx⟩ := hrel
    cases t with
    | zero =>
      have hrw := row_of_is hrow (by omega)
      have HF : Hid (∀ j, j < L → F j = m / d / 4294967296 ^ j % 4294967296) := fun j hj => hF.out j (by omega) hj
      have hRl := RL.out 0
      rw [← hR.out] at hRl
      obtain ⟨r0, gr, gr1, gr2, gr3⟩ : ∃ r : Int, (R : Int) = r ∧ Hid (r = ((m % d : Nat) : Int)) ∧ 0 ≤ r ∧ r < 4294967296 := ⟨_, rfl, by show _ = _; rw [hR.out, R1.out], by omega, by omega⟩
      rw [gr]
      clear hR hF hrow gr hRl
      go_wp2_with fail
      refine (HC.out _ _ F HF.out hrw).mono ?_
      rintro e w4 ⟨⟨v3, rfl, hr3⟩, hw4⟩
      have hw4' := hw4.symm
      clear hw4
      subst hw4'
      clear hrw
      go_wp2_with fail
      go_ret2
      exact ⟨⟨_, by rw [← gr1.out]; rfl, hr3⟩, hx⟩
    | succ t =>
      obtain ⟨bx, ox, rfl, cx'⟩ := GX.out (by have := hL.out; omega)
      have hcx := (hx.lay).1 bx (ox + t) (cell_lt (cx' t (by have := hL.out; omega)))
      rw [cx' t (by have := hL.out; omega)] at hcx
      have et : ((t + 1 : Nat) : Int) - 1 = (t : Int) := by omega
      rw [et]
      have hXt := hX.out t
      rw [hXt] at hcx
      have hRl := RL.out (t + 1)
      rw [← hR.out] at hRl
      have hst := ST.out t
      rw [← hR.out] at hst
      have hxl : m / 4294967296 ^ t % 4294967296 < 4294967296 := Nat.mod_lt _ (by omega)
      obtain ⟨x, hxx⟩ : ∃ x : Nat, m / 4294967296 ^ t % 4294967296 = x := ⟨_, rfl⟩
      rw [hxx] at hcx hst hxl
      obtain ⟨X, gX, gX1, gX2⟩ : ∃ X : Int, (x : Int) = X ∧ 0 ≤ X ∧ X < 4294967296 := ⟨_, rfl, by omega, by omega⟩
      obtain ⟨r0, gr, gr1, gr2⟩ : ∃ r : Int, (R : Int) = r ∧ 0 ≤ r ∧ r < 4294967296 := ⟨_, rfl, by omega, by omega⟩
      have hor : bits BinOp.or IntKind.u64 (r0 * 4294967296) X = r0 * 4294967296 + X := by
        rw [← gr, ← gX]
        have := Num.or_shift R x 32 (by omega) (by simpa using hxl) (by simp; omega)
        simpa using this
      obtain ⟨S, gS, gS1, gS2⟩ : ∃ S : Int, r0 * 4294967296 + X = S ∧ 0 ≤ S ∧ S < 18446744073709551616 := ⟨_, rfl, by omega, by omega⟩
      rw [gS] at hor
      rw [gX] at hcx
      rw [gr]
      have htL : (t : Int) < (L : Int) := by omega
      have hcl := hrow.cell (show t < L by omega)
      have hfr := hrow.frozen t
      obtain ⟨Z, eZ, fZ⟩ : ∃ Z : Int, S / D % 4294967296 = Z ∧ Hid (Z = ((m / d / 4294967296 ^ t % 4294967296 : Nat) : Int)) := ⟨_, rfl, by
        show _ = _
        rw [← hst.1, ← gS, ← gr, ← gX, ← gD]
        have h1 : (R * 4294967296 + x) / d < 4294967296 := by rw [hst.1]; exact Nat.mod_lt _ (by omega)
        have e1 : (((R * 4294967296 + x) / d : Nat) : Int) = ((R : Int) * 4294967296 + (x : Int)) / (d : Int) := by simp
        rw [← e1]
        omega⟩
      obtain ⟨M, eM, fM⟩ : ∃ M : Int, S % D = M ∧ Hid (M = ((m / 4294967296 ^ t % d : Nat) : Int)) := ⟨_, rfl, by
        show _ = _
        rw [← hst.2, ← gS, ← gr, ← gX, ← gD]
        simp⟩
      have HR : Hid ((wr.setCell ⟨w.heap.size, t, none⟩ (.int .u32 Z)).rowIs w.heap.size 164 L (f32 (Dig.upd F t (m / d / 4294967296 ^ t % 4294967296)))) := by
        rw [fZ.out]
        exact is_upd hrow _ _
      have HX : Hid (Ext w (wr.setCell ⟨w.heap.size, t, none⟩ (.int .u32 Z))) := hx.setCell (Nat.le_refl _) _
      have HF : Hid (∀ j, t ≤ j → j < L → Dig.upd F t (m / d / 4294967296 ^ t % 4294967296) j = m / d / 4294967296 ^ j % 4294967296) := by
        intro j h1 h2
        unfold Dig.upd
        split
        · rename_i e; rw [e]
        · exact hF.out j (by omega) h2
      clear hXt hxx hX cx' et hst gS gr gX gD hF hR hrow
      go_wp2_with fail
      exact ⟨⟨t, _, _, by omega, rfl, congrArg (Value.int .u64) (eM.trans fM.out), rfl, HF, HR.out, HX.out⟩, by simp [intOf]⟩
end Go.Proofs.YtoeecldhbabmbaaGreat
namespace Go.Proofs.YtoeecldhbabmbaaGreat.Dig
theorem DRelQNum3.yes {m b L i Q r : Nat} {F : Nat → Nat} (h : DRelQNum3 m b L (i + 1) Q r F) (hr : b * 2 ^ i ≤ r) : DRelQNum3 m b L i (Q + 2 ^ i) (r - b * 2 ^ i) (upd F (i / 64) (F (i / 64) + 2 ^ (i % 64))) := by
  have hb := h.bit
  refine ⟨?_, ?_, ?_, ?_⟩
  · have := h.sum
    rw [Nat.mul_add]; omega
  · have := h.rest
    have e : b * 2 ^ (i + 1) = 2 * (b * 2 ^ i) := by rw [Nat.pow_succ, ← Nat.mul_assoc, Nat.mul_comm]
    omega
  · intro j
    unfold upd
    have h0 : ∀ j, 2 ^ i ∣ F j * 18446744073709551616 ^ j := fun j => Nat.dvd_trans (Nat.pow_dvd_pow 2 (by omega)) (h.low j)
    split
    · rename_i hj
      subst hj
      rw [Nat.add_mul]
      refine (Nat.dvd_add_right (h0 _)).2 ?_
      have e : (18446744073709551616 : Nat) = 2 ^ 64 := by decide
      rw [e, ← Nat.pow_mul, ← Nat.pow_add]
      exact Nat.pow_dvd_pow 2 (by omega)
    · exact h0 j
  · intro j
    unfold upd
    split
    · exact hb.2
    · exact h.dig j
theorem fval_yes (F : Nat → Nat) (L i Q : Nat) (hL : i / 64 < L) (hQ : fval 18446744073709551616 F L = Q) : fval 18446744073709551616 (upd F (i / 64) (F (i / 64) + 2 ^ (i % 64))) L = Q + 2 ^ i := by
  have h := fval_upd 18446744073709551616 F (i / 64) (F (i / 64) + 2 ^ (i % 64)) L hL
  rw [Nat.mul_add] at h
  have e : (18446744073709551616 : Nat) ^ (i / 64) * 2 ^ (i % 64) = 2 ^ i := by
    have e : (18446744073709551616 : Nat) = 2 ^ 64 := by decide
    rw [e, ← Nat.pow_mul, ← Nat.pow_add]; congr 1; omega
  rw [e, hQ] at h
  omega
theorem DRelQNum3.done {m b L Q r : Nat} {F : Nat → Nat} (h : DRelQNum3 m b L 0 Q r F) : Q = m / b ∧ r = m % b := by
  have h1 := h.sum
  have h2 := h.rest
  rw [Nat.pow_zero, Nat.mul_one] at h2
  have hb : 0 < b := by omega
  constructor
  · rw [h1, Nat.mul_add_div hb, Nat.div_eq_of_lt h2, Nat.add_zero]
  · rw [h1, Nat.mul_add_mod, Nat.mod_eq_of_lt h2]
end Go.Proofs.YtoeecldhbabmbaaGreat.Dig
