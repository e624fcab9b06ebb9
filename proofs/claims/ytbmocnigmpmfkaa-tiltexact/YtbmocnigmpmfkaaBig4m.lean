/- The reference's whole numbers: NPlus. -/
import Derived.Test.YtbmocnigmpmfkaaBig3m
namespace Go.Proofs.Ytbmocnigmpmfkaa
open Go.RowKit

/-- the number of v is n -/
def IsN (w : World) (v : Value) (n : Nat) : Prop := Row .u64 w v (Dig.digs 18446744073709551616 n)
theorem IsN.ext {w w' : World} {v : Value} {n : Nat} (h : IsN w v n) (hx : Ext w w') : IsN w' v n := Row.ext h hx

theorem Row.shape {k : IntKind} {w : World} {v : Value} {xs : List Nat} (h : Row k w v xs) : ∃ a cap, v = .slice a xs.length cap ∧ (0 < xs.length → ∃ b o, a = some ⟨b, o, none⟩ ∧ ∀ i, i < xs.length → w.cell? ⟨b, o + i, none⟩ = some (.int k (xs.getD i 0 : Nat))) := by
  rcases h with ⟨h1, h2⟩ | ⟨b, o, cap, h1, h2, h3, h4⟩
  · exact ⟨none, 0, by rw [h1, h2]; rfl, fun h => by rw [h2] at h; simp at h⟩
  · exact ⟨_, cap, h1, fun _ => ⟨b, o, rfl, h4⟩⟩

theorem plus_step (B k c x y X Y : Nat) (zs : List Nat) (hl : zs.length = k) (h : Dig.val B zs + B ^ k * c = X + Y) :
    Dig.val B (zs ++ [(c + x + y) % B]) + B ^ (k + 1) * ((c + x + y) / B) = X + B ^ k * x + (Y + B ^ k * y) := by
  rw [Dig.val_snoc, hl, Nat.pow_succ, Nat.mul_assoc]
  have e : B ^ k * ((c + x + y) % B) + B ^ k * (B * ((c + x + y) / B)) = B ^ k * c + B ^ k * x + B ^ k * y := by
    rw [← Nat.mul_add, Nat.mod_add_div, Nat.mul_add, Nat.mul_add]
  omega

def PRel (xs ys : List Nat) (k c : Nat) (zs : List Nat) : Prop :=
  zs.length = k ∧ Dig.Ok 4294967296 zs ∧ c ≤ 1 ∧ Dig.val 4294967296 zs + 4294967296 ^ k * c = Dig.val 4294967296 (xs.take k) + Dig.val 4294967296 (ys.take k)
theorem PRel.start (xs ys : List Nat) : PRel xs ys 0 0 [] := ⟨rfl, Dig.ok_nil (by omega), by omega, rfl⟩
theorem PRel.step {xs ys : List Nat} {k c : Nat} {zs : List Nat} (h : PRel xs ys k c zs) (hx : xs.getD k 0 < 4294967296) (hy : ys.getD k 0 < 4294967296) :
    PRel xs ys (k + 1) ((c + xs.getD k 0 + ys.getD k 0) / 4294967296) (zs ++ [(c + xs.getD k 0 + ys.getD k 0) % 4294967296]) := by
  obtain ⟨h1, h2, h3, h4⟩ := h
  refine ⟨by simp [h1], Dig.ok_snoc h2 (by omega), by omega, ?_⟩
  rw [Dig.val_take_succ, Dig.val_take_succ]
  exact plus_step 4294967296 k c _ _ _ _ zs h1 h4
theorem PRel.done {xs ys : List Nat} {k c : Nat} {zs : List Nat} (h : PRel xs ys k c zs) (hx : xs.length ≤ k) (hy : ys.length ≤ k) :
    Dig.Ok 4294967296 (zs ++ [c]) ∧ Dig.val 4294967296 (zs ++ [c]) = Dig.val 4294967296 xs + Dig.val 4294967296 ys := by
  obtain ⟨h1, h2, h3, h4⟩ := h
  refine ⟨Dig.ok_snoc h2 (by omega), ?_⟩
  rw [List.take_of_length_le hx, List.take_of_length_le hy] at h4
  rw [Dig.val_snoc, h1]
  exact h4

/-- cut, then whole -/
theorem cutwhole (zs : List Nat) (hok : Dig.Ok 4294967296 zs) (hl : zs.length ≤ 9000) (N : Nat) (hN : Dig.val 4294967296 zs = N) :
    (∀ v w, Row .u32 w v zs → Calls Try.prog 70 #[v] w fun e w' => (∃ v', e = .returned v' ∧ Row .u32 w v' (Dig.digs 4294967296 N)) ∧ w' = w) ∧
    (∀ v w, Row .u32 w v (Dig.digs 4294967296 N) → Calls Try.prog 67 #[v] w fun e w' => (∃ v', e = .returned v' ∧ IsN w' v' N) ∧ Ext w w') := by
  constructor
  · intro v w hr
    have h := cut_any zs v w hr hok
    rw [hN] at h
    exact h
  · intro v w hr
    have hlen : (Dig.digs 4294967296 N).length ≤ 9000 := by
      have h1 := Dig.val_lt 4294967296 zs hok
      rw [hN] at h1
      have := Dig.digs_length_le 4294967296 (by omega) N zs.length h1
      omega
    have h := whole_any _ v w hr (Dig.okd 4294967296 N (by omega)) (by omega)
    rw [Dig.vald 4294967296 N (by omega)] at h
    exact h

/-- numbers that are small enough for all that is done with them -/
def Small (n : Nat) : Prop := (Dig.digs 18446744073709551616 n).length ≤ 1000 ∧ (Dig.digs 4294967296 n).length ≤ 2000

set_option maxHeartbeats 4000000 in
theorem nplus_any (m n : Nat) (v1 v2 : Value) (w : World) (h1 : IsN w v1 m) (h2 : IsN w v2 n) (s1 : Small m) (s2 : Small n) :
    Calls Try.prog 51 #[v1, v2] w fun e w' => (∃ v', e = .returned v' ∧ IsN w' v' (m + n)) ∧ Ext w w' := by
  obtain ⟨i0, hi, hz0, hz1, hz2⟩ := info_parts Try.info32
  have ok1 := Dig.okd 4294967296 m (by omega)
  have ok2 := Dig.okd 4294967296 n (by omega)
  have V1 := Dig.vald 4294967296 m (by omega)
  have V2 := Dig.vald 4294967296 n (by omega)
  have H1 : Hid (∀ w', Ext w w' → Calls Try.prog 65 #[v1] w' fun e w'' => (∃ v', e = .returned v' ∧ Row .u32 w'' v' (Dig.digs 4294967296 m)) ∧ Ext w' w'') := fun w' hx => halves_any m v1 w' (h1.ext hx) s1.1
  have H2 : Hid (∀ w', Ext w w' → Calls Try.prog 65 #[v2] w' fun e w'' => (∃ v', e = .returned v' ∧ Row .u32 w'' v' (Dig.digs 4294967296 n)) ∧ Ext w' w'') := fun w' hx => halves_any n v2 w' (h2.ext hx) s2.1
  have S1 : (Dig.digs 4294967296 m).length ≤ 2000 := s1.2
  have S2 : (Dig.digs 4294967296 n).length ≤ 2000 := s2.2
  have HD : Hid (∀ k c zs, PRel (Dig.digs 4294967296 m) (Dig.digs 4294967296 n) k c zs → (Dig.digs 4294967296 m).length ≤ k → (Dig.digs 4294967296 n).length ≤ k → k ≤ 2000 → (∀ v w, Row .u32 w v (zs ++ [c]) → Calls Try.prog 70 #[v] w fun e w' => (∃ v', e = .returned v' ∧ Row .u32 w v' (Dig.digs 4294967296 (m + n))) ∧ w' = w) ∧
    (∀ v w, Row .u32 w v (Dig.digs 4294967296 (m + n)) → Calls Try.prog 67 #[v] w fun e w' => (∃ v', e = .returned v' ∧ IsN w' v' (m + n)) ∧ Ext w w')) := by
    intro k c zs hr hx hy hk
    obtain ⟨d1, d2⟩ := hr.done hx hy
    rw [V1, V2] at d2
    exact cutwhole _ d1 (by have := hr.1; simp; omega) _ d2
  clear h1 h2 s1 s2 V1 V2
  generalize Dig.digs 4294967296 m = xs at *
  generalize Dig.digs 4294967296 n = ys at *
  go_enter Try.func51, Try.ntmps51
  go_wp2_with fail
  refine (H1.out _ (Ext.refl _)).mono ?_
  rintro e w1 ⟨⟨x, rfl, hx⟩, x1⟩
  go_wp2_with fail
  refine (H2.out _ x1).mono ?_
  rintro e w2 ⟨⟨y, rfl, hy⟩, x2⟩
  have hx' := hx.ext x2
  have X2 : Hid (Ext w w2) := x1.trans x2
  obtain ⟨ax, cx, rfl, gx⟩ := hx'.shape
  obtain ⟨ay, cy, rfl, gy⟩ := hy.shape
  have GX : Hid _ := gx
  have GY : Hid _ := gy
  clear hx hy hx' x1 x2 H1 H2 gx gy
  go_wp2_with fail
  go_loopw [7, 8, 9] (fun l c i wr => ∃ (k C : Nat) (zs : List Nat), k ≤ 2000 ∧ i = .int .i64 (k : Int) ∧ c = .int .u64 (C : Int) ∧ PRel xs ys k C zs ∧ wr.ownsRow w2.heap.size 104 1 l k (ints .u32 zs) ∧ Ext w2 wr) (fun _ _ i _ => 2001 - (intOf i).toNat)
  case atStart => exact ⟨0, 0, [], by omega, rfl, rfl, PRel.start _ _, World.ownsRow_nil _ _ _ _, Ext.refl _⟩
  case round =>
    obtain ⟨k, C, zs, hk, rfl, rfl, hP, hown, hx⟩ := hrel
    have hB : Hid (w2.heap.size ≤ wr.heap.size) := hx.size
    have hC := hP.2.2.1
    obtain ⟨c0, gc, gc', gc''⟩ : ∃ c : Int, (C : Int) = c ∧ 0 ≤ c ∧ c ≤ 1 := ⟨_, rfl, by omega, by omega⟩
    rw [gc]
    by_cases hlx : k < xs.length
    · obtain ⟨blx, ofx, rfl, cellsx⟩ := GX.out (by omega)
      have hcx := (hx.lay).1 blx (ofx + k) (cell_lt (cellsx k hlx))
      rw [cellsx k hlx] at hcx
      have hxk := ok1 k
      have hlx' : (k : Int) < (xs.length : Int) := by omega
      obtain ⟨X, gx, gx', gx''⟩ : ∃ X : Int, ((xs.getD k 0 : Nat) : Int) = X ∧ 0 ≤ X ∧ X < 4294967296 := ⟨_, rfl, by omega, by omega⟩
      rw [gx] at hcx
      by_cases hly : k < ys.length
      · obtain ⟨bly, ofy, rfl, cellsy⟩ := GY.out (by omega)
        have hcy := (hx.lay).1 bly (ofy + k) (cell_lt (cellsy k hly))
        rw [cellsy k hly] at hcy
        have hyk := ok2 k
        have hly' : (k : Int) < (ys.length : Int) := by omega
        obtain ⟨Y, gy, gy', gy''⟩ : ∃ X : Int, ((ys.getD k 0 : Nat) : Int) = X ∧ 0 ≤ X ∧ X < 4294967296 := ⟨_, rfl, by omega, by omega⟩
        rw [gy] at hcy
        have hs := hP.step (ok1 k) (ok2 k)
        obtain ⟨Z, eZ, fZ⟩ : ∃ Z : Int, IntKind.u32.wrap (c0 + X + Y) = Z ∧ Hid (Z = (((C + xs.getD k 0 + ys.getD k 0) % 4294967296 : Nat) : Int)) := ⟨_, rfl, by show _ = _; rw [IntKind.wrap_u32]; omega⟩
        obtain ⟨D, eD, fD⟩ : ∃ D : Int, (c0 + X + Y) / 4294967296 = D ∧ Hid ((((C + xs.getD k 0 + ys.getD k 0) / 4294967296 : Nat) : Int) = D) := ⟨_, rfl, by show _ = _; omega⟩
        have hN : Hid (ints .u32 (zs ++ [(C + xs.getD k 0 + ys.getD k 0) % 4294967296]) = ints .u32 zs ++ [.int .u32 Z]) := by
          show _ = _
          rw [fZ.out]; simp [ints]
        have HS : Hid _ := hs
        clear hs hP fZ gc gx gy hxk hyk
        go_wp2_with (at_builtin; refine wpList_append_lies _ rfl (.tmp 48) (.tmp 51) 102 rfl w2.heap.size 104 i0 (.int .u32 0) 1 4 Try.underlying102 hi hz0 hz1 hz2 rfl (by decide) _ k _ rfl (hown.alloc _) ⟨wr.heap.size, 0, none⟩ 1 1 [.int .u32 Z] rfl rfl (one_new wr _ _) (by simp [Value.oneCell']) (by decide) (by unfold maxLen; omega) (by omega) (by simp; exact Nat.le_succ_of_le hB.out) (wr.heap.size + 1) (by simp) ?_; intro g cap' wz hown' hg' hgb hgl; have R1 : Hid (wz.ownsRow w2.heap.size 104 1 (.slice (some ⟨g, 0, none⟩) (k + 1) cap') (k + 1) (ints .u32 (zs ++ [(C + xs.getD k 0 + ys.getD k 0) % 4294967296]))) := (by show wz.ownsRow _ _ _ _ _ _; rw [hN.out]; exact hown'); have R2 : Hid (Ext w2 wz) := ext_grown (a := w2) (hx.alloc _) (hown.alloc _) hg'; clear hown' hg' hgb hgl hown)
        go_roundw
        case rel => exact ⟨k + 1, _, _, by omega, by go_num, congrArg (Value.int .u64) fD.out.symm, HS.out, R1.out, R2.out⟩
        case measure => simp [intOf]; omega
      · have zy : ys.getD k 0 = 0 := by rw [List.getD_eq_getElem?_getD, List.getElem?_eq_none (by omega)]; rfl
        have hly' : ¬ (k : Int) < (ys.length : Int) := by omega
        have hs := hP.step (ok1 k) (ok2 k)
        obtain ⟨Z, eZ, fZ⟩ : ∃ Z : Int, IntKind.u32.wrap (c0 + X) = Z ∧ Hid (Z = (((C + xs.getD k 0 + ys.getD k 0) % 4294967296 : Nat) : Int)) := ⟨_, rfl, by show _ = _; rw [IntKind.wrap_u32]; omega⟩
        obtain ⟨D, eD, fD⟩ : ∃ D : Int, (c0 + X) / 4294967296 = D ∧ Hid ((((C + xs.getD k 0 + ys.getD k 0) / 4294967296 : Nat) : Int) = D) := ⟨_, rfl, by show _ = _; omega⟩
        have hN : Hid (ints .u32 (zs ++ [(C + xs.getD k 0 + ys.getD k 0) % 4294967296]) = ints .u32 zs ++ [.int .u32 Z]) := by
          show _ = _
          rw [fZ.out]; simp [ints]
        have HS : Hid _ := hs
        clear hs hP fZ gc gx hxk zy
        go_wp2_with (at_builtin; refine wpList_append_lies _ rfl (.tmp 48) (.tmp 51) 102 rfl w2.heap.size 104 i0 (.int .u32 0) 1 4 Try.underlying102 hi hz0 hz1 hz2 rfl (by decide) _ k _ rfl (hown.alloc _) ⟨wr.heap.size, 0, none⟩ 1 1 [.int .u32 Z] rfl rfl (one_new wr _ _) (by simp [Value.oneCell']) (by decide) (by unfold maxLen; omega) (by omega) (by simp; exact Nat.le_succ_of_le hB.out) (wr.heap.size + 1) (by simp) ?_; intro g cap' wz hown' hg' hgb hgl; have R1 : Hid (wz.ownsRow w2.heap.size 104 1 (.slice (some ⟨g, 0, none⟩) (k + 1) cap') (k + 1) (ints .u32 (zs ++ [(C + xs.getD k 0 + ys.getD k 0) % 4294967296]))) := (by show wz.ownsRow _ _ _ _ _ _; rw [hN.out]; exact hown'); have R2 : Hid (Ext w2 wz) := ext_grown (a := w2) (hx.alloc _) (hown.alloc _) hg'; clear hown' hg' hgb hgl hown)
        go_roundw
        case rel => exact ⟨k + 1, _, _, by omega, by go_num, congrArg (Value.int .u64) fD.out.symm, HS.out, R1.out, R2.out⟩
        case measure => simp [intOf]; omega
    · have zx : xs.getD k 0 = 0 := by rw [List.getD_eq_getElem?_getD, List.getElem?_eq_none (by omega)]; rfl
      have hlx' : ¬ (k : Int) < (xs.length : Int) := by omega
      by_cases hly : k < ys.length
      · obtain ⟨bly, ofy, rfl, cellsy⟩ := GY.out (by omega)
        have hcy := (hx.lay).1 bly (ofy + k) (cell_lt (cellsy k hly))
        rw [cellsy k hly] at hcy
        have hyk := ok2 k
        have hly' : (k : Int) < (ys.length : Int) := by omega
        obtain ⟨Y, gy, gy', gy''⟩ : ∃ X : Int, ((ys.getD k 0 : Nat) : Int) = X ∧ 0 ≤ X ∧ X < 4294967296 := ⟨_, rfl, by omega, by omega⟩
        rw [gy] at hcy
        have hs := hP.step (ok1 k) (ok2 k)
        obtain ⟨Z, eZ, fZ⟩ : ∃ Z : Int, IntKind.u32.wrap (c0 + Y) = Z ∧ Hid (Z = (((C + xs.getD k 0 + ys.getD k 0) % 4294967296 : Nat) : Int)) := ⟨_, rfl, by show _ = _; rw [IntKind.wrap_u32]; omega⟩
        obtain ⟨D, eD, fD⟩ : ∃ D : Int, (c0 + Y) / 4294967296 = D ∧ Hid ((((C + xs.getD k 0 + ys.getD k 0) / 4294967296 : Nat) : Int) = D) := ⟨_, rfl, by show _ = _; omega⟩
        have hN : Hid (ints .u32 (zs ++ [(C + xs.getD k 0 + ys.getD k 0) % 4294967296]) = ints .u32 zs ++ [.int .u32 Z]) := by
          show _ = _
          rw [fZ.out]; simp [ints]
        have HS : Hid _ := hs
        clear hs hP fZ gc gy hyk zx
        go_wp2_with (at_builtin; refine wpList_append_lies _ rfl (.tmp 48) (.tmp 51) 102 rfl w2.heap.size 104 i0 (.int .u32 0) 1 4 Try.underlying102 hi hz0 hz1 hz2 rfl (by decide) _ k _ rfl (hown.alloc _) ⟨wr.heap.size, 0, none⟩ 1 1 [.int .u32 Z] rfl rfl (one_new wr _ _) (by simp [Value.oneCell']) (by decide) (by unfold maxLen; omega) (by omega) (by simp; exact Nat.le_succ_of_le hB.out) (wr.heap.size + 1) (by simp) ?_; intro g cap' wz hown' hg' hgb hgl; have R1 : Hid (wz.ownsRow w2.heap.size 104 1 (.slice (some ⟨g, 0, none⟩) (k + 1) cap') (k + 1) (ints .u32 (zs ++ [(C + xs.getD k 0 + ys.getD k 0) % 4294967296]))) := (by show wz.ownsRow _ _ _ _ _ _; rw [hN.out]; exact hown'); have R2 : Hid (Ext w2 wz) := ext_grown (a := w2) (hx.alloc _) (hown.alloc _) hg'; clear hown' hg' hgb hgl hown)
        go_roundw
        case rel => exact ⟨k + 1, _, _, by omega, by go_num, congrArg (Value.int .u64) fD.out.symm, HS.out, R1.out, R2.out⟩
        case measure => simp [intOf]; omega
      · have hly' : ¬ (k : Int) < (ys.length : Int) := by omega
        obtain ⟨hcut, hwhole⟩ := HD.out k C zs hP (by omega) (by omega) hk
        have HCu : Hid _ := hcut
        have HWh : Hid _ := hwhole
        have hN : Hid (ints .u32 (zs ++ [C]) = ints .u32 zs ++ [.int .u32 c0]) := by
          show _ = _
          rw [← gc]; simp [ints]
        clear hcut hwhole zx gc hP
        go_wp2_with (at_builtin; refine wpList_append_lies _ rfl (.tmp 55) (.tmp 58) 102 rfl w2.heap.size 104 i0 (.int .u32 0) 1 4 Try.underlying102 hi hz0 hz1 hz2 rfl (by decide) _ k _ rfl (hown.alloc _) ⟨wr.heap.size, 0, none⟩ 1 1 [.int .u32 c0] rfl rfl (one_new wr _ _) (by simp [Value.oneCell']) (by decide) (by unfold maxLen; omega) (by omega) (by simp; exact Nat.le_succ_of_le hB.out) (wr.heap.size + 1) (by simp) ?_; intro g cap' wz hown' hg' hgb hgl; have R1 : Hid (wz.ownsRow w2.heap.size 104 1 (.slice (some ⟨g, 0, none⟩) (k + 1) cap') (k + 1) (ints .u32 (zs ++ [C]))) := (by show wz.ownsRow _ _ _ _ _ _; rw [hN.out]; exact hown'); have R2 : Hid (Ext w2 wz) := ext_grown (a := w2) (hx.alloc _) (hown.alloc _) hg'; clear hown' hg' hgb hgl hown)
        have hrow := row_of_own R1.out
        refine (HCu.out _ _ hrow).mono ?_
        rintro e w4 ⟨⟨v3, rfl, hr3⟩, rfl⟩
        clear hrow
        go_wp2_with fail
        refine (HWh.out _ _ hr3).mono ?_
        rintro e w5 ⟨⟨v4, rfl, hr4⟩, x5⟩
        go_wp2_with fail
        go_ret
        exact ⟨⟨_, rfl, hr4⟩, (X2.out.trans R2.out).trans x5⟩
end Go.Proofs.Ytbmocnigmpmfkaa
