/- The reference's whole numbers: NLess, NCmp. -/
import Derived.Test.YtbmocnigmpmfkaaBig4m
namespace Go.Proofs.Ytbmocnigmpmfkaa
open Go.RowKit

/-- what is borrowed: b' of s = x - y - b -/
def bor (x y b : Nat) : Nat := if x < y + b then 1 else 0
def dif (x y b : Nat) : Nat := x + 4294967296 * bor x y b - (y + b)
theorem bor_eq (x y b : Nat) (hx : x < 4294967296) (hy : y < 4294967296) (hb : b ≤ 1) : x + 4294967296 * bor x y b = dif x y b + y + b ∧ dif x y b < 4294967296 ∧ bor x y b ≤ 1 := by
  unfold dif bor
  split <;> omega
theorem less_step (B k x y b z b' X Y : Nat) (zs : List Nat) (hl : zs.length = k) (h : Dig.val B zs + Y = X + B ^ k * b) (hz : x + B * b' = z + y + b) :
    Dig.val B (zs ++ [z]) + (Y + B ^ k * y) = X + B ^ k * x + B ^ (k + 1) * b' := by
  rw [Dig.val_snoc, hl, Nat.pow_succ, Nat.mul_assoc]
  have e : B ^ k * x + B ^ k * (B * b') = B ^ k * z + B ^ k * y + B ^ k * b := by rw [← Nat.mul_add, hz, Nat.mul_add, Nat.mul_add]
  omega
def LRel (xs ys : List Nat) (k b : Nat) (zs : List Nat) : Prop :=
  zs.length = k ∧ Dig.Ok 4294967296 zs ∧ b ≤ 1 ∧ Dig.val 4294967296 zs + Dig.val 4294967296 (ys.take k) = Dig.val 4294967296 (xs.take k) + 4294967296 ^ k * b
theorem LRel.start (xs ys : List Nat) : LRel xs ys 0 0 [] := ⟨rfl, Dig.ok_nil (by omega), by omega, rfl⟩
theorem LRel.step {xs ys : List Nat} {k b : Nat} {zs : List Nat} (h : LRel xs ys k b zs) (hx : xs.getD k 0 < 4294967296) (hy : ys.getD k 0 < 4294967296) :
    LRel xs ys (k + 1) (bor (xs.getD k 0) (ys.getD k 0) b) (zs ++ [dif (xs.getD k 0) (ys.getD k 0) b]) := by
  obtain ⟨h1, h2, h3, h4⟩ := h
  obtain ⟨e1, e2, e3⟩ := bor_eq _ _ b hx hy h3
  refine ⟨by simp [h1], Dig.ok_snoc h2 e2, e3, ?_⟩
  rw [Dig.val_take_succ, Dig.val_take_succ]
  exact less_step 4294967296 k _ _ b _ _ _ _ zs h1 h4 e1
theorem LRel.done {xs ys : List Nat} {k b : Nat} {zs : List Nat} (h : LRel xs ys k b zs) (hx : xs.length = k) (hy : ys.length ≤ k) (hle : Dig.val 4294967296 ys ≤ Dig.val 4294967296 xs) :
    Dig.Ok 4294967296 zs ∧ Dig.val 4294967296 zs = Dig.val 4294967296 xs - Dig.val 4294967296 ys := by
  obtain ⟨h1, h2, h3, h4⟩ := h
  refine ⟨h2, ?_⟩
  rw [List.take_of_length_le (show xs.length ≤ k by omega), List.take_of_length_le hy] at h4
  have h5 := Dig.val_lt 4294967296 zs h2
  rw [h1] at h5
  have h6 : b = 0 := by
    rcases Nat.eq_zero_or_pos b with h | h
    · exact h
    · obtain rfl : b = 1 := by omega
      omega
  subst h6
  omega

set_option maxHeartbeats 4000000 in
theorem nless_any (m n : Nat) (v1 v2 : Value) (w : World) (h1 : IsN w v1 m) (h2 : IsN w v2 n) (s1 : Small m) (s2 : Small n) (hle : n ≤ m) :
    Calls Try.prog 53 #[v1, v2] w fun e w' => (∃ v', e = .returned v' ∧ IsN w' v' (m - n)) ∧ Ext w w' := by
  obtain ⟨i0, hi, hz0, hz1, hz2⟩ := info_parts Try.info32
  have ok1 := Dig.okd 4294967296 m (by omega)
  have ok2 := Dig.okd 4294967296 n (by omega)
  have V1 := Dig.vald 4294967296 m (by omega)
  have V2 := Dig.vald 4294967296 n (by omega)
  have H1 : Hid (∀ w', Ext w w' → Calls Try.prog 65 #[v1] w' fun e w'' => (∃ v', e = .returned v' ∧ Row .u32 w'' v' (Dig.digs 4294967296 m)) ∧ Ext w' w'') := fun w' hx => halves_any m v1 w' (h1.ext hx) s1.1
  have H2 : Hid (∀ w', Ext w w' → Calls Try.prog 65 #[v2] w' fun e w'' => (∃ v', e = .returned v' ∧ Row .u32 w'' v' (Dig.digs 4294967296 n)) ∧ Ext w' w'') := fun w' hx => halves_any n v2 w' (h2.ext hx) s2.1
  have S1 : (Dig.digs 4294967296 m).length ≤ 2000 := s1.2
  have S2 : (Dig.digs 4294967296 n).length ≤ (Dig.digs 4294967296 m).length := by
    have h := Dig.val_lt 4294967296 _ ok1
    rw [V1] at h
    exact Dig.digs_length_le 4294967296 (by omega) n _ (by omega)
  have HD : Hid (∀ k b zs, LRel (Dig.digs 4294967296 m) (Dig.digs 4294967296 n) k b zs → (Dig.digs 4294967296 m).length = k → (∀ v w, Row .u32 w v zs → Calls Try.prog 70 #[v] w fun e w' => (∃ v', e = .returned v' ∧ Row .u32 w v' (Dig.digs 4294967296 (m - n))) ∧ w' = w) ∧
    (∀ v w, Row .u32 w v (Dig.digs 4294967296 (m - n)) → Calls Try.prog 67 #[v] w fun e w' => (∃ v', e = .returned v' ∧ IsN w' v' (m - n)) ∧ Ext w w')) := by
    intro k b zs hr hx
    obtain ⟨d1, d2⟩ := hr.done hx (by omega) (by rw [V1, V2]; exact hle)
    rw [V1, V2] at d2
    exact cutwhole _ d1 (by have := hr.1; omega) _ d2
  clear h1 h2 s1 s2 V1 V2 hle
  generalize Dig.digs 4294967296 m = xs at *
  generalize Dig.digs 4294967296 n = ys at *
  go_enter Try.func53, Try.ntmps53
  go_wp2_with fail
  refine (H1.out _ (Ext.refl _)).mono ?_
  rintro e w1 ⟨⟨x, rfl, hx⟩, x1⟩
  go_wp2_with fail
  refine (H2.out _ x1).mono ?_
  rintro e w2 ⟨⟨y, rfl, hy⟩, x2⟩
  have hx' := hx.ext x2
  have X2 : Hid (Ext w w2) := x1.trans x2
  obtain ⟨ax, cx, rfl, gx⟩ := hx'.shape
  obtain ⟨ay, cy, rfl, gy⟩ := hy.shape
  have GX : Hid _ := gx
  have GY : Hid _ := gy
  clear hx hy hx' x1 x2 H1 H2 gx gy
  go_wp2_with fail
  go_loopw [7, 8, 9] (fun l c i wr => ∃ (k b : Nat) (zs : List Nat), k ≤ xs.length ∧ i = .int .i64 (k : Int) ∧ c = .int .i64 (-(b : Int)) ∧ LRel xs ys k b zs ∧ wr.ownsRow w2.heap.size 104 1 l k (ints .u32 zs) ∧ Ext w2 wr) (fun _ _ i _ => xs.length - (intOf i).toNat)
  case atStart => exact ⟨0, 0, [], by omega, rfl, rfl, LRel.start _ _, World.ownsRow_nil _ _ _ _, Ext.refl _⟩
  case round =>
    obtain ⟨k, b, zs, hk, rfl, rfl, hP, hown, hx⟩ := hrel
    have hB : Hid (w2.heap.size ≤ wr.heap.size) := hx.size
    have hC := hP.2.2.1
    obtain ⟨c0, gc, gc', gc''⟩ : ∃ c : Int, -(b : Int) = c ∧ -1 ≤ c ∧ c ≤ 0 := ⟨_, rfl, by omega, by omega⟩
    rw [gc]
    by_cases hlx : k < xs.length
    · obtain ⟨blx, ofx, rfl, cellsx⟩ := GX.out (by omega)
      have hcx := (hx.lay).1 blx (ofx + k) (cell_lt (cellsx k hlx))
      rw [cellsx k hlx] at hcx
      have hxk := ok1 k
      have hlx' : (k : Int) < (xs.length : Int) := by omega
      obtain ⟨X, gx, gx', gx''⟩ : ∃ X : Int, ((xs.getD k 0 : Nat) : Int) = X ∧ 0 ≤ X ∧ X < 4294967296 := ⟨_, rfl, by omega, by omega⟩
      rw [gx] at hcx
      by_cases hly : k < ys.length
      · obtain ⟨bly, ofy, rfl, cellsy⟩ := GY.out (by omega)
        have hcy := (hx.lay).1 bly (ofy + k) (cell_lt (cellsy k hly))
        rw [cellsy k hly] at hcy
        have hyk := ok2 k
        have hly' : (k : Int) < (ys.length : Int) := by omega
        obtain ⟨Y, gy, gy', gy''⟩ : ∃ X : Int, ((ys.getD k 0 : Nat) : Int) = X ∧ 0 ≤ X ∧ X < 4294967296 := ⟨_, rfl, by omega, by omega⟩
        rw [gy] at hcy
        have hs := hP.step (ok1 k) (ok2 k)
        have hbe := bor_eq (xs.getD k 0) (ys.getD k 0) b (ok1 k) (ok2 k) hC
        obtain ⟨U, Z, eU, eZ, fZ⟩ : ∃ U Z : Int, IntKind.u64.wrap (c0 + X - Y) = U ∧ IntKind.u32.wrap U = Z ∧ Hid (Z = ((dif (xs.getD k 0) (ys.getD k 0) b : Nat) : Int)) := ⟨_, _, rfl, rfl, by show _ = _; rw [IntKind.wrap_u32, IntKind.wrap_u64]; omega⟩
        obtain ⟨D, eD, fD⟩ : ∃ D : Int, (c0 + X - Y) / 4294967296 = D ∧ Hid (-((bor (xs.getD k 0) (ys.getD k 0) b : Nat) : Int) = D) := ⟨_, rfl, by show _ = _; omega⟩
        have hN : Hid (ints .u32 (zs ++ [dif (xs.getD k 0) (ys.getD k 0) b]) = ints .u32 zs ++ [.int .u32 Z]) := by
          show _ = _
          rw [fZ.out]; simp [ints]
        have HS : Hid _ := hs
        clear hs hP fZ gc hbe gx gy hxk hyk
        go_wp2_with (at_builtin; refine wpList_append_lies _ rfl (.tmp 38) (.tmp 42) 102 rfl w2.heap.size 104 i0 (.int .u32 0) 1 4 Try.underlying102 hi hz0 hz1 hz2 rfl (by decide) _ k _ rfl (hown.alloc _) ⟨wr.heap.size, 0, none⟩ 1 1 [.int .u32 Z] rfl rfl (one_new wr _ _) (by simp [Value.oneCell']) (by decide) (by unfold maxLen; omega) (by omega) (by simp; exact Nat.le_succ_of_le hB.out) (wr.heap.size + 1) (by simp) ?_; intro g cap' wz hown' hg' hgb hgl; have R1 : Hid (wz.ownsRow w2.heap.size 104 1 (.slice (some ⟨g, 0, none⟩) (k + 1) cap') (k + 1) (ints .u32 (zs ++ [dif (xs.getD k 0) (ys.getD k 0) b]))) := (by show wz.ownsRow _ _ _ _ _ _; rw [hN.out]; exact hown'); have R2 : Hid (Ext w2 wz) := ext_grown (a := w2) (hx.alloc _) (hown.alloc _) hg'; clear hown' hg' hgb hgl hown)
        go_roundw
        case rel => exact ⟨k + 1, _, _, by omega, by go_num, congrArg (Value.int .i64) fD.out.symm, HS.out, R1.out, R2.out⟩
        case measure => simp [intOf]; omega
      · have zy : ys.getD k 0 = 0 := by rw [List.getD_eq_getElem?_getD, List.getElem?_eq_none (by omega)]; rfl
        have hly' : ¬ (k : Int) < (ys.length : Int) := by omega
        have hs := hP.step (ok1 k) (ok2 k)
        have hbe := bor_eq (xs.getD k 0) (ys.getD k 0) b (ok1 k) (ok2 k) hC
        obtain ⟨U, Z, eU, eZ, fZ⟩ : ∃ U Z : Int, IntKind.u64.wrap (c0 + X) = U ∧ IntKind.u32.wrap U = Z ∧ Hid (Z = ((dif (xs.getD k 0) (ys.getD k 0) b : Nat) : Int)) := ⟨_, _, rfl, rfl, by show _ = _; rw [IntKind.wrap_u32, IntKind.wrap_u64]; omega⟩
        obtain ⟨D, eD, fD⟩ : ∃ D : Int, (c0 + X) / 4294967296 = D ∧ Hid (-((bor (xs.getD k 0) (ys.getD k 0) b : Nat) : Int) = D) := ⟨_, rfl, by show _ = _; omega⟩
        have hN : Hid (ints .u32 (zs ++ [dif (xs.getD k 0) (ys.getD k 0) b]) = ints .u32 zs ++ [.int .u32 Z]) := by
          show _ = _
          rw [fZ.out]; simp [ints]
        have HS : Hid _ := hs
        clear hs hP fZ gc hbe gx hxk zy
        go_wp2_with (at_builtin; refine wpList_append_lies _ rfl (.tmp 38) (.tmp 42) 102 rfl w2.heap.size 104 i0 (.int .u32 0) 1 4 Try.underlying102 hi hz0 hz1 hz2 rfl (by decide) _ k _ rfl (hown.alloc _) ⟨wr.heap.size, 0, none⟩ 1 1 [.int .u32 Z] rfl rfl (one_new wr _ _) (by simp [Value.oneCell']) (by decide) (by unfold maxLen; omega) (by omega) (by simp; exact Nat.le_succ_of_le hB.out) (wr.heap.size + 1) (by simp) ?_; intro g cap' wz hown' hg' hgb hgl; have R1 : Hid (wz.ownsRow w2.heap.size 104 1 (.slice (some ⟨g, 0, none⟩) (k + 1) cap') (k + 1) (ints .u32 (zs ++ [dif (xs.getD k 0) (ys.getD k 0) b]))) := (by show wz.ownsRow _ _ _ _ _ _; rw [hN.out]; exact hown'); have R2 : Hid (Ext w2 wz) := ext_grown (a := w2) (hx.alloc _) (hown.alloc _) hg'; clear hown' hg' hgb hgl hown)
        go_roundw
        case rel => exact ⟨k + 1, _, _, by omega, by go_num, congrArg (Value.int .i64) fD.out.symm, HS.out, R1.out, R2.out⟩
        case measure => simp [intOf]; omega
    · have hlx' : ¬ (k : Int) < (xs.length : Int) := by omega
      obtain ⟨hcut, hwhole⟩ := HD.out k b zs hP (by omega)
      have HCu : Hid _ := hcut
      have HWh : Hid _ := hwhole
      have hrow := row_of_own hown
      clear hcut hwhole gc hP hown
      go_wp2_with fail
      refine (HCu.out _ _ hrow).mono ?_
      rintro e w4 ⟨⟨v3, rfl, hr3⟩, rfl⟩
      clear hrow
      go_wp2_with fail
      refine (HWh.out _ _ hr3).mono ?_
      rintro e w5 ⟨⟨v4, rfl, hr4⟩, x5⟩
      go_wp2_with fail
      go_ret
      exact ⟨⟨_, rfl, hr4⟩, (X2.out.trans hx).trans x5⟩
end Go.Proofs.Ytbmocnigmpmfkaa
