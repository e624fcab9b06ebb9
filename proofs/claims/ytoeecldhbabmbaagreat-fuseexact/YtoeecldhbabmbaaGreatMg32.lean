/- The reference's whole numbers: NLess, NCmp. The reference's whole numbers: NCmp. The reference's whole numbers: NTimes. The reference's whole numbers: Up2. Plain numbers: lengths in bits, shifts down, long division. The reference's whole numbers: NLen, Down2. -/
import Derived.Test.YtoeecldhbabmbaaGreatMg31
import Derived.Deep.OwnRows
open Go.Value renaming int → J
open Go.IntKind renaming i64 → zq, u64 → zu
open Go.Ending renaming returned → zR
open Go.Proofs.Tryz renaming prog → zP
namespace Go.Proofs.YtoeecldhbabmbaaGreat
open Go.RowKit
def bor (x y b : Nat) : Nat := if x < y + b then 1 else 0
def dif (x y b : Nat) : Nat := x + 4294967296 * bor x y b - (y + b)
theorem bor_eq (x y b : Nat) (hx : x < 4294967296) (hy : y < 4294967296) (hb : b ≤ 1) : x + 4294967296 * bor x y b = dif x y b + y + b ∧ dif x y b < 4294967296 ∧ bor x y b ≤ 1 := by
  unfold dif bor
  split <;> omega
theorem less_step (B k x y b z b' X Y : Nat) (zs : List Nat) (hl : zs.length = k) (h : Dig.val B zs + Y = X + B ^ k * b) (hz : x + B * b' = z + y + b) :
    Dig.val B (zs ++ [z]) + (Y + B ^ k * y) = X + B ^ k * x + B ^ (k + 1) * b' := by
  rw [Dig.val_snoc, hl, Nat.pow_succ, Nat.mul_assoc]
  have e : B ^ k * x + B ^ k * (B * b') = B ^ k * z + B ^ k * y + B ^ k * b := by rw [← Nat.mul_add, hz, Nat.mul_add, Nat.mul_add]
  omega
def LRel (xs ys : List Nat) (k b : Nat) (zs : List Nat) : Prop :=
  zs.length = k ∧ Dig.Ok 4294967296 zs ∧ b ≤ 1 ∧ Dig.val 4294967296 zs + Dig.val 4294967296 (ys.take k) = Dig.val 4294967296 (xs.take k) + 4294967296 ^ k * b
theorem LRel.start (xs ys : List Nat) : LRel xs ys 0 0 [] := ⟨rfl, Dig.ok_nil (by omega), by omega, rfl⟩
theorem LRel.step {xs ys : List Nat} {k b : Nat} {zs : List Nat} (h : LRel xs ys k b zs) (hx : xs.getD k 0 < 4294967296) (hy : ys.getD k 0 < 4294967296) :
    LRel xs ys (k + 1) (bor (xs.getD k 0) (ys.getD k 0) b) (zs ++ [dif (xs.getD k 0) (ys.getD k 0) b]) := by
  obtain ⟨h1, h2, h3, h4⟩ := h
  obtain ⟨e1, e2, e3⟩ := bor_eq _ _ b hx hy h3
  refine ⟨by simp [h1], Dig.ok_snoc h2 e2, e3, ?_⟩
  rw [Dig.val_take_succ, Dig.val_take_succ]
  exact less_step 4294967296 k _ _ b _ _ _ _ zs h1 h4 e1
theorem LRel.done {xs ys : List Nat} {k b : Nat} {zs : List Nat} (h : LRel xs ys k b zs) (hx : xs.length = k) (hy : ys.length ≤ k) (hle : Dig.val 4294967296 ys ≤ Dig.val 4294967296 xs) :
    Dig.Ok 4294967296 zs ∧ Dig.val 4294967296 zs = Dig.val 4294967296 xs - Dig.val 4294967296 ys := by
  obtain ⟨h1, h2, h3, h4⟩ := h
  refine ⟨h2, ?_⟩
  rw [List.take_of_length_le (show xs.length ≤ k by omega), List.take_of_length_le hy] at h4
  have h5 := Dig.val_lt 4294967296 zs h2
  rw [h1] at h5
  have h6 : b = 0 := by
    rcases Nat.eq_zero_or_pos b with h | h
    · exact h
    · obtain rfl : b = 1 := by omega
      omega
  subst h6
  omega
set_option maxHeartbeats 4000000 in
theorem nless_any (m n : Nat) (v1 v2 : Value) (w : World) (h1 : IsN w v1 m) (h2 : IsN w v2 n) (s1 : Small m) (s2 : Small n) (hle : n ≤ m) :
    Calls zP 93 #[v1, v2] w fun e w' => (∃ v', e = zR v' ∧ IsN w' v' (m - n)) ∧ Ext w w' := by
  obtain ⟨i0, hi, hz0, hz1, hz2⟩ := info_parts Tryz.info32
  have ok1 := Dig.okd 4294967296 m (by omega)
  have ok2 := Dig.okd 4294967296 n (by omega)
  have V1 := Dig.vald 4294967296 m (by omega)
  have V2 := Dig.vald 4294967296 n (by omega)
  have H1 : Hid (∀ w', Ext w w' → Calls zP 122 #[v1] w' fun e w'' => (∃ v', e = zR v' ∧ Row .u32 w'' v' (Dig.digs 4294967296 m)) ∧ Ext w' w'') := fun w' hx => halves_any m v1 w' (h1.ext hx) s1.1
  have H2 : Hid (∀ w', Ext w w' → Calls zP 122 #[v2] w' fun e w'' => (∃ v', e = zR v' ∧ Row .u32 w'' v' (Dig.digs 4294967296 n)) ∧ Ext w' w'') := fun w' hx => halves_any n v2 w' (h2.ext hx) s2.1
  have S1 : (Dig.digs 4294967296 m).length ≤ 2000 := s1.2
  have S2 : (Dig.digs 4294967296 n).length ≤ (Dig.digs 4294967296 m).length := by
    have h := Dig.val_lt 4294967296 _ ok1
    rw [V1] at h
    exact Dig.digs_length_le 4294967296 (by omega) n _ (by omega)
  have HD : Hid (∀ k b zs, LRel (Dig.digs 4294967296 m) (Dig.digs 4294967296 n) k b zs → (Dig.digs 4294967296 m).length = k → (∀ v w, Row .u32 w v zs → Calls zP 124 #[v] w fun e w' => (∃ v', e = zR v' ∧ Row .u32 w v' (Dig.digs 4294967296 (m - n))) ∧ w' = w) ∧
    (∀ v w, Row .u32 w v (Dig.digs 4294967296 (m - n)) → Calls zP 123 #[v] w fun e w' => (∃ v', e = zR v' ∧ IsN w' v' (m - n)) ∧ Ext w w')) := by
    intro k b zs hr hx
    obtain ⟨d1, d2⟩ := hr.done hx (by omega) (by rw [V1, V2]; exact hle)
    rw [V1, V2] at d2
    exact cutwhole _ d1 (by have := hr.1; omega) _ d2
  clear h1 h2 s1 s2 V1 V2 hle
  generalize Dig.digs 4294967296 m = xs at *
  generalize Dig.digs 4294967296 n = ys at *
  go_enter Tryz.func93, Tryz.ntmps93
  go_wp2_with fail
  refine (H1.out _ (Ext.refl _)).mono ?_
  rintro e w1 ⟨⟨x, rfl, hx⟩, x1⟩
  go_wp2_with fail
  refine (H2.out _ x1).mono ?_
  rintro e w2 ⟨⟨y, rfl, hy⟩, x2⟩
  have hx' := hx.ext x2
  have X2 : Hid (Ext w w2) := x1.trans x2
  obtain ⟨ax, cx, rfl, gx⟩ := hx'.shape
  obtain ⟨ay, cy, rfl, gy⟩ := hy.shape
  have GX : Hid _ := gx
  have GY : Hid _ := gy
  clear hx hy hx' x1 x2 H1 H2 gx gy
  go_wp2_with fail
  go_loopw [7, 8, 9] (fun l c i wr => ∃ (k b : Nat) (zs : List Nat), k ≤ xs.length ∧ i = J zq (k : Int) ∧ c = J zq (-(b : Int)) ∧ LRel xs ys k b zs ∧ wr.ownsRow w2.heap.size 164 1 l k (ints .u32 zs) ∧ Ext w2 wr) (fun _ _ i _ => xs.length - (intOf i).toNat)
  case atStart => exact ⟨0, 0, [], by omega, rfl, rfl, LRel.start _ _, World.ownsRow_nil _ _ _ _, Ext.refl _⟩
  case round =>
    obtain ⟨k, b, zs, hk, rfl, rfl, hP, hown, hx⟩ := hrel
    have hB : Hid (w2.heap.size ≤ wr.heap.size) := hx.size
    have hC := hP.2.2.1
    obtain ⟨c0, gc, gc', gc''⟩ : ∃ c : Int, -(b : Int) = c ∧ -1 ≤ c ∧ c ≤ 0 := ⟨_, rfl, by omega, by omega⟩
    rw [gc]
    by_cases hlx : k < xs.length
    · obtain ⟨blx, ofx, rfl, cellsx⟩ := GX.out (by omega)
      have hcx := (hx.lay).1 blx (ofx + k) (cell_lt (cellsx k hlx))
      rw [cellsx k hlx] at hcx
      have hxk := ok1 k
      have hlx' : (k : Int) < (xs.length : Int) := by omega
      obtain ⟨X, gx, gx', gx''⟩ : ∃ X : Int, ((xs.getD k 0 : Nat) : Int) = X ∧ 0 ≤ X ∧ X < 4294967296 := ⟨_, rfl, by omega, by omega⟩
      rw [gx] at hcx
      by_cases hly : k < ys.length
      · obtain ⟨bly, ofy, rfl, cellsy⟩ := GY.out (by omega)
        have hcy := (hx.lay).1 bly (ofy + k) (cell_lt (cellsy k hly))
        rw [cellsy k hly] at hcy
        have hyk := ok2 k
        have hly' : (k : Int) < (ys.length : Int) := by omega
        obtain ⟨Y, gy, gy', gy''⟩ : ∃ X : Int, ((ys.getD k 0 : Nat) : Int) = X ∧ 0 ≤ X ∧ X < 4294967296 := ⟨_, rfl, by omega, by omega⟩
        rw [gy] at hcy
        have hs := hP.step (ok1 k) (ok2 k)
        have hbe := bor_eq (xs.getD k 0) (ys.getD k 0) b (ok1 k) (ok2 k) hC
        obtain ⟨U, Z, eU, eZ, fZ⟩ : ∃ U Z : Int, IntKind.u64.wrap (c0 + X - Y) = U ∧ IntKind.u32.wrap U = Z ∧ Hid (Z = ((dif (xs.getD k 0) (ys.getD k 0) b : Nat) : Int)) := ⟨_, _, rfl, rfl, by show _ = _; rw [IntKind.wrap_u32, IntKind.wrap_u64]; omega⟩
        obtain ⟨D, eD, fD⟩ : ∃ D : Int, (c0 + X - Y) / 4294967296 = D ∧ Hid (-((bor (xs.getD k 0) (ys.getD k 0) b : Nat) : Int) = D) := ⟨_, rfl, by show _ = _; omega⟩
        have hN : Hid (ints .u32 (zs ++ [dif (xs.getD k 0) (ys.getD k 0) b]) = ints .u32 zs ++ [.int .u32 Z]) := by
          show _ = _
          rw [fZ.out]; simp [ints]
        have HS : Hid _ := hs
        clear hs hP fZ gc hbe gx gy hxk hyk
        go_wp2_with (at_builtin; refine wpList_append_lies _ rfl (.tmp 38) (.tmp 42) 162 rfl w2.heap.size 164 i0 (.int .u32 0) 1 4 Tryz.underlying162 hi hz0 hz1 hz2 rfl (by decide) _ k _ rfl (hown.alloc _) ⟨wr.heap.size, 0, none⟩ 1 1 [.int .u32 Z] rfl rfl (one_new wr _ _) (by simp [Value.oneCell']) (by decide) (by unfold maxLen; omega) (by omega) (by simp; exact Nat.le_succ_of_le hB.out) (wr.heap.size + 1) (by simp) ?_; intro g cap' wz hown' hg' hgb hgl; have R1 : Hid (wz.ownsRow w2.heap.size 164 1 (.slice (some ⟨g, 0, none⟩) (k + 1) cap') (k + 1) (ints .u32 (zs ++ [dif (xs.getD k 0) (ys.getD k 0) b]))) := (by show wz.ownsRow _ _ _ _ _ _; rw [hN.out]; exact hown'); have R2 : Hid (Ext w2 wz) := ext_grown (a := w2) (hx.alloc _) (hown.alloc _) hg'; clear hown' hg' hgb hgl hown)
        go_roundw
        case rel => exact ⟨k + 1, _, _, by omega, by go_num, congrArg (Value.int .i64) fD.out.symm, HS.out, R1.out, R2.out⟩
        case measure => simp [intOf]; omega
      · have zy : ys.getD k 0 = 0 := by rw [List.getD_eq_getElem?_getD, List.getElem?_eq_none (by omega)]; rfl
        have hly' : ¬ (k : Int) < (ys.length : Int) := by omega
        have hs := hP.step (ok1 k) (ok2 k)
        have hbe := bor_eq (xs.getD k 0) (ys.getD k 0) b (ok1 k) (ok2 k) hC
        obtain ⟨U, Z, eU, eZ, fZ⟩ : ∃ U Z : Int, IntKind.u64.wrap (c0 + X) = U ∧ IntKind.u32.wrap U = Z ∧ Hid (Z = ((dif (xs.getD k 0) (ys.getD k 0) b : Nat) : Int)) := ⟨_, _, rfl, rfl, by show _ = _; rw [IntKind.wrap_u32, IntKind.wrap_u64]; omega⟩
        obtain ⟨D, eD, fD⟩ : ∃ D : Int, (c0 + X) / 4294967296 = D ∧ Hid (-((bor (xs.getD k 0) (ys.getD k 0) b : Nat) : Int) = D) := ⟨_, rfl, by show _ = _; omega⟩
        have hN : Hid (ints .u32 (zs ++ [dif (xs.getD k 0) (ys.getD k 0) b]) = ints .u32 zs ++ [.int .u32 Z]) := by
          show _ = _
          rw [fZ.out]; simp [ints]
        have HS : Hid _ := hs
        clear hs hP fZ gc hbe gx hxk zy
        go_wp2_with (at_builtin; refine wpList_append_lies _ rfl (.tmp 38) (.tmp 42) 162 rfl w2.heap.size 164 i0 (.int .u32 0) 1 4 Tryz.underlying162 hi hz0 hz1 hz2 rfl (by decide) _ k _ rfl (hown.alloc _) ⟨wr.heap.size, 0, none⟩ 1 1 [.int .u32 Z] rfl rfl (one_new wr _ _) (by simp [Value.oneCell']) (by decide) (by unfold maxLen; omega) (by omega) (by simp; exact Nat.le_succ_of_le hB.out) (wr.heap.size + 1) (by simp) ?_; intro g cap' wz hown' hg' hgb hgl; have R1 : Hid (wz.ownsRow w2.heap.size 164 1 (.slice (some ⟨g, 0, none⟩) (k + 1) cap') (k + 1) (ints .u32 (zs ++ [dif (xs.getD k 0) (ys.getD k 0) b]))) := (by show wz.ownsRow _ _ _ _ _ _; rw [hN.out]; exact hown'); have R2 : Hid (Ext w2 wz) := ext_grown (a := w2) (hx.alloc _) (hown.alloc _) hg'; clear hown' hg' hgb hgl hown)
        go_roundw
        case rel => exact ⟨k + 1, _, _, by omega, by go_num, congrArg (Value.int .i64) fD.out.symm, HS.out, R1.out, R2.out⟩
        case measure => simp [intOf]; omega
    · have hlx' : ¬ (k : Int) < (xs.length : Int) := by omega
      obtain ⟨hcut, hwhole⟩ := HD.out k b zs hP (by omega)
      have HCu : Hid _ := hcut
      have HWh : Hid _ := hwhole
      have hrow := row_of_own hown
      clear hcut hwhole gc hP hown
      go_wp2_with fail
      refine (HCu.out _ _ hrow).mono ?_
      rintro e w4 ⟨⟨v3, rfl, hr3⟩, rfl⟩
      clear hrow
      go_wp2_with fail
      refine (HWh.out _ _ hr3).mono ?_
      rintro e w5 ⟨⟨v4, rfl, hr4⟩, x5⟩
      go_wp2_with fail
      go_ret
      exact ⟨⟨_, rfl, hr4⟩, (X2.out.trans hx).trans x5⟩
def cmpN (m n : Nat) : Int := if m < n then -1 else if m = n then 0 else 1
theorem top_eq (B : Nat) (xs ys : List Nat) (t : Nat) (h : ∀ j, t ≤ j → xs.getD j 0 = ys.getD j 0) : Dig.val B xs + Dig.val B (ys.take t) = Dig.val B ys + Dig.val B (xs.take t) := by
  have key : ∀ d, Dig.val B (xs.take (t + d)) + Dig.val B (ys.take t) = Dig.val B (ys.take (t + d)) + Dig.val B (xs.take t) := by
    intro d
    induction d with
    | zero => simp only [Nat.add_zero]; omega
    | succ d ih => rw [← Nat.add_assoc, Dig.val_take_succ, Dig.val_take_succ, h (t + d) (by omega)]; omega
  have := key (xs.length + ys.length)
  rw [List.take_of_length_le (show xs.length ≤ t + (xs.length + ys.length) by omega), List.take_of_length_le (show ys.length ≤ t + (xs.length + ys.length) by omega)] at this
  exact this
theorem cmp_digit (B : Nat) (xs ys : List Nat) (t : Nat) (hx : Dig.Ok B xs) (h : ∀ j, t + 1 ≤ j → xs.getD j 0 = ys.getD j 0) (hlt : xs.getD t 0 < ys.getD t 0) : Dig.val B xs < Dig.val B ys := by
  have e := top_eq B xs ys (t + 1) h
  rw [Dig.val_take_succ, Dig.val_take_succ] at e
  have h1 := Dig.val_lt B (xs.take t) (Dig.ok_take hx t)
  have h2 : B ^ (xs.take t).length ≤ B ^ t ∨ B = 0 := by
    rcases Nat.eq_zero_or_pos B with h | h
    · exact .inr h
    · exact .inl (Nat.pow_le_pow_right h (by rw [List.length_take]; omega))
  have hB : B ≠ 0 := by intro h0; have := hx 0; omega
  have h3 : B ^ t * (xs.getD t 0 + 1) ≤ B ^ t * ys.getD t 0 := Nat.mul_le_mul_left _ hlt
  rw [Nat.mul_add, Nat.mul_one] at h3
  rcases h2 with h2 | h2
  · omega
  · exact absurd h2 hB
theorem digs_length_lt (B m n : Nat) (hB : 2 ≤ B) (h : (Dig.digs B m).length < (Dig.digs B n).length) : m < n := by
  apply Nat.lt_of_not_le
  intro hle
  have h1 := Dig.val_lt B _ (Dig.okd B m hB)
  rw [Dig.vald B m hB] at h1
  have := Dig.digs_length_le B hB n _ (Nat.lt_of_le_of_lt hle h1)
  omega
set_option maxHeartbeats 2000000 in
theorem ncmp_any (m n : Nat) (v1 v2 : Value) (w : World) (h1 : IsN w v1 m) (h2 : IsN w v2 n) (s1 : Small m) (s2 : Small n) :
    Calls zP 92 #[v1, v2] w fun e w' => e = zR (J zq (cmpN m n)) ∧ Ext w w' := by
  have ok1 := Dig.okd 18446744073709551616 m (by omega)
  have ok2 := Dig.okd 18446744073709551616 n (by omega)
  have S1 := s1.1
  have S2 := s2.1
  have L1 : Hid ((Dig.digs 18446744073709551616 m).length < (Dig.digs 18446744073709551616 n).length → -1 = cmpN m n) := fun h => by
    have := digs_length_lt 18446744073709551616 m n (by omega) h
    unfold cmpN; rw [if_pos this]
  have L2 : Hid ((Dig.digs 18446744073709551616 n).length < (Dig.digs 18446744073709551616 m).length → 1 = cmpN m n) := fun h => by
    have := digs_length_lt 18446744073709551616 n m (by omega) h
    unfold cmpN; rw [if_neg (by omega), if_neg (by omega)]
  have V1 := Dig.vald 18446744073709551616 m (by omega)
  have V2 := Dig.vald 18446744073709551616 n (by omega)
  have D1 : Hid (∀ t, (∀ j, t + 1 ≤ j → (Dig.digs 18446744073709551616 m).getD j 0 = (Dig.digs 18446744073709551616 n).getD j 0) → (Dig.digs 18446744073709551616 m).getD t 0 < (Dig.digs 18446744073709551616 n).getD t 0 → -1 = cmpN m n) := fun t h hlt => by
    have := cmp_digit _ _ _ t ok1 h hlt
    rw [V1, V2] at this
    unfold cmpN; rw [if_pos this]
  have D2 : Hid (∀ t, (∀ j, t + 1 ≤ j → (Dig.digs 18446744073709551616 m).getD j 0 = (Dig.digs 18446744073709551616 n).getD j 0) → (Dig.digs 18446744073709551616 n).getD t 0 < (Dig.digs 18446744073709551616 m).getD t 0 → 1 = cmpN m n) := fun t h hlt => by
    have := cmp_digit _ _ _ t ok2 (fun j hj => (h j hj).symm) hlt
    rw [V1, V2] at this
    unfold cmpN; rw [if_neg (by omega), if_neg (by omega)]
  have D3 : Hid ((∀ j, 0 ≤ j → (Dig.digs 18446744073709551616 m).getD j 0 = (Dig.digs 18446744073709551616 n).getD j 0) → 0 = cmpN m n) := fun h => by
    have := top_eq 18446744073709551616 _ _ 0 h
    rw [V1, V2] at this
    simp only [List.take_zero, Dig.val, Nat.add_zero] at this
    unfold cmpN; rw [if_neg (by omega), if_pos this]
  unfold IsN at h1 h2
  clear V1 V2 s1 s2
  generalize Dig.digs 18446744073709551616 m = xs at *
  generalize Dig.digs 18446744073709551616 n = ys at *
  generalize cmpN m n = R at *
  obtain ⟨ax, cx, rfl, gx⟩ := h1.shape
  obtain ⟨ay, cy, rfl, gy⟩ := h2.shape
  have GX : Hid _ := gx
  have GY : Hid _ := gy
  clear h1 h2 gx gy
  rcases Nat.lt_trichotomy xs.length ys.length with hlt | heq | hgt
  · have e1 : ((xs.length : Int) != (ys.length : Int)) = true := by simp; omega
    have e2 : (xs.length : Int) < (ys.length : Int) := by omega
    have e3 : Hid (-1 = R) := L1.out hlt
    clear L1 L2 D1 D2 D3
    go_enter Tryz.func92, Tryz.ntmps92
    go_wp2_with fail
    go_ret
    exact ⟨ret_int e3.out, Ext.refl _⟩
  · have hl : Hid (xs.length = ys.length) := heq
    have e1 : ((xs.length : Int) != (ys.length : Int)) = false := by simp; omega
    clear L1 L2 heq
    go_enter Tryz.func92, Tryz.ntmps92
    go_wp2_with fail
    go_loopw [5] (fun i wr => ∃ t : Nat, t ≤ xs.length ∧ i = J zq ((t : Int) - 1) ∧ (∀ j, t ≤ j → xs.getD j 0 = ys.getD j 0) ∧ Ext w wr) (fun i _ => ((intOf i) + 1).toNat)
    case atStart =>
      refine ⟨xs.length, Nat.le_refl _, rfl, fun j hj => ?_, Ext.refl _⟩
      rw [List.getD_eq_getElem?_getD, List.getD_eq_getElem?_getD, List.getElem?_eq_none hj, List.getElem?_eq_none (by have := hl.out; omega)]
    case round =>
      obtain ⟨t, ht, rfl, heq, hx⟩ := hrel
      have HE : Hid _ := heq
      clear heq
      cases t with
      | zero =>
        have e3 : Hid (0 = R) := D3.out HE.out
        go_wp2_with fail
        go_ret
        exact ⟨ret_int e3.out, hx⟩
      | succ t =>
        obtain ⟨blx, ofx, rfl, cx'⟩ := GX.out (by omega)
        obtain ⟨bly, ofy, rfl, cy'⟩ := GY.out (by have := hl.out; omega)
        have hty : t < ys.length := by have := hl.out; omega
        have hcx := (hx.lay).1 blx (ofx + t) (cell_lt (cx' t (by omega)))
        rw [cx' t (by omega)] at hcx
        have hcy := (hx.lay).1 bly (ofy + t) (cell_lt (cy' t hty))
        rw [cy' t hty] at hcy
        have kx : (t : Int) < (xs.length : Int) := by omega
        have ky : (t : Int) < (ys.length : Int) := by omega
        have et : ((t + 1 : Nat) : Int) - 1 = (t : Int) := by omega
        rw [et]
        obtain ⟨X, gX⟩ : ∃ X : Int, ((xs.getD t 0 : Nat) : Int) = X := ⟨_, rfl⟩
        obtain ⟨Y, gY⟩ : ∃ Y : Int, ((ys.getD t 0 : Nat) : Int) = Y := ⟨_, rfl⟩
        rw [gX] at hcx
        rw [gY] at hcy
        rcases Int.lt_trichotomy X Y with c | c | c
        · have e3 : Hid (-1 = R) := D1.out t HE.out (by omega)
          clear gX gY et cx' cy' D1 D2 D3
          go_wp2_with fail
          go_quiet (fail)
          go_wp2_with fail
          go_ret
          exact ⟨ret_int e3.out, hx.drewN _⟩
        · have HE' : Hid (∀ j, t ≤ j → xs.getD j 0 = ys.getD j 0) := by
            intro j hj
            by_cases e : j = t
            · rw [e]; omega
            · exact HE.out j (by omega)
          subst c
          clear gX gY et cx' cy' D1 D2 D3 HE
          go_wp2_with fail
          go_quiet (fail)
          go_wp2_with fail
          go_quiet (fail)
          go_wp2_with fail
          go_roundw
          case rel => exact ⟨t, by omega, by go_num, HE'.out, hx.drewN _⟩
          case measure => simp [intOf]
        · have e3 : Hid (1 = R) := D2.out t HE.out (by omega)
          clear gX gY et cx' cy' D1 D2 D3
          have hnl : ¬ X < Y := by omega
          go_wp2_with fail
          go_quiet (fail)
          go_wp2_with fail
          go_quiet (fail)
          go_wp2_with fail
          go_ret
          exact ⟨ret_int e3.out, (hx.drewN _).drewN _⟩
  · have e1 : ((xs.length : Int) != (ys.length : Int)) = true := by simp; omega
    have e2 : ¬ (xs.length : Int) < (ys.length : Int) := by omega
    have e3 : Hid (1 = R) := L2.out hgt
    clear L1 L2 D1 D2 D3
    go_enter Tryz.func92, Tryz.ntmps92
    go_wp2_with fail
    go_ret
    exact ⟨ret_int e3.out, Ext.refl _⟩
namespace Dig
def fval (B : Nat) (F : Nat → Nat) : Nat → Nat
  | 0 => 0
  | n + 1 => fval B F n + B ^ n * F n
def upd (F : Nat → Nat) (i z : Nat) : Nat → Nat := fun j => if j = i then z else F j
theorem fval_congr (B : Nat) (F G : Nat → Nat) (n : Nat) (h : ∀ j, j < n → F j = G j) : fval B F n = fval B G n := by
  induction n with
  | zero => rfl
  | succ n ih => simp only [fval]; rw [ih (fun j hj => h j (by omega)), h n (by omega)]
theorem fval_upd (B : Nat) (F : Nat → Nat) (i z n : Nat) (hi : i < n) : fval B (upd F i z) n + B ^ i * F i = fval B F n + B ^ i * z := by
  induction n with
  | zero => omega
  | succ n ih =>
    simp only [fval]
    by_cases h : i = n
    · subst h
      rw [fval_congr B (upd F i z) F i (fun j hj => by unfold upd; rw [if_neg (by omega)])]
      have : upd F i z i = z := by unfold upd; rw [if_pos rfl]
      rw [this]; omega
    · have := ih (by omega)
      have e : upd F i z n = F n := by unfold upd; rw [if_neg (by omega)]
      rw [e]; omega
theorem val_range (B : Nat) (F : Nat → Nat) (n : Nat) : val B ((List.range n).map F) = fval B F n := by
  induction n with
  | zero => rfl
  | succ n ih => rw [List.range_succ, List.map_append, List.map_singleton, val_snoc, ih]; simp [fval]
theorem fval_zero (B n : Nat) : fval B (fun _ => 0) n = 0 := by
  induction n with
  | zero => rfl
  | succ n ih => simp [fval, ih]
def TOut (xs ys : List Nat) (i : Nat) (F : Nat → Nat) : Prop :=
  fval 4294967296 F (xs.length + ys.length) = val 4294967296 (xs.take i) * val 4294967296 ys ∧ (∀ j, i + ys.length ≤ j → F j = 0) ∧ (∀ j, F j < 4294967296)
def TIn (xs ys : List Nat) (i k c : Nat) (F : Nat → Nat) : Prop :=
  fval 4294967296 F (xs.length + ys.length) + 4294967296 ^ (i + k) * c = val 4294967296 (xs.take i) * val 4294967296 ys + 4294967296 ^ i * xs.getD i 0 * val 4294967296 (ys.take k) ∧ (∀ j, i + ys.length ≤ j → F j = 0) ∧ (∀ j, F j < 4294967296) ∧ c < 4294967296
theorem TOut.start (xs ys : List Nat) : TOut xs ys 0 (fun _ => 0) := ⟨by rw [fval_zero]; simp [val], fun _ _ => rfl, fun _ => by show 0 < _; omega⟩
theorem TOut.into {xs ys : List Nat} {i : Nat} {F : Nat → Nat} (h : TOut xs ys i F) : TIn xs ys i 0 0 F := ⟨by rw [h.1]; simp [val], h.2.1, h.2.2, by omega⟩
theorem TIn.step {xs ys : List Nat} {i k c : Nat} {F : Nat → Nat} (h : TIn xs ys i k c F) (hi : i < xs.length) (hk : k < ys.length) (hx : xs.getD i 0 < 4294967296) (hy : ys.getD k 0 < 4294967296) :
    c + F (i + k) + xs.getD i 0 * ys.getD k 0 < 18446744073709551616 ∧
    TIn xs ys i (k + 1) ((c + F (i + k) + xs.getD i 0 * ys.getD k 0) / 4294967296) (upd F (i + k) ((c + F (i + k) + xs.getD i 0 * ys.getD k 0) % 4294967296)) := by
  obtain ⟨h1, h2, h3, h4⟩ := h
  have hF := h3 (i + k)
  have hp : xs.getD i 0 * ys.getD k 0 ≤ 4294967295 * 4294967295 := Nat.mul_le_mul (by omega) (by omega)
  have hs : c + F (i + k) + xs.getD i 0 * ys.getD k 0 < 18446744073709551616 := by omega
  refine ⟨hs, ?_, ?_, ?_, by omega⟩
  · have hu := fval_upd 4294967296 F (i + k) ((c + F (i + k) + xs.getD i 0 * ys.getD k 0) % 4294967296) (xs.length + ys.length) (by omega)
    have hm := Nat.mod_add_div (c + F (i + k) + xs.getD i 0 * ys.getD k 0) 4294967296
    generalize (c + F (i + k) + xs.getD i 0 * ys.getD k 0) % 4294967296 = z at *
    generalize (c + F (i + k) + xs.getD i 0 * ys.getD k 0) / 4294967296 = q at *
    rw [val_take_succ, ← Nat.add_assoc, Nat.pow_succ, Nat.mul_add]
    have e1 : 4294967296 ^ (i + k) * (z + 4294967296 * q) = 4294967296 ^ (i + k) * c + 4294967296 ^ (i + k) * F (i + k) + 4294967296 ^ (i + k) * (xs.getD i 0 * ys.getD k 0) := by rw [hm, Nat.mul_add, Nat.mul_add]
    have e2 : 4294967296 ^ i * xs.getD i 0 * (4294967296 ^ k * ys.getD k 0) = 4294967296 ^ (i + k) * (xs.getD i 0 * ys.getD k 0) := by
      rw [Nat.pow_add]; simp only [Nat.mul_assoc, Nat.mul_left_comm, Nat.mul_comm]
    rw [Nat.mul_add, ← Nat.mul_assoc] at e1
    rw [e2]
    omega
  · intro j hj
    unfold upd
    rw [if_neg (by omega)]
    exact h2 j hj
  · intro j
    unfold upd
    split
    · omega
    · exact h3 j
theorem TIn.out {xs ys : List Nat} {i c : Nat} {F : Nat → Nat} (h : TIn xs ys i ys.length c F) (hi : i < xs.length) : TOut xs ys (i + 1) (upd F (i + ys.length) c) := by
  obtain ⟨h1, h2, h3, h4⟩ := h
  refine ⟨?_, ?_, ?_⟩
  · have hu := fval_upd 4294967296 F (i + ys.length) c (xs.length + ys.length) (by omega)
    rw [h2 (i + ys.length) (by omega), Nat.mul_zero, Nat.add_zero] at hu
    rw [hu, h1, List.take_of_length_le (Nat.le_refl _), val_take_succ, Nat.add_mul]
  · intro j hj
    unfold upd
    rw [if_neg (by omega)]
    exact h2 j (by omega)
  · intro j
    unfold upd
    split
    · exact h4
    · exact h3 j
theorem TOut.done {xs ys : List Nat} {F : Nat → Nat} (h : TOut xs ys xs.length F) : Ok 4294967296 ((List.range (xs.length + ys.length)).map F) ∧ val 4294967296 ((List.range (xs.length + ys.length)).map F) = val 4294967296 xs * val 4294967296 ys := by
  refine ⟨?_, by rw [val_range, h.1, List.take_of_length_le (Nat.le_refl _)]⟩
  intro j
  rw [List.getD_eq_getElem?_getD, List.getElem?_map]
  by_cases hj : j < xs.length + ys.length
  · rw [List.getElem?_range hj]
    exact h.2.2 j
  · rw [List.getElem?_eq_none (by simp; omega)]
    show 0 < _
    omega
end Dig
def f32 (F : Nat → Nat) : Nat → Value := fun j => .int .u32 (F j : Int)
theorem row_of_is {w : World} {g : Nat} {t : TypeId} {L : Nat} {F : Nat → Nat} (h : w.rowIs g t L (f32 F)) (hL : L ≤ 100000) : Row .u32 w (.slice (some ⟨g, 0, none⟩) L L) ((List.range L).map F) := by
  refine .inr ⟨g, 0, L, by simp, by simp, by unfold maxLen; omega, ?_⟩
  intro i hi
  have hi' : i < L := by simpa using hi
  rw [Nat.zero_add, h.cell hi', List.getD_eq_getElem?_getD, List.getElem?_map, List.getElem?_range hi']
  rfl
theorem is_upd {w : World} {g : Nat} {t : TypeId} {L : Nat} {F : Nat → Nat} (h : w.rowIs g t L (f32 F)) (i z : Nat) : (w.setCell ⟨g, i, none⟩ (.int .u32 (z : Int))).rowIs g t L (f32 (Dig.upd F i z)) :=
  (h.set i _).congr fun j _ => by unfold f32 Dig.upd; split <;> rfl
theorem row_drewN {w : World} {g : Nat} {t : TypeId} {L : Nat} {f : Nat → Value} (h : w.rowIs g t L f) : ∀ n, (w.drewN n).rowIs g t L f
  | 0 => h
  | n + 1 => (row_drewN h n).drew
theorem Ext.setCell {a w : World} (h : Ext a w) {g i : Nat} (hg : a.heap.size ≤ g) (v : Value) : Ext a (w.setCell ⟨g, i, none⟩ v) := Below.setCell h hg v
set_option maxHeartbeats 4000000 in
theorem ntimes_any (m n : Nat) (v1 v2 : Value) (w : World) (h1 : IsN w v1 m) (h2 : IsN w v2 n) (s1 : Small m) (s2 : Small n) :
    Calls zP 95 #[v1, v2] w fun e w' => (∃ v', e = zR v' ∧ IsN w' v' (m * n)) ∧ Ext w w' := by
  have ok1 := Dig.okd 4294967296 m (by omega)
  have ok2 := Dig.okd 4294967296 n (by omega)
  have V1 := Dig.vald 4294967296 m (by omega)
  have V2 := Dig.vald 4294967296 n (by omega)
  have H1 : Hid (∀ w', Ext w w' → Calls zP 122 #[v1] w' fun e w'' => (∃ v', e = zR v' ∧ Row .u32 w'' v' (Dig.digs 4294967296 m)) ∧ Ext w' w'') := fun w' hx => halves_any m v1 w' (h1.ext hx) s1.1
  have H2 : Hid (∀ w', Ext w w' → Calls zP 122 #[v2] w' fun e w'' => (∃ v', e = zR v' ∧ Row .u32 w'' v' (Dig.digs 4294967296 n)) ∧ Ext w' w'') := fun w' hx => halves_any n v2 w' (h2.ext hx) s2.1
  have S1 : (Dig.digs 4294967296 m).length ≤ 2000 := s1.2
  have S2 : (Dig.digs 4294967296 n).length ≤ 2000 := s2.2
  have HD : Hid (∀ F, Dig.TOut (Dig.digs 4294967296 m) (Dig.digs 4294967296 n) (Dig.digs 4294967296 m).length F → (∀ v w, Row .u32 w v ((List.range ((Dig.digs 4294967296 m).length + (Dig.digs 4294967296 n).length)).map F) → Calls zP 124 #[v] w fun e w' => (∃ v', e = zR v' ∧ Row .u32 w v' (Dig.digs 4294967296 (m * n))) ∧ w' = w) ∧
    (∀ v w, Row .u32 w v (Dig.digs 4294967296 (m * n)) → Calls zP 123 #[v] w fun e w' => (∃ v', e = zR v' ∧ IsN w' v' (m * n)) ∧ Ext w w')) := by
    intro F hF
    obtain ⟨d1, d2⟩ := hF.done
    rw [V1, V2] at d2
    exact cutwhole _ d1 (by simp; omega) _ d2
  clear h1 h2 s1 s2 V1 V2
  generalize Dig.digs 4294967296 m = xs at *
  generalize Dig.digs 4294967296 n = ys at *
  obtain ⟨L, hL, eL⟩ : ∃ L : Nat, Hid (xs.length + ys.length = L) ∧ (xs.length : Int) + (ys.length : Int) = (L : Int) := ⟨_, rfl, by omega⟩
  have hL4 : L ≤ 4000 := by have := hL.out; omega
  rw [hL.out] at HD
  have hmk := run_make_row' (P := Tryz.prog) 162 164 (.int .u32 0) 4 Tryz.underlying162 Tryz.info32 rfl .i64 .i64 L (by omega) (by omega)
  go_enter Tryz.func95, Tryz.ntmps95
  go_wp2_with fail
  refine (H1.out _ (Ext.refl _)).mono ?_
  rintro e w1 ⟨⟨x, rfl, hx⟩, x1⟩
  go_wp2_with fail
  refine (H2.out _ x1).mono ?_
  rintro e w2 ⟨⟨y, rfl, hy⟩, x2⟩
  have hx' := hx.ext x2
  have X2 : Hid (Ext w w2) := x1.trans x2
  obtain ⟨ax, cx, rfl, gx⟩ := hx'.shape
  obtain ⟨ay, cy, rfl, gy⟩ := hy.shape
  have GX : Hid _ := gx
  have GY : Hid _ := gy
  clear hx hy hx' x1 x2 H1 H2 gx gy
  go_wp2_with fail
  clear hmk
  go_loopw [8] (fun i wr => ∃ (t : Nat) (F : Nat → Nat), t ≤ xs.length ∧ i = J zq (t : Int) ∧ Dig.TOut xs ys t F ∧ wr.rowIs w2.heap.size 164 L (f32 F) ∧ Ext w2 wr) (fun i _ => xs.length - (intOf i).toNat)
  case atStart => exact ⟨0, fun _ => 0, by omega, rfl, Dig.TOut.start _ _, World.rowIs_made _ _ _ _, (Ext.refl _).alloc _⟩
  case round =>
    obtain ⟨t, F, ht, rfl, hT, hrow, hx⟩ := hrel
    by_cases hlt : t < xs.length
    · obtain ⟨blx, ofx, rfl, cx'⟩ := GX.out (by omega)
      have hcx := cx' t hlt
      have hxt := ok1 t
      obtain ⟨X, gX, gX', gX''⟩ : ∃ X : Int, ((xs.getD t 0 : Nat) : Int) = X ∧ 0 ≤ X ∧ X < 4294967296 := ⟨_, rfl, by omega, by omega⟩
      rw [gX] at hcx
      have hlt' : (t : Int) < (xs.length : Int) := by omega
      have hI := hT.into
      clear hT cx'
      go_wp2_with fail
      go_loopw [9, 10] (fun c kk wi => ∃ (k C : Nat) (G : Nat → Nat), k ≤ ys.length ∧ kk = J zq (k : Int) ∧ c = J zu (C : Int) ∧ Dig.TIn xs ys t k C G ∧ wi.rowIs w2.heap.size 164 L (f32 G) ∧ Ext w2 wi) (fun _ kk _ => ys.length - (intOf kk).toNat)
      case atStart => exact ⟨0, 0, F, by omega, rfl, rfl, hI, hrow, hx⟩
      case round =>
        clear hI hrow hx
        obtain ⟨k, C, G, hk, rfl, rfl, hG, hrow, hx⟩ := hrel
        have hC4 := hG.2.2.2
        obtain ⟨c0, gc, gc', gc''⟩ : ∃ c : Int, (C : Int) = c ∧ 0 ≤ c ∧ c < 4294967296 := ⟨_, rfl, by omega, by omega⟩
        rw [gc]
        by_cases hky : k < ys.length
        · obtain ⟨bly, ofy, rfl, cy'⟩ := GY.out (by omega)
          have hcy := (hx.lay).1 bly (ofy + k) (cell_lt (cy' k hky))
          rw [cy' k hky] at hcy
          have hcx2 := (hx.lay).1 blx (ofx + t) (cell_lt hcx)
          rw [hcx] at hcx2
          have hyk := ok2 k
          obtain ⟨Y, gY, gY', gY''⟩ : ∃ X : Int, ((ys.getD k 0 : Nat) : Int) = X ∧ 0 ≤ X ∧ X < 4294967296 := ⟨_, rfl, by omega, by omega⟩
          rw [gY] at hcy
          have hky' : (k : Int) < (ys.length : Int) := by omega
          have htk : (t : Int) + (k : Int) < (L : Int) := by have := hL.out; omega
          have htkn : t + k < L := by omega
          have hcl := hrow.cell htkn
          have hfr := hrow.frozen (t + k)
          have hGk := hG.2.2.1 (t + k)
          obtain ⟨hs, hst⟩ := hG.step hlt hky hxt hyk
          obtain ⟨Fv, gF, gF', gF''⟩ : ∃ X : Int, ((G (t + k) : Nat) : Int) = X ∧ 0 ≤ X ∧ X < 4294967296 := ⟨_, rfl, by omega, by omega⟩
          have hcl' : wr.cell? ⟨w2.heap.size, t + k, none⟩ = some (.int .u32 Fv) := by rw [hcl]; unfold f32; rw [gF]
          obtain ⟨P, gP, gP2, gP', gP''⟩ := Num.prod_of X Y gX' gX'' gY' gY''
          have hP : ((xs.getD t 0 * ys.getD k 0 : Nat) : Int) = P := by rw [Int.natCast_mul, gX, gY]; exact gP2
          obtain ⟨Z, eZ, fZ⟩ : ∃ Z : Int, IntKind.u32.wrap (c0 + Fv + P) = Z ∧ Hid (Z = (((C + G (t + k) + xs.getD t 0 * ys.getD k 0) % 4294967296 : Nat) : Int)) := ⟨_, rfl, by show _ = _; rw [IntKind.wrap_u32]; omega⟩
          obtain ⟨D, eD, fD⟩ : ∃ D : Int, (c0 + Fv + P) / 4294967296 = D ∧ Hid ((((C + G (t + k) + xs.getD t 0 * ys.getD k 0) / 4294967296 : Nat) : Int) = D) := ⟨_, rfl, by show _ = _; omega⟩
          have hS : c0 + Fv + P < 18446744073709551616 := by omega
          have HR : Hid (∀ nq : Nat, ((wr.drewN nq).setCell ⟨w2.heap.size, t + k, none⟩ (.int .u32 Z)).rowIs w2.heap.size 164 L (f32 (Dig.upd G (t + k) ((C + G (t + k) + xs.getD t 0 * ys.getD k 0) % 4294967296)))) := by
            intro nq
            rw [fZ.out]
            exact is_upd (row_drewN hrow nq) _ _
          have HX : Hid (∀ nq : Nat, Ext w2 ((wr.drewN nq).setCell ⟨w2.heap.size, t + k, none⟩ (.int .u32 Z))) := fun nq => (hx.drewN nq).setCell (Nat.le_refl _) _
          have HS : Hid _ := hst
          clear gX gY gF gP2 hP hs hst hG hrow cy' hcx hxt hyk hGk hC4 fZ hcl
          go_wp2_with fail
          go_quiet (fail)
          go_wp2_with fail
          go_roundw
          case rel => exact ⟨k + 1, _, _, by omega, by go_num, congrArg (Value.int .u64) fD.out.symm, HS.out, HR.out _, HX.out _⟩
          case measure => simp [intOf]; omega
        · have hky' : ¬ (k : Int) < (ys.length : Int) := by omega
          obtain rfl : k = ys.length := by omega
          have htk : (t : Int) + (ys.length : Int) < (L : Int) := by have := hL.out; omega
          have htkn : t + ys.length < L := by omega
          have hcl := hrow.cell htkn
          have hfr := hrow.frozen (t + ys.length)
          have HS : Hid _ := hG.out hlt
          have HR : Hid ((wr.setCell ⟨w2.heap.size, t + ys.length, none⟩ (.int .u32 c0)).rowIs w2.heap.size 164 L (f32 (Dig.upd G (t + ys.length) C))) := by
            rw [← gc]
            exact is_upd hrow _ _
          have HX : Hid (Ext w2 (wr.setCell ⟨w2.heap.size, t + ys.length, none⟩ (.int .u32 c0))) := hx.setCell (Nat.le_refl _) _
          clear gc hG hrow hcx hxt hC4 gX
          go_wp2_with fail
          go_roundw
          case rel => exact ⟨t + 1, _, by omega, by go_num, HS.out, HR.out, HX.out⟩
          case measure => simp [intOf]; omega
    · have hlt' : ¬ (t : Int) < (xs.length : Int) := by omega
      obtain rfl : t = xs.length := by omega
      obtain ⟨hcut, hwhole⟩ := HD.out F hT
      have HCu : Hid _ := hcut
      have HWh : Hid _ := hwhole
      have hr := row_of_is hrow (by omega)
      clear hcut hwhole hT hrow
      go_wp2_with fail
      refine (HCu.out _ _ hr).mono ?_
      rintro e w4 ⟨⟨v3, rfl, hr3⟩, rfl⟩
      clear hr
      go_wp2_with fail
      refine (HWh.out _ _ hr3).mono ?_
      rintro e w5 ⟨⟨v4, rfl, hr4⟩, x5⟩
      go_wp2_with fail
      go_ret
      exact ⟨⟨_, rfl, hr4⟩, (X2.out.trans hx).trans x5⟩
theorem Ext.kept {w w' : World} (h : Ext w w') {b o : Nat} {v : Value} (hc : w.cell? ⟨b, o, none⟩ = some v) : w'.cell? ⟨b, o, none⟩ = some v := by
  rw [(h.lay).1 b o (cell_lt hc)]
  exact hc
theorem shl_limb (x c s : Nat) (hx : x < 18446744073709551616) (hs : s ≤ 63) (hc : c < 2 ^ s) :
    ∃ y : Nat, bits BinOp.or IntKind.u64 (IntKind.u64.wrap ((x : Int) * 2 ^ s)) (c : Int) = (y : Int) ∧ y < 18446744073709551616 ∧ y + 18446744073709551616 * (x / 2 ^ (64 - s)) = x * 2 ^ s + c ∧ x / 2 ^ (64 - s) < 2 ^ s := by
  have hp : 0 < 2 ^ s := Nat.pow_pos (by omega)
  have e64 : 2 ^ (64 - s) * 2 ^ s = 18446744073709551616 := by rw [← Nat.pow_add, show 64 - s + s = 64 by omega]
  have e1 : x * 2 ^ s % 18446744073709551616 = (x % 2 ^ (64 - s)) * 2 ^ s := by rw [← e64, Nat.mul_mod_mul_right]
  have e2 : x * 2 ^ s / 18446744073709551616 = x / 2 ^ (64 - s) := by rw [← e64, Nat.mul_div_mul_right _ _ hp]
  have hm := Nat.mod_add_div (x * 2 ^ s) 18446744073709551616
  have hlt : x * 2 ^ s % 18446744073709551616 < 18446744073709551616 := Nat.mod_lt _ (by omega)
  have hlt2 : (x % 2 ^ (64 - s) + 1) * 2 ^ s ≤ 2 ^ (64 - s) * 2 ^ s := Nat.mul_le_mul_right _ (Nat.mod_lt _ (Nat.pow_pos (by omega)))
  rw [Nat.add_mul, Nat.one_mul, e64, ← e1] at hlt2
  rw [e2] at hm
  refine ⟨x * 2 ^ s % 18446744073709551616 + c, ?_, by omega, by omega, ?_⟩
  · rw [Num.cast_shl, Num.wrapMod, e1]
    exact Num.or_shift _ _ _ hs hc (by rw [← e1]; exact hlt)
  · rw [Nat.div_lt_iff_lt_mul (Nat.pow_pos (by omega)), Nat.mul_comm, e64]
    exact hx
def URel (xs : List Nat) (s k c : Nat) (zs : List Nat) : Prop :=
  zs.length = k ∧ Dig.Ok 18446744073709551616 zs ∧ c < 2 ^ s ∧ Dig.val 18446744073709551616 zs + 18446744073709551616 ^ k * c = Dig.val 18446744073709551616 (xs.take k) * 2 ^ s
theorem URel.start (xs : List Nat) (s : Nat) : URel xs s 0 0 [] := ⟨rfl, Dig.ok_nil (by omega), Nat.pow_pos (by omega), by simp [Dig.val]⟩
theorem URel.step {xs : List Nat} {s k c : Nat} {zs : List Nat} (h : URel xs s k c zs) (y : Nat) (hy : y < 18446744073709551616) (e : y + 18446744073709551616 * (xs.getD k 0 / 2 ^ (64 - s)) = xs.getD k 0 * 2 ^ s + c) (hc : xs.getD k 0 / 2 ^ (64 - s) < 2 ^ s) :
    URel xs s (k + 1) (xs.getD k 0 / 2 ^ (64 - s)) (zs ++ [y]) := by
  obtain ⟨h1, h2, h3, h4⟩ := h
  refine ⟨by simp [h1], Dig.ok_snoc h2 hy, hc, ?_⟩
  rw [Dig.val_snoc, Dig.val_take_succ, h1, Nat.pow_succ, Nat.mul_assoc, Nat.add_mul, ← h4, Nat.mul_assoc (18446744073709551616 ^ k)]
  have := congrArg (fun z => 18446744073709551616 ^ k * z) e
  simp only [Nat.mul_add] at this
  omega
theorem zeros_val (B q : Nat) : Dig.val B (List.replicate q 0) = 0 := by
  induction q with
  | zero => rfl
  | succ q ih => simp [List.replicate_succ, Dig.val, ih]
theorem zeros_ok (B q : Nat) (hB : 0 < B) : Dig.Ok B (List.replicate q 0) := by
  induction q with
  | zero => exact Dig.ok_nil hB
  | succ q ih => exact Dig.ok_cons hB ih
theorem ok_append {B : Nat} {xs ys : List Nat} (h : Dig.Ok B xs) (k : Dig.Ok B ys) : Dig.Ok B (xs ++ ys) := by
  induction xs with
  | nil => exact k
  | cons x xs ih => exact Dig.ok_cons (by simpa using h 0) (ih (Dig.ok_tail h))
theorem URel.done {xs : List Nat} {s k c q : Nat} {zs : List Nat} (h : URel xs s k c zs) (hk : xs.length ≤ k) (hs : s ≤ 63) :
    Dig.Ok 18446744073709551616 (List.replicate q 0 ++ zs ++ [c]) ∧ Dig.val 18446744073709551616 (List.replicate q 0 ++ zs ++ [c]) = Dig.val 18446744073709551616 xs * 2 ^ (64 * q + s) := by
  obtain ⟨h1, h2, h3, h4⟩ := h
  have hc : c < 18446744073709551616 := by
    have := Nat.pow_le_pow_right (n := 2) (by omega) hs
    have e : (2 : Nat) ^ 63 = 9223372036854775808 := by decide
    omega
  refine ⟨Dig.ok_snoc (ok_append (zeros_ok _ q (by omega)) h2) hc, ?_⟩
  rw [List.append_assoc, Dig.val_append, zeros_val, Nat.zero_add, Dig.val_snoc, h1, h4, List.take_of_length_le hk, List.length_replicate, Nat.pow_add, Nat.pow_mul]
  have : (2 : Nat) ^ 64 = 18446744073709551616 := by decide
  rw [this, Nat.mul_left_comm]
theorem made_own (w : World) (q : Nat) (hq : q ≤ 100000) : (w.alloc (.cells (madeCells #[J zu 0] q) 90)).ownsRow w.heap.size 90 1 (.slice (some ⟨w.heap.size, 0, none⟩) q q) q (ints .u64 (List.replicate q 0)) := by
  refine ⟨by simp [ints], .inr ⟨w.heap.size, q, madeCells #[J zu 0] q, rfl, Nat.le_refl _, heap_alloc_new w _, Nat.le_refl _, by unfold maxLen; omega, by simp [size_madeCells], ?_⟩⟩
  apply List.ext_getElem?
  intro i
  by_cases hi : i < q
  · simp [ints, madeCells, hi, Nat.mod_one]
  · rw [List.getElem?_eq_none (by simp [size_madeCells]; omega), List.getElem?_eq_none (by simp [ints]; omega)]
set_option maxHeartbeats 4000000 in
theorem up2_any (m n : Nat) (v : Value) (w : World) (h1 : IsN w v m) (s1 : Small m) (hn : n ≤ 10000) :
    Calls zP 97 #[v, J zq (n : Int)] w fun e w' => (∃ v', e = zR v' ∧ IsN w' v' (m * 2 ^ n)) ∧ Ext w w' := by
  have ok1 := Dig.okd 18446744073709551616 m (by omega)
  have V1 := Dig.vald 18446744073709551616 m (by omega)
  have S1 : (Dig.digs 18446744073709551616 m).length ≤ 1000 := s1.1
  have hz : Dig.digs 18446744073709551616 m = [] → m = 0 := Dig.digs_nil _ _ (by omega)
  obtain ⟨q, s, hq, hs, hs63, hqn, hH⟩ : ∃ q s : Nat, (n : Int) / 64 = (q : Int) ∧ (n : Int) % 64 = (s : Int) ∧ s ≤ 63 ∧ q ≤ 200 ∧ Hid (n = 64 * q + s) := ⟨n / 64, n % 64, by omega, by omega, by omega, by omega, by show _ = _; omega⟩
  have HD : Hid (∀ k c zs, URel (Dig.digs 18446744073709551616 m) s k c zs → (Dig.digs 18446744073709551616 m).length ≤ k → ∀ v w, Row .u64 w v (List.replicate q 0 ++ zs ++ [c]) → Calls zP 96 #[v] w fun e w' => (∃ v', e = zR v' ∧ IsN w v' (m * 2 ^ n)) ∧ w' = w) := by
    intro k c zs hr hk v w hrow
    obtain ⟨d1, d2⟩ := hr.done (q := q) hk hs63
    have h := ntrim_any _ v w hrow d1
    rw [d2, V1, ← hH.out] at h
    exact h
  unfold IsN at h1
  clear s1 V1
  obtain ⟨i0, hi, hz0, hz1, hz2⟩ := info_parts Tryz.info64
  have hmk := run_make_row' (P := Tryz.prog) 48 90 (J zu 0) 8 Tryz.underlying48 Tryz.info64 rfl .i64 .i64 q (by omega) (by omega)
  generalize Dig.digs 18446744073709551616 m = xs at *
  obtain ⟨ax, cx, rfl, gx⟩ := h1.shape
  by_cases h0 : xs.length = 0
  · have hm0 : m = 0 := hz (List.eq_nil_of_length_eq_zero h0)
    subst hm0
    have e0 : ((xs.length : Int) == 0) = true := by rw [beq_iff_eq]; omega
    clear gx hmk hz
    go_enter Tryz.func97, Tryz.ntmps97
    go_wp2_with fail
    go_ret
    refine ⟨⟨_, rfl, .inl ⟨rfl, ?_⟩⟩, Ext.refl _⟩
    rw [Nat.zero_mul]; rfl
  · obtain ⟨b, o, rfl, hcell⟩ := gx (by omega)
    have hc : Hid _ := hcell
    have e0 : ((xs.length : Int) == 0) = false := beq_eq_false_iff_ne.2 (by omega)
    clear gx hcell hz h1
    go_enter Tryz.func97, Tryz.ntmps97
    go_wp2_with fail
    clear hmk hq hs e0
    go_loopw [5, 7, 8] (fun l c i wr => ∃ (k C : Nat) (zs : List Nat), k ≤ xs.length ∧ i = J zq (k : Int) ∧ c = J zu (C : Int) ∧ URel xs s k C zs ∧ wr.ownsRow w.heap.size 90 1 l (q + k) (ints .u64 (List.replicate q 0 ++ zs)) ∧ Ext w wr) (fun _ _ i _ => xs.length - (intOf i).toNat)
    case atStart => exact ⟨0, 0, [], by omega, rfl, rfl, URel.start _ _, by rw [List.append_nil]; exact made_own w q (by omega), (Ext.refl _).alloc _⟩
    case round =>
      obtain ⟨k, C, zs, hk, rfl, rfl, hU, hown, hx⟩ := hrel
      have hB : Hid (w.heap.size ≤ wr.heap.size) := hx.size
      by_cases hlt : k < xs.length
      · have hcx := (hx.lay).1 b (o + k) (cell_lt (hc.out k hlt))
        rw [hc.out k hlt] at hcx
        have hxk := ok1 k
        have hlt' : (k : Int) < (xs.length : Int) := by omega
        obtain ⟨y, y1, y2, y3, y4⟩ := shl_limb (xs.getD k 0) C s hxk hs63 hU.2.2.1
        have HS : Hid _ := hU.step y y2 y3 y4
        obtain ⟨yy, gy⟩ : ∃ yy : Int, (y : Int) = yy := ⟨_, rfl⟩
        obtain ⟨X, gX, gX', gX''⟩ : ∃ X : Int, ((xs.getD k 0 : Nat) : Int) = X ∧ 0 ≤ X ∧ X < 18446744073709551616 := ⟨_, rfl, by omega, by omega⟩
        obtain ⟨D, fD, fD2⟩ : ∃ D : Int, X / 2 ^ (64 - s) = D ∧ Hid (((xs.getD k 0 / 2 ^ (64 - s) : Nat) : Int) = D) := ⟨_, rfl, by show _ = _; rw [← gX, Num.cast_shr]⟩
        have hN : Hid (ints .u64 (List.replicate q 0 ++ (zs ++ [y])) = ints .u64 (List.replicate q 0 ++ zs) ++ [J zu yy]) := by
          show _ = _
          rw [← gy]; simp [ints]
        rw [gX] at hcx y1
        rw [gy] at y1
        obtain ⟨c0, gc⟩ : ∃ c : Int, (C : Int) = c := ⟨_, rfl⟩
        rw [gc] at y1 ⊢
        by_cases hs0 : 0 < s
        · have hs0' : (0 : Int) < (s : Int) := by omega
          have HCX : Hid (w.cell? ⟨b, o + k, none⟩ = some (J zu X)) := by show _ = _; rw [hc.out k hlt, gX]
          clear gX gy gc hU hxk y2 y3 y4
          go_wp2_with (at_builtin; refine wpList_append_lies _ rfl (.tmp 24) (.tmp 33) 48 rfl w.heap.size 90 i0 (J zu 0) 1 8 Tryz.underlying48 hi hz0 hz1 hz2 rfl (by decide) _ (q + k) _ rfl (hown.alloc _) ⟨wr.heap.size, 0, none⟩ 1 1 [J zu yy] rfl rfl (one_new wr _ _) (by simp [Value.oneCell']) (by decide) (by unfold maxLen; omega) (by omega) (by simp; exact Nat.le_succ_of_le hB.out) (wr.heap.size + 1) (by simp) ?_; intro g cap' wz hown' hg' hgb hgl; have R1 : Hid (wz.ownsRow w.heap.size 90 1 (.slice (some ⟨g, 0, none⟩) (q + k + 1) cap') (q + (k + 1)) (ints .u64 (List.replicate q 0 ++ (zs ++ [y])))) := (by show wz.ownsRow _ _ _ _ _ _; rw [hN.out]; exact hown'); have R2 : Hid (Ext w wz) := ext_grown (a := w) (hx.alloc _) (hown.alloc _) hg'; have hcz := R2.out.kept HCX.out; clear hown' hg' hgb hgl hown)
          go_roundw
          case rel => exact ⟨k + 1, _, _, by omega, by go_num, congrArg (Value.int .u64) fD2.out.symm, HS.out, R1.out, R2.out⟩
          case measure => simp [intOf]; omega
        · have hs0' : ¬ (0 : Int) < (s : Int) := by omega
          have HZ : Hid (((xs.getD k 0 / 2 ^ (64 - s) : Nat) : Int) = 0) := by
            obtain rfl : s = 0 := by omega
            show _ = _
            have : xs.getD k 0 / 2 ^ (64 - 0) < 2 ^ 0 := y4
            simp only [Nat.pow_zero] at this
            omega
          clear gX gy gc hU hxk y2 y3 y4 fD fD2
          go_wp2_with (at_builtin; refine wpList_append_lies _ rfl (.tmp 24) (.tmp 33) 48 rfl w.heap.size 90 i0 (J zu 0) 1 8 Tryz.underlying48 hi hz0 hz1 hz2 rfl (by decide) _ (q + k) _ rfl (hown.alloc _) ⟨wr.heap.size, 0, none⟩ 1 1 [J zu yy] rfl rfl (one_new wr _ _) (by simp [Value.oneCell']) (by decide) (by unfold maxLen; omega) (by omega) (by simp; exact Nat.le_succ_of_le hB.out) (wr.heap.size + 1) (by simp) ?_; intro g cap' wz hown' hg' hgb hgl; have R1 : Hid (wz.ownsRow w.heap.size 90 1 (.slice (some ⟨g, 0, none⟩) (q + k + 1) cap') (q + (k + 1)) (ints .u64 (List.replicate q 0 ++ (zs ++ [y])))) := (by show wz.ownsRow _ _ _ _ _ _; rw [hN.out]; exact hown'); have R2 : Hid (Ext w wz) := ext_grown (a := w) (hx.alloc _) (hown.alloc _) hg'; clear hown' hg' hgb hgl hown)
          go_roundw
          case rel => exact ⟨k + 1, _, _, by omega, by go_num, congrArg (Value.int .u64) HZ.out.symm, HS.out, R1.out, R2.out⟩
          case measure => simp [intOf]; omega
      · have hlt' : ¬ (k : Int) < (xs.length : Int) := by omega
        obtain ⟨c0, gc⟩ : ∃ c : Int, (C : Int) = c := ⟨_, rfl⟩
        have HT : Hid _ := HD.out k C zs hU (by omega)
        have hN : Hid (ints .u64 (List.replicate q 0 ++ zs ++ [C]) = ints .u64 (List.replicate q 0 ++ zs) ++ [J zu c0]) := by
          show _ = _
          rw [← gc]; simp [ints]
        rw [gc]
        clear gc hU
        go_wp2_with (at_builtin; refine wpList_append_lies _ rfl (.tmp 44) (.tmp 46) 48 rfl w.heap.size 90 i0 (J zu 0) 1 8 Tryz.underlying48 hi hz0 hz1 hz2 rfl (by decide) _ (q + k) _ rfl (hown.alloc _) ⟨wr.heap.size, 0, none⟩ 1 1 [J zu c0] rfl rfl (one_new wr _ _) (by simp [Value.oneCell']) (by decide) (by unfold maxLen; omega) (by omega) (by simp; exact Nat.le_succ_of_le hB.out) (wr.heap.size + 1) (by simp) ?_; intro g cap' wz hown' hg' hgb hgl; have R1 : Hid (wz.ownsRow w.heap.size 90 1 (.slice (some ⟨g, 0, none⟩) (q + k + 1) cap') (q + (k + 1)) (ints .u64 (List.replicate q 0 ++ zs ++ [C]))) := (by show wz.ownsRow _ _ _ _ _ _; rw [hN.out]; exact hown'); have R2 : Hid (Ext w wz) := ext_grown (a := w) (hx.alloc _) (hown.alloc _) hg'; clear hown' hg' hgb hgl hown)
        have hrow := row_of_own R1.out
        refine (HT.out _ _ hrow).mono ?_
        rintro e w4 ⟨⟨v3, rfl, hr3⟩, rfl⟩
        clear hrow
        go_wp2_with fail
        go_ret
        exact ⟨⟨_, rfl, hr3⟩, R2.out⟩
end Go.Proofs.YtoeecldhbabmbaaGreat
namespace Go.Proofs.YtoeecldhbabmbaaGreat.Dig
theorem digs_getD (B : Nat) (hB : 2 ≤ B) : ∀ i n, (digs B n).getD i 0 = n / B ^ i % B := by
  intro i
  induction i with
  | zero =>
    intro n
    by_cases h : n = 0
    · subst h; simp [digs_zero]
    · rw [digs_step B n hB h]; simp
  | succ i ih =>
    intro n
    by_cases h : n = 0
    · subst h; simp [digs_zero]
    · rw [digs_step B n hB h]
      simp only [List.getD_cons_succ]
      rw [ih, Nat.div_div_eq_div_mul, Nat.pow_succ, Nat.mul_comm B]
def blen (n : Nat) : Nat := if h : n = 0 then 0 else blen (n / 2) + 1
  decreasing_by omega
theorem blen_zero : blen 0 = 0 := by unfold blen; rfl
theorem blen_pos (n : Nat) (h : n ≠ 0) : blen n = blen (n / 2) + 1 := by
  rw [blen, dif_neg h]
theorem blen_shl (t k r : Nat) (ht : t ≠ 0) (hr : r < 2 ^ k) : blen (t * 2 ^ k + r) = blen t + k := by
  induction k generalizing r with
  | zero =>
    have : r = 0 := by simpa using hr
    subst this; simp
  | succ k ih =>
    have hp : 0 < 2 ^ k := Nat.pow_pos (by omega)
    have h1 : 1 * 2 ^ k ≤ t * 2 ^ k := Nat.mul_le_mul_right _ (by omega)
    have e1 : t * 2 ^ (k + 1) = 2 * (t * 2 ^ k) := by rw [Nat.pow_succ, ← Nat.mul_assoc, Nat.mul_comm]
    rw [blen_pos _ (by omega)]
    have e2 : (t * 2 ^ (k + 1) + r) / 2 = t * 2 ^ k + r / 2 := by omega
    rw [e2, ih (r / 2) (by rw [Nat.pow_succ] at hr; omega)]
    omega
theorem lt_blen : ∀ n, n < 2 ^ blen n := by
  intro n
  induction n using Nat.strongRecOn with
  | _ n ih =>
    by_cases h : n = 0
    · subst h; simp [blen_zero]
    · have := ih (n / 2) (by omega)
      rw [blen_pos n h, Nat.pow_succ]
      omega
theorem blen_le : ∀ n k, n < 2 ^ k → blen n ≤ k := by
  intro n
  induction n using Nat.strongRecOn with
  | _ n ih =>
    intro k hk
    by_cases h : n = 0
    · subst h; simp [blen_zero]
    · cases k with
      | zero => simp at hk; omega
      | succ k =>
        have := ih (n / 2) (by omega) k (by rw [Nat.pow_succ] at hk; omega)
        rw [blen_pos n h]
        omega
theorem blen_ge (n : Nat) (h : n ≠ 0) : 2 ^ blen n ≤ 2 * n := by
  apply Nat.le_of_not_lt
  intro hlt
  have h1 := blen_pos n h
  rw [h1, Nat.pow_succ] at hlt
  have := blen_le n (blen (n / 2)) (by omega)
  omega
theorem down_limb (X s j : Nat) (hs : s ≤ 63) :
    X / 18446744073709551616 ^ j % 18446744073709551616 / 2 ^ s + (X / 18446744073709551616 ^ (j + 1) % 18446744073709551616) % 2 ^ s * 2 ^ (64 - s) = X / 18446744073709551616 ^ j / 2 ^ s % 18446744073709551616 := by
  rw [Nat.pow_succ, ← Nat.div_div_eq_div_mul]
  generalize X / 18446744073709551616 ^ j = Y
  have hp : 0 < 2 ^ s := Nat.pow_pos (by omega)
  have hq : 0 < 2 ^ (64 - s) := Nat.pow_pos (by omega)
  have e64 : 2 ^ s * 2 ^ (64 - s) = 18446744073709551616 := by rw [← Nat.pow_add, show s + (64 - s) = 64 by omega]
  have hd : 2 ^ s ∣ 18446744073709551616 := ⟨_, e64.symm⟩
  rw [Nat.mod_mod_of_dvd _ hd]
  have hx : Y % 18446744073709551616 < 18446744073709551616 := Nat.mod_lt _ (by omega)
  have hY := Nat.mod_add_div Y 18446744073709551616
  generalize Y / 18446744073709551616 = Z at *
  generalize Y % 18446744073709551616 = x at *
  have hz := Nat.mod_add_div Z (2 ^ s)
  have e1 : Y / 2 ^ s = x / 2 ^ s + 2 ^ (64 - s) * Z := by
    rw [← hY, ← e64, Nat.mul_assoc, Nat.add_mul_div_left _ _ hp]
  have e2 : 2 ^ (64 - s) * Z = Z % 2 ^ s * 2 ^ (64 - s) + 18446744073709551616 * (Z / 2 ^ s) := by
    rw [← e64, Nat.mul_comm (2 ^ s) (2 ^ (64 - s)), Nat.mul_assoc, Nat.mul_comm (Z % 2 ^ s), ← Nat.mul_add, hz]
  rw [e1, e2, ← Nat.add_assoc, Nat.add_mul_mod_self_left]
  refine (Nat.mod_eq_of_lt ?_).symm
  have h1 : x / 2 ^ s < 2 ^ (64 - s) := by rw [Nat.div_lt_iff_lt_mul hp, Nat.mul_comm, e64]; exact hx
  have h2 : (Z % 2 ^ s + 1) * 2 ^ (64 - s) ≤ 2 ^ s * 2 ^ (64 - s) := Nat.mul_le_mul_right _ (Nat.mod_lt _ hp)
  rw [e64, Nat.add_mul, Nat.one_mul] at h2
  omega
def digN (B Y k : Nat) : List Nat := (List.range k).map fun j => Y / B ^ j % B
theorem digN_zero (B Y : Nat) : digN B Y 0 = [] := rfl
theorem digN_succ (B Y k : Nat) : digN B Y (k + 1) = digN B Y k ++ [Y / B ^ k % B] := by
  unfold digN; rw [List.range_succ, List.map_append, List.map_singleton]
theorem digN_length (B Y k : Nat) : (digN B Y k).length = k := by simp [digN]
theorem digN_ok (B Y k : Nat) (hB : 0 < B) : Ok B (digN B Y k) := by
  induction k with
  | zero => exact ok_nil hB
  | succ k ih => rw [digN_succ]; exact ok_snoc ih (Nat.mod_lt _ hB)
theorem digN_val (B Y k : Nat) : val B (digN B Y k) = Y % B ^ k := by
  induction k with
  | zero => simp [digN_zero, val, Nat.mod_one]
  | succ k ih => rw [digN_succ, val_snoc, ih, digN_length, Nat.pow_succ, Nat.mod_mul]
theorem digN_done (B Y k : Nat) (h : Y < B ^ k) : val B (digN B Y k) = Y := by rw [digN_val, Nat.mod_eq_of_lt h]
theorem down_lt (X q s L : Nat) (hX : X < 18446744073709551616 ^ L) (hq : q ≤ L) : X / 18446744073709551616 ^ q / 2 ^ s < 18446744073709551616 ^ (L - q) := by
  have h1 : X / 18446744073709551616 ^ q < 18446744073709551616 ^ (L - q) := by
    rw [Nat.div_lt_iff_lt_mul (Nat.pow_pos (by omega)), ← Nat.pow_add, show L - q + q = L by omega]
    exact hX
  exact Nat.lt_of_le_of_lt (Nat.div_le_self _ _) h1
theorem down_eq (X q s : Nat) : X / 18446744073709551616 ^ q / 2 ^ s = X / 2 ^ (64 * q + s) := by
  have : (18446744073709551616 : Nat) = 2 ^ 64 := by decide
  rw [Nat.div_div_eq_div_mul, this, ← Nat.pow_mul, ← Nat.pow_add]
theorem short_step (X d t : Nat) (hd : 0 < d) :
    (X / 4294967296 ^ (t + 1) % d * 4294967296 + X / 4294967296 ^ t % 4294967296) / d = X / d / 4294967296 ^ t % 4294967296 ∧
    (X / 4294967296 ^ (t + 1) % d * 4294967296 + X / 4294967296 ^ t % 4294967296) % d = X / 4294967296 ^ t % d := by
  have e0 : X / d / 4294967296 ^ t = X / 4294967296 ^ t / d := by rw [Nat.div_div_eq_div_mul, Nat.div_div_eq_div_mul, Nat.mul_comm]
  rw [e0, Nat.pow_succ, ← Nat.div_div_eq_div_mul]
  generalize X / 4294967296 ^ t = Y
  have hY := Nat.mod_add_div Y 4294967296
  have hx : Y % 4294967296 < 4294967296 := Nat.mod_lt _ (by omega)
  generalize Y / 4294967296 = Z at *
  generalize Y % 4294967296 = x at *
  have hZ := Nat.mod_add_div Z d
  have hr : Z % d < d := Nat.mod_lt _ hd
  generalize Z / d = q at *
  generalize Z % d = r at *
  have eY : Y = (r * 4294967296 + x) + d * (4294967296 * q) := by
    rw [← hY, ← hZ, Nat.mul_add, Nat.mul_left_comm d]; omega
  rw [eY, Nat.add_mul_div_left _ _ hd, Nat.add_mul_mod_self_left, Nat.add_mul_mod_self_left]
  have h1 : (r * 4294967296 + x) / d < 4294967296 := by
    rw [Nat.div_lt_iff_lt_mul hd]
    have := Nat.mul_le_mul_right 4294967296 (show r + 1 ≤ d from hr)
    rw [Nat.add_mul] at this
    rw [Nat.mul_comm 4294967296 d]
    omega
  exact ⟨(Nat.mod_eq_of_lt h1).symm, rfl⟩
structure DRelQNum3 (m b L t Q r : Nat) (F : Nat → Nat) : Prop where
  sum : m = b * Q + r
  rest : r < b * 2 ^ t
  low : ∀ j, 2 ^ t ∣ F j * 18446744073709551616 ^ j
  dig : ∀ j, F j < 18446744073709551616
theorem DRelQNum3.start {m b n : Nat} (L : Nat) (hb : b ≠ 0) (hn : blen m ≤ blen b + n) : DRelQNum3 m b L (n + 1) 0 m (fun _ => 0) := by
  refine ⟨by omega, ?_, fun j => ⟨0, by simp⟩, fun _ => by show 0 < _; omega⟩
  have h1 := lt_blen m
  have h2 := Nat.pow_le_pow_right (n := 2) (by omega) hn
  have h3 := Nat.mul_le_mul_right (2 ^ n) (blen_ge b hb)
  rw [Nat.pow_add] at h2
  rw [Nat.pow_succ]
  have e : 2 * b * 2 ^ n = b * (2 ^ n * 2) := by rw [Nat.mul_comm 2 b, Nat.mul_assoc, Nat.mul_comm 2]
  omega
theorem DRelQNum3.no {m b L i Q r : Nat} {F : Nat → Nat} (h : DRelQNum3 m b L (i + 1) Q r F) (hr : r < b * 2 ^ i) : DRelQNum3 m b L i Q r F :=
  ⟨h.sum, hr, fun j => Nat.dvd_trans (Nat.pow_dvd_pow 2 (by omega)) (h.low j), h.dig⟩
theorem DRelQNum3.bit {m b L i Q r : Nat} {F : Nat → Nat} (h : DRelQNum3 m b L (i + 1) Q r F) : F (i / 64) % 2 ^ (i % 64 + 1) = 0 ∧ F (i / 64) + 2 ^ (i % 64) < 18446744073709551616 := by
  have h1 := h.low (i / 64)
  have e : (18446744073709551616 : Nat) = 2 ^ 64 := by decide
  have e1 : (2 : Nat) ^ (i + 1) = 2 ^ (i % 64 + 1) * 18446744073709551616 ^ (i / 64) := by
    rw [e, ← Nat.pow_mul, ← Nat.pow_add]; congr 1; omega
  rw [e1] at h1
  have h2 : 2 ^ (i % 64 + 1) ∣ F (i / 64) := Nat.dvd_of_mul_dvd_mul_right (Nat.pow_pos (by omega)) h1
  refine ⟨Nat.mod_eq_zero_of_dvd h2, ?_⟩
  obtain ⟨c, hc⟩ := h2
  have h3 := h.dig (i / 64)
  have e2 : (18446744073709551616 : Nat) = 2 ^ (i % 64 + 1) * 2 ^ (63 - i % 64) := by rw [e, ← Nat.pow_add]; congr 1; omega
  have hp : 0 < 2 ^ (i % 64) := Nat.pow_pos (by omega)
  rw [hc, e2] at h3
  have h4 : c < 2 ^ (63 - i % 64) := Nat.lt_of_mul_lt_mul_left h3
  have h5 : 2 ^ (i % 64 + 1) * (c + 1) ≤ 2 ^ (i % 64 + 1) * 2 ^ (63 - i % 64) := Nat.mul_le_mul_left _ h4
  rw [← e2, Nat.mul_add, ← hc, Nat.mul_one, Nat.pow_succ] at h5
  omega
theorem or_bit (f s : Nat) (h : f % 2 ^ (s + 1) = 0) : f ||| 2 ^ s = f + 2 ^ s := by
  have e : f = 2 ^ (s + 1) * (f / 2 ^ (s + 1)) := by have := Nat.mod_add_div f (2 ^ (s + 1)); omega
  have hlt : 2 ^ s < 2 ^ (s + 1) := Nat.pow_lt_pow_right (by omega) (by omega)
  rw [e, ← Nat.two_pow_add_eq_or_of_lt hlt]
theorem length_bounds (B n k : Nat) (hB : 2 ≤ B) (h : (digs B n).length = k + 1) : B ^ k ≤ n ∧ n < B ^ (k + 1) := by
  constructor
  · apply Nat.le_of_not_lt
    intro hlt
    have := digs_length_le B hB n k hlt
    omega
  · have := val_lt B _ (okd B n hB)
    rw [vald B n hB, h] at this
    exact this
theorem blen_top (m k : Nat) (h : (digs 18446744073709551616 m).length = k + 1) : blen m = blen ((digs 18446744073709551616 m).getD k 0) + 64 * k := by
  obtain ⟨h1, h2⟩ := length_bounds _ m k (by omega) h
  have hp : 0 < 18446744073709551616 ^ k := Nat.pow_pos (by omega)
  have e : (18446744073709551616 : Nat) = 2 ^ 64 := by decide
  have h3 : m / 18446744073709551616 ^ k < 18446744073709551616 := by
    rw [Nat.div_lt_iff_lt_mul hp, Nat.mul_comm, ← Nat.pow_succ]; exact h2
  have h4 : m / 18446744073709551616 ^ k ≠ 0 := by
    intro h0
    have := Nat.lt_of_div_eq_zero hp h0
    omega
  rw [digs_getD _ (by omega), Nat.mod_eq_of_lt h3]
  have h5 := Nat.mod_lt m hp
  have h6 := Nat.mod_add_div m (18446744073709551616 ^ k)
  have e2 : (18446744073709551616 : Nat) ^ k = 2 ^ (64 * k) := by rw [e, ← Nat.pow_mul]
  rw [e2] at h4 h5 h6 ⊢
  have := blen_shl (m / 2 ^ (64 * k)) (64 * k) (m % 2 ^ (64 * k)) h4 h5
  rw [← this]
  congr 1
  rw [Nat.mul_comm]; omega
theorem blen_bound (m L : Nat) (h : (digs 18446744073709551616 m).length ≤ L) : blen m ≤ 64 * L := by
  apply blen_le
  have h1 := val_lt 18446744073709551616 _ (okd 18446744073709551616 m (by omega))
  rw [vald 18446744073709551616 m (by omega)] at h1
  have h2 := Nat.pow_le_pow_right (n := 18446744073709551616) (by omega) h
  have e : (18446744073709551616 : Nat) ^ L = 2 ^ (64 * L) := by
    have : (18446744073709551616 : Nat) = 2 ^ 64 := by decide
    rw [this, ← Nat.pow_mul]
  rw [← e]
  omega
theorem blen_half (c T N : Nat) (h : N + blen c = T) (h0 : c ≠ 0) : (N + 1) + blen (c / 2) = T := by
  rw [blen_pos c h0] at h; omega
end Go.Proofs.YtoeecldhbabmbaaGreat.Dig
namespace Go.Proofs.YtoeecldhbabmbaaGreat
open Go.RowKit
set_option maxHeartbeats 1000000 in
theorem nlen_any (m : Nat) (v : Value) (w : World) (h1 : IsN w v m) (s1 : Small m) :
    Calls zP 163 #[v] w fun e w' => e = zR (J zq (Dig.blen m : Int)) ∧ w' = w := by
  have ok1 := Dig.okd 18446744073709551616 m (by omega)
  have S1 : (Dig.digs 18446744073709551616 m).length ≤ 1000 := s1.1
  have T1 : Dig.blen m ≤ 64000 := Dig.blen_bound m 1000 S1
  have hz : Dig.digs 18446744073709551616 m = [] → m = 0 := Dig.digs_nil _ _ (by omega)
  have HB : Hid (∀ k, (Dig.digs 18446744073709551616 m).length = k + 1 → Dig.blen m = Dig.blen ((Dig.digs 18446744073709551616 m).getD k 0) + 64 * k) := fun k hk => Dig.blen_top m k hk
  unfold IsN at h1
  clear s1
  generalize Dig.digs 18446744073709551616 m = xs at *
  obtain ⟨ax, cx, rfl, gx⟩ := h1.shape
  clear h1
  cases hk : xs.length with
  | zero =>
    have hm0 : m = 0 := hz (List.eq_nil_of_length_eq_zero hk)
    subst hm0
    have e : Hid (0 = (Dig.blen 0 : Int)) := by show _ = _; rw [Dig.blen_zero]; rfl
    clear gx hz HB hk S1 T1
    go_enter Tryz.func163, Tryz.ntmps163
    go_wp2_with fail
    go_ret
    exact ⟨ret_int e.out, rfl⟩
  | succ k =>
    obtain ⟨b, o, rfl, hcell⟩ := gx (by omega)
    have hc := hcell k (by omega)
    have hT : Hid (64 * k + Dig.blen (xs.getD k 0) = Dig.blen m) := by have := HB.out k hk; show _ = _; omega
    have hxk := ok1 k
    have hk1 : k ≤ 999 := by omega
    generalize Dig.blen m = T at *
    clear gx hz HB hcell ok1 S1 hk
    obtain ⟨X, gX⟩ : ∃ X : Nat, xs.getD k 0 = X := ⟨_, rfl⟩
    rw [gX] at hc hT hxk
    clear gX
    go_enter Tryz.func163, Tryz.ntmps163
    go_wp2_with fail
    go_loop [3, 4] (fun n x => ∃ (c N : Nat), n = J zq (N : Int) ∧ x = J zu (c : Int) ∧ Hid (N + Dig.blen c = T) ∧ c < 18446744073709551616) (fun _ x => (intOf x).toNat)
    case atStart => exact ⟨X, 64 * k, by go_num, rfl, hT, hxk⟩
    case round =>
      clear hc hT hxk
      obtain ⟨c, N, rfl, rfl, hN, hc64⟩ := hrel
      by_cases h0 : c = 0
      · subst h0
        have e : Hid ((N : Int) = (T : Int)) := by have := hN.out; rw [Dig.blen_zero] at this; show _ = _; omega
        go_wp2_with fail
        go_ret
        exact ⟨ret_int e.out, rfl⟩
      · obtain ⟨C, gC, gC'⟩ : ∃ C : Int, (c : Int) = C ∧ 0 < C ∧ C < 18446744073709551616 := ⟨_, rfl, by omega, by omega⟩
        have hne : (C != 0) = true := by simp; omega
        have hN2 : N + 1 ≤ 64000 := by have := hN.out; rw [Dig.blen_pos c h0] at this; omega
        have HN' : Hid ((N + 1) + Dig.blen (c / 2) = T) := Dig.blen_half c T N hN.out h0
        have HD : Hid (C / 2 = ((c / 2 : Nat) : Int)) := by show _ = _; omega
        have HL : Hid ((C / 2).toNat < C.toNat) := by show _ < _; omega
        obtain ⟨gC1, gC2⟩ := gC'
        rw [gC]
        clear hN h0 gC
        go_wp2_with fail
        go_round
        case rel => exact ⟨c / 2, N + 1, by go_num, congrArg (Value.int .u64) HD.out, HN', by omega⟩
        case measure => exact HL.out
end Go.Proofs.YtoeecldhbabmbaaGreat
