/- The reference's whole numbers: what is given back lies in new blocks. The reference's whole numbers: NDivide, of long divisors. -/
import Derived.Test.YtoeecldhbabmbaaGreatMg33
import Derived.Test.YtoeecldhbabmbaaGreatMg34
open Go.Value renaming int → J
open Go.IntKind renaming i64 → zq, u64 → zu
open Go.Ending renaming returned → zR
open Go.Proofs.Tryz renaming prog → zP
namespace Go.Proofs.YtoeecldhbabmbaaGreat
open Go.RowKit
def At (B : Nat) (v : Value) : Prop := ∀ a l c, v = .slice (some a) l c → B ≤ a.block
theorem At.le {B C : Nat} {v : Value} (h : At B v) (hC : C ≤ B) : At C v := fun a l c e => Nat.le_trans hC (h a l c e)
theorem at_nil (B l c : Nat) : At B (.slice none l c) := fun _ _ _ e => by cases e
theorem at_some {B b : Nat} (h : B ≤ b) (o l c : Nat) : At B (.slice (some ⟨b, o, none⟩) l c) := fun _ _ _ e => by cases e; exact h
theorem at_own {w : World} {base n : Nat} {e : TypeId} {v : Value} {xs : List Value} (h : w.ownsRow base e 1 v n xs) : At base v := by
  rcases h.2 with ⟨hv, h0⟩ | ⟨g, cap, cur, hv, hb, hg, hn, hm, hs, ht⟩
  · rw [hv]; exact at_nil _ _ _
  · rw [hv]; exact at_some hb _ _ _
structure RowA (B : Nat) (k : IntKind) (w : World) (v : Value) (xs : List Nat) : Prop where
  row : Row k w v xs
  at_ : At B v
def IsA (B : Nat) (w : World) (v : Value) (n : Nat) : Prop := RowA B .u64 w v (Dig.digs 18446744073709551616 n)
theorem IsA.isN {B : Nat} {w : World} {v : Value} {n : Nat} (h : IsA B w v n) : IsN w v n := h.row
set_option maxHeartbeats 1000000 in
theorem ntrim_new (B : Nat) (xs : List Nat) (v : Value) (w : World) (hr : Row .u64 w v xs) (hok : Dig.Ok 18446744073709551616 xs) (hA : At B v) :
    Calls zP 96 #[v] w fun e w' => (∃ v', e = zR v' ∧ RowA B .u64 w v' (Dig.digs 18446744073709551616 (Dig.val 18446744073709551616 xs))) ∧ w' = w := by
  rcases hr with ⟨rfl, rfl⟩ | ⟨b, o, cap, rfl, h1, h2, hcell⟩
  · go_enter Tryz.func96, Tryz.ntmps96
    go_wp2_with fail
    refine wp_loop_rounds 1 ?_
    rw [rounds_succ]
    go_wp2_with fail
    go_ret
    exact ⟨⟨_, rfl, .inl ⟨rfl, rfl⟩, at_nil _ _ _⟩, rfl⟩
  · have hl : (xs.length : Int) ≤ 9223372036854775807 := by unfold maxLen at h2; omega
    have fin : ∀ m, m ≤ xs.length → (∀ j, m ≤ j → xs.getD j 0 = 0) → (m = 0 ∨ xs.getD (m - 1) 0 ≠ 0) → Row .u64 w (.slice (some ⟨b, o, none⟩) m cap) (Dig.digs 18446744073709551616 (Dig.val 18446744073709551616 xs)) := by
      intro m hm hz hlast
      have hlen : (xs.take m).length = m := by rw [List.length_take]; omega
      have e1 := Dig.canon 18446744073709551616 (by omega) (xs.take m) (Dig.ok_take hok m) (by
        rcases hlast with rfl | h
        · exact .inl rfl
        · by_cases hm0 : m = 0
          · subst hm0; exact .inl rfl
          · right
            rw [hlen, List.getD_eq_getElem?_getD, List.getElem?_take_of_lt (by omega), ← List.getD_eq_getElem?_getD]
            exact h)
      rw [Dig.val_take_zero 18446744073709551616 xs m hz] at e1
      rw [e1]
      refine .inr ⟨b, o, cap, by rw [hlen], by omega, h2, ?_⟩
      intro i hi
      rw [hlen] at hi
      rw [hcell i (by omega), List.getD_eq_getElem?_getD, List.getD_eq_getElem?_getD, List.getElem?_take_of_lt hi]
    have hF : Hid _ := fin
    have HA : Hid (B ≤ b) := hA _ _ _ rfl
    clear hA
    have hc : Hid _ := hcell
    have hm' : cap ≤ 9223372036854775807 := by unfold maxLen at h2; omega
    clear fin hcell h2 hok
    go_enter Tryz.func96, Tryz.ntmps96
    go_wp2_with fail
    go_loop [3] (fun n => ∃ m : Nat, m ≤ xs.length ∧ n = J zq m ∧ ∀ j, m ≤ j → xs.getD j 0 = 0) (fun n => (intOf n).toNat)
    case atStart => exact ⟨xs.length, Nat.le_refl _, rfl, fun j hj => by rw [List.getD_eq_getElem?_getD, List.getElem?_eq_none hj]; rfl⟩
    case round =>
      obtain ⟨m, hm, rfl, hz⟩ := hrel
      have hZ : Hid _ := hz
      clear hz
      cases m with
      | zero =>
        go_wp2_with fail
        go_ret
        exact ⟨⟨_, rfl, hF.out 0 (by omega) hZ.out (.inl rfl), at_some HA.out _ _ _⟩, rfl⟩
      | succ m =>
        have hcm := hc.out m (by omega)
        by_cases h0 : xs.getD m 0 = 0
        · have hZ' : Hid (∀ j, m ≤ j → xs.getD j 0 = 0) := by
            intro j hj
            by_cases e : j = m
            · rw [e]; exact h0
            · exact hZ.out j (by omega)
          rw [h0] at hcm
          clear h0
          have hpos : (0 : Int) < (m : Int) + 1 := by omega
          go_wp2_with fail
          go_round
          case rel => exact ⟨m, by omega, by go_num, hZ'.out⟩
          case measure => simp [intOf]
        · have hn : Hid (xs.getD m 0 ≠ 0) := h0
          obtain ⟨x, hx⟩ : ∃ x : Int, ((xs.getD m 0 : Nat) : Int) = x := ⟨_, rfl⟩
          have hx0 : (x == 0) = false := by rw [← hx]; simp only [beq_eq_false_iff_ne, ne_eq]; omega
          rw [hx] at hcm
          clear hx h0
          go_wp2_with fail
          go_ret
          exact ⟨⟨_, rfl, hF.out (m + 1) (by omega) hZ.out (.inr hn.out), at_some HA.out _ _ _⟩, rfl⟩
set_option maxHeartbeats 2000000 in
theorem whole_new (xs : List Nat) (v : Value) (w : World) (hr : Row .u32 w v xs) (hok : Dig.Ok 4294967296 xs) (hs : xs.length ≤ 10000) :
    Calls zP 123 #[v] w fun e w' => (∃ v', e = zR v' ∧ RowA w.heap.size .u64 w' v' (Dig.digs 18446744073709551616 (Dig.val 4294967296 xs))) ∧ Ext w w' := by
  have HC : Hid (∀ j v w', xs.length ≤ 2 * j → At w.heap.size v → Row .u64 w' v (wl xs j) → Calls zP 96 #[v] w' fun e w'' => (∃ v', e = zR v' ∧ RowA w.heap.size .u64 w' v' (Dig.digs 18446744073709551616 (Dig.val 4294967296 xs))) ∧ w'' = w') := by
    intro j v w' hj hA hr
    have h := ntrim_new w.heap.size _ v w' hr (wl_ok xs hok j) hA
    rw [wl_val, List.take_of_length_le hj] at h
    exact h
  generalize Dig.digs 18446744073709551616 (Dig.val 4294967296 xs) = out at *
  obtain ⟨i0, hi, hz0, hz1, hz2⟩ := info_parts Tryz.info64
  rcases hr with ⟨rfl, rfl⟩ | ⟨b, o, cap, rfl, h1, h2, hcell⟩
  · go_enter Tryz.func123, Tryz.ntmps123
    go_wp2_with fail
    refine wp_loop_rounds 1 ?_
    rw [rounds_succ]
    go_wp2_with fail
    refine (HC.out 0 _ _ (by simp) (at_nil _ _ _) (.inl ⟨rfl, rfl⟩)).mono ?_
    rintro e w1 ⟨⟨v', rfl, hr⟩, rfl⟩
    go_wp2_with fail
    go_ret
    exact ⟨⟨_, rfl, hr⟩, Ext.refl _⟩
  · have hc : Hid _ := hcell
    clear hcell h1 h2
    go_enter Tryz.func123, Tryz.ntmps123
    go_wp2_with fail
    go_loopw [3, 4] (fun l i wr => ∃ j t : Nat, t = 2 * j ∧ t ≤ xs.length + 1 ∧ i = J zq (t : Int) ∧ wr.ownsRow w.heap.size 90 1 l j (ints .u64 (wl xs j)) ∧ Ext w wr) (fun _ i _ => xs.length + 1 - (intOf i).toNat)
    case atStart => exact ⟨0, 0, rfl, Nat.zero_le _, rfl, World.ownsRow_nil _ _ _ _, Ext.refl _⟩
    case round =>
      obtain ⟨j, t, ht, hj, rfl, hown, hx⟩ := hrel
      have hB : Hid (w.heap.size ≤ wr.heap.size) := hx.size
      have hT : Hid (ints .u64 (wl xs (j + 1)) = ints .u64 (wl xs j) ++ [J zu ((xs.getD t 0 + 4294967296 * xs.getD (t + 1) 0 : Nat) : Int)]) := by
        show _ = _
        rw [wl_succ, ht]; simp [ints]
      have hH : Hid (t = 2 * j) := ht
      have hj2 : j ≤ 10001 := by omega
      clear ht
      by_cases hlt : t < xs.length
      · have hcx := (hx.lay).1 b (o + t) (cell_lt (hc.out _ hlt))
        rw [hc.out _ hlt] at hcx
        have hx0 := hok t
        have hx1 := hok (t + 1)
        have hlt' : (t : Int) < (xs.length : Int) := by omega
        obtain ⟨X0, g0, g0', g0''⟩ : ∃ X : Int, ((xs.getD t 0 : Nat) : Int) = X ∧ 0 ≤ X ∧ X < 4294967296 := ⟨_, rfl, by omega, by omega⟩
        rw [g0] at hcx
        by_cases hl2 : t + 1 < xs.length
        · have hcy := (hx.lay).1 b (o + (t + 1)) (cell_lt (hc.out _ hl2))
          rw [hc.out _ hl2] at hcy
          have hl2' : (t : Int) + 1 < (xs.length : Int) := by omega
          obtain ⟨X1, g1, g1', g1''⟩ : ∃ X : Int, ((xs.getD (t + 1) 0 : Nat) : Int) = X ∧ 0 ≤ X ∧ X < 4294967296 := ⟨_, rfl, by omega, by omega⟩
          rw [g1] at hcy
          obtain ⟨y, ey, hN⟩ : ∃ y : Int, bits BinOp.or IntKind.u64 X0 (X1 * 4294967296) = y ∧ Hid (ints .u64 (wl xs (j + 1)) = ints .u64 (wl xs j) ++ [J zu y]) := by
            refine ⟨_, rfl, ?_⟩
            show _ = _
            rw [hT.out, ← g0, ← g1, or_halves _ _ hx0 hx1]
          clear hx0 hx1 g0 g1 hT
          go_wp2_with (at_builtin; refine wpList_append_lies _ rfl (.tmp 31) (.tmp 33) 48 rfl w.heap.size 90 i0 (J zu 0) 1 8 Tryz.underlying48 hi hz0 hz1 hz2 rfl (by decide) _ j _ rfl (hown.alloc _) ⟨wr.heap.size, 0, none⟩ 1 1 [J zu y] rfl rfl (one_new wr _ _) (by simp [Value.oneCell']) (by decide) (by unfold maxLen; omega) (by omega) (by simp; exact Nat.le_succ_of_le hB.out) (wr.heap.size + 1) (by simp) ?_; intro g cap' w1 hown' hg' hgb hgl; have R1 : Hid (w1.ownsRow w.heap.size 90 1 (.slice (some ⟨g, 0, none⟩) (j + 1) cap') (j + 1) (ints .u64 (wl xs (j + 1)))) := (by show w1.ownsRow _ _ _ _ _ _; rw [hN.out]; exact hown'); have R2 : Hid (Ext w w1) := ext_grown (a := w) (hx.alloc _) (hown.alloc _) hg'; clear hown' hg' hgb hgl hown)
          go_roundw
          case rel => exact ⟨j + 1, t + 2, by have := hH.out; omega, by omega, by go_num, R1.out, R2.out⟩
          case measure => simp [intOf]; omega
        · have hN : Hid (ints .u64 (wl xs (j + 1)) = ints .u64 (wl xs j) ++ [J zu X0]) := by
            show _ = _
            have e0 : xs.getD (t + 1) 0 = 0 := by rw [List.getD_eq_getElem?_getD, List.getElem?_eq_none (by omega)]; rfl
            rw [hT.out, e0, ← g0]; rfl
          have hl2' : ¬ (t : Int) + 1 < (xs.length : Int) := by omega
          clear hx0 hx1 g0 hT
          go_wp2_with (at_builtin; refine wpList_append_lies _ rfl (.tmp 31) (.tmp 33) 48 rfl w.heap.size 90 i0 (J zu 0) 1 8 Tryz.underlying48 hi hz0 hz1 hz2 rfl (by decide) _ j _ rfl (hown.alloc _) ⟨wr.heap.size, 0, none⟩ 1 1 [J zu X0] rfl rfl (one_new wr _ _) (by simp [Value.oneCell']) (by decide) (by unfold maxLen; omega) (by omega) (by simp; exact Nat.le_succ_of_le hB.out) (wr.heap.size + 1) (by simp) ?_; intro g cap' w1 hown' hg' hgb hgl; have R1 : Hid (w1.ownsRow w.heap.size 90 1 (.slice (some ⟨g, 0, none⟩) (j + 1) cap') (j + 1) (ints .u64 (wl xs (j + 1)))) := (by show w1.ownsRow _ _ _ _ _ _; rw [hN.out]; exact hown'); have R2 : Hid (Ext w w1) := ext_grown (a := w) (hx.alloc _) (hown.alloc _) hg'; clear hown' hg' hgb hgl hown)
          go_roundw
          case rel => exact ⟨j + 1, t + 2, by have := hH.out; omega, by omega, by go_num, R1.out, R2.out⟩
          case measure => simp [intOf]; omega
      · have hrow := row_of_own hown
        have HA : Hid _ := at_own hown
        clear hown
        have hlt' : ¬ (t : Int) < (xs.length : Int) := by omega
        have hle : xs.length ≤ 2 * j := by have := hH.out; omega
        go_wp2_with fail
        refine (HC.out j _ _ hle HA.out hrow).mono ?_
        rintro e w1 ⟨⟨v', rfl, hr⟩, rfl⟩
        go_wp2_with fail
        go_ret
        exact ⟨⟨_, rfl, hr⟩, hx⟩
theorem cutwhole_new (B : Nat) (zs : List Nat) (hok : Dig.Ok 4294967296 zs) (hl : zs.length ≤ 9000) (N : Nat) (hN : Dig.val 4294967296 zs = N) :
    (∀ v w, Row .u32 w v zs → Calls zP 124 #[v] w fun e w' => (∃ v', e = zR v' ∧ Row .u32 w v' (Dig.digs 4294967296 N)) ∧ w' = w) ∧
    (∀ v w, B ≤ w.heap.size → Row .u32 w v (Dig.digs 4294967296 N) → Calls zP 123 #[v] w fun e w' => (∃ v', e = zR v' ∧ IsA B w' v' N) ∧ Ext w w') := by
  constructor
  · intro v w hr
    have h := cut_any zs v w hr hok
    rw [hN] at h
    exact h
  · intro v w hB hr
    have hlen : (Dig.digs 4294967296 N).length ≤ 9000 := by
      have h1 := Dig.val_lt 4294967296 zs hok
      rw [hN] at h1
      have := Dig.digs_length_le 4294967296 (by omega) N zs.length h1
      omega
    have h := whole_new _ v w hr (Dig.okd 4294967296 N (by omega)) (by omega)
    rw [Dig.vald 4294967296 N (by omega)] at h
    exact h.mono fun e w' ⟨⟨v', h1, h2⟩, x⟩ => ⟨⟨v', h1, h2.row, h2.at_.le hB⟩, x⟩
set_option maxHeartbeats 4000000 in
theorem nless_new (m n : Nat) (v1 v2 : Value) (w : World) (h1 : IsN w v1 m) (h2 : IsN w v2 n) (s1 : Small m) (s2 : Small n) (hle : n ≤ m) :
    Calls zP 93 #[v1, v2] w fun e w' => (∃ v', e = zR v' ∧ IsA w.heap.size w' v' (m - n)) ∧ Ext w w' := by
  obtain ⟨i0, hi, hz0, hz1, hz2⟩ := info_parts Tryz.info32
  have ok1 := Dig.okd 4294967296 m (by omega)
  have ok2 := Dig.okd 4294967296 n (by omega)
  have V1 := Dig.vald 4294967296 m (by omega)
  have V2 := Dig.vald 4294967296 n (by omega)
  have H1 : Hid (∀ w', Ext w w' → Calls zP 122 #[v1] w' fun e w'' => (∃ v', e = zR v' ∧ Row .u32 w'' v' (Dig.digs 4294967296 m)) ∧ Ext w' w'') := fun w' hx => halves_any m v1 w' (h1.ext hx) s1.1
  have H2 : Hid (∀ w', Ext w w' → Calls zP 122 #[v2] w' fun e w'' => (∃ v', e = zR v' ∧ Row .u32 w'' v' (Dig.digs 4294967296 n)) ∧ Ext w' w'') := fun w' hx => halves_any n v2 w' (h2.ext hx) s2.1
  have S1 : (Dig.digs 4294967296 m).length ≤ 2000 := s1.2
  have S2 : (Dig.digs 4294967296 n).length ≤ (Dig.digs 4294967296 m).length := by
    have h := Dig.val_lt 4294967296 _ ok1
    rw [V1] at h
    exact Dig.digs_length_le 4294967296 (by omega) n _ (by omega)
  have HD : Hid (∀ k b zs, LRel (Dig.digs 4294967296 m) (Dig.digs 4294967296 n) k b zs → (Dig.digs 4294967296 m).length = k → (∀ v w, Row .u32 w v zs → Calls zP 124 #[v] w fun e w' => (∃ v', e = zR v' ∧ Row .u32 w v' (Dig.digs 4294967296 (m - n))) ∧ w' = w) ∧
    (∀ v w', w.heap.size ≤ w'.heap.size → Row .u32 w' v (Dig.digs 4294967296 (m - n)) → Calls zP 123 #[v] w' fun e w'' => (∃ v', e = zR v' ∧ IsA w.heap.size w'' v' (m - n)) ∧ Ext w' w'')) := by
    intro k b zs hr hx
    obtain ⟨d1, d2⟩ := hr.done hx (by omega) (by rw [V1, V2]; exact hle)
    rw [V1, V2] at d2
    exact cutwhole_new _ _ d1 (by have := hr.1; omega) _ d2
  clear h1 h2 s1 s2 V1 V2 hle
  generalize Dig.digs 4294967296 m = xs at *
  generalize Dig.digs 4294967296 n = ys at *
  go_enter Tryz.func93, Tryz.ntmps93
  go_wp2_with fail
  refine (H1.out _ (Ext.refl _)).mono ?_
  rintro e w1 ⟨⟨x, rfl, hx⟩, x1⟩
  go_wp2_with fail
  refine (H2.out _ x1).mono ?_
  rintro e w2 ⟨⟨y, rfl, hy⟩, x2⟩
  have hx' := hx.ext x2
  have X2 : Hid (Ext w w2) := x1.trans x2
  obtain ⟨ax, cx, rfl, gx⟩ := hx'.shape
  obtain ⟨ay, cy, rfl, gy⟩ := hy.shape
  have GX : Hid _ := gx
  have GY : Hid _ := gy
  clear hx hy hx' x1 x2 H1 H2 gx gy
  go_wp2_with fail
  go_loopw [7, 8, 9] (fun l c i wr => ∃ (k b : Nat) (zs : List Nat), k ≤ xs.length ∧ i = J zq (k : Int) ∧ c = J zq (-(b : Int)) ∧ LRel xs ys k b zs ∧ wr.ownsRow w2.heap.size 164 1 l k (ints .u32 zs) ∧ Ext w2 wr) (fun _ _ i _ => xs.length - (intOf i).toNat)
  case atStart => exact ⟨0, 0, [], by omega, rfl, rfl, LRel.start _ _, World.ownsRow_nil _ _ _ _, Ext.refl _⟩
  case round =>
    obtain ⟨k, b, zs, hk, rfl, rfl, hP, hown, hx⟩ := hrel
    have hB : Hid (w2.heap.size ≤ wr.heap.size) := hx.size
    have hC := hP.2.2.1
    obtain ⟨c0, gc, gc', gc''⟩ : ∃ c : Int, -(b : Int) = c ∧ -1 ≤ c ∧ c ≤ 0 := ⟨_, rfl, by omega, by omega⟩
    rw [gc]
    by_cases hlx : k < xs.length
    · obtain ⟨blx, ofx, rfl, cellsx⟩ := GX.out (by omega)
      have hcx := (hx.lay).1 blx (ofx + k) (cell_lt (cellsx k hlx))
      rw [cellsx k hlx] at hcx
      have hxk := ok1 k
      have hlx' : (k : Int) < (xs.length : Int) := by omega
      obtain ⟨X, gx, gx', gx''⟩ : ∃ X : Int, ((xs.getD k 0 : Nat) : Int) = X ∧ 0 ≤ X ∧ X < 4294967296 := ⟨_, rfl, by omega, by omega⟩
      rw [gx] at hcx
      by_cases hly : k < ys.length
      · obtain ⟨bly, ofy, rfl, cellsy⟩ := GY.out (by omega)
        have hcy := (hx.lay).1 bly (ofy + k) (cell_lt (cellsy k hly))
        rw [cellsy k hly] at hcy
        have hyk := ok2 k
        have hly' : (k : Int) < (ys.length : Int) := by omega
        obtain ⟨Y, gy, gy', gy''⟩ : ∃ X : Int, ((ys.getD k 0 : Nat) : Int) = X ∧ 0 ≤ X ∧ X < 4294967296 := ⟨_, rfl, by omega, by omega⟩
        rw [gy] at hcy
        have hs := hP.step (ok1 k) (ok2 k)
        have hbe := bor_eq (xs.getD k 0) (ys.getD k 0) b (ok1 k) (ok2 k) hC
        obtain ⟨U, Z, eU, eZ, fZ⟩ : ∃ U Z : Int, IntKind.u64.wrap (c0 + X - Y) = U ∧ IntKind.u32.wrap U = Z ∧ Hid (Z = ((dif (xs.getD k 0) (ys.getD k 0) b : Nat) : Int)) := ⟨_, _, rfl, rfl, by show _ = _; rw [IntKind.wrap_u32, IntKind.wrap_u64]; omega⟩
        obtain ⟨D, eD, fD⟩ : ∃ D : Int, (c0 + X - Y) / 4294967296 = D ∧ Hid (-((bor (xs.getD k 0) (ys.getD k 0) b : Nat) : Int) = D) := ⟨_, rfl, by show _ = _; omega⟩
        have hN : Hid (ints .u32 (zs ++ [dif (xs.getD k 0) (ys.getD k 0) b]) = ints .u32 zs ++ [.int .u32 Z]) := by
          show _ = _
          rw [fZ.out]; simp [ints]
        have HS : Hid _ := hs
        clear hs hP fZ gc hbe gx gy hxk hyk
        go_wp2_with (at_builtin; refine wpList_append_lies _ rfl (.tmp 38) (.tmp 42) 162 rfl w2.heap.size 164 i0 (.int .u32 0) 1 4 Tryz.underlying162 hi hz0 hz1 hz2 rfl (by decide) _ k _ rfl (hown.alloc _) ⟨wr.heap.size, 0, none⟩ 1 1 [.int .u32 Z] rfl rfl (one_new wr _ _) (by simp [Value.oneCell']) (by decide) (by unfold maxLen; omega) (by omega) (by simp; exact Nat.le_succ_of_le hB.out) (wr.heap.size + 1) (by simp) ?_; intro g cap' wz hown' hg' hgb hgl; have R1 : Hid (wz.ownsRow w2.heap.size 164 1 (.slice (some ⟨g, 0, none⟩) (k + 1) cap') (k + 1) (ints .u32 (zs ++ [dif (xs.getD k 0) (ys.getD k 0) b]))) := (by show wz.ownsRow _ _ _ _ _ _; rw [hN.out]; exact hown'); have R2 : Hid (Ext w2 wz) := ext_grown (a := w2) (hx.alloc _) (hown.alloc _) hg'; clear hown' hg' hgb hgl hown)
        go_roundw
        case rel => exact ⟨k + 1, _, _, by omega, by go_num, congrArg (Value.int .i64) fD.out.symm, HS.out, R1.out, R2.out⟩
        case measure => simp [intOf]; omega
      · have zy : ys.getD k 0 = 0 := by rw [List.getD_eq_getElem?_getD, List.getElem?_eq_none (by omega)]; rfl
        have hly' : ¬ (k : Int) < (ys.length : Int) := by omega
        have hs := hP.step (ok1 k) (ok2 k)
        have hbe := bor_eq (xs.getD k 0) (ys.getD k 0) b (ok1 k) (ok2 k) hC
        obtain ⟨U, Z, eU, eZ, fZ⟩ : ∃ U Z : Int, IntKind.u64.wrap (c0 + X) = U ∧ IntKind.u32.wrap U = Z ∧ Hid (Z = ((dif (xs.getD k 0) (ys.getD k 0) b : Nat) : Int)) := ⟨_, _, rfl, rfl, by show _ = _; rw [IntKind.wrap_u32, IntKind.wrap_u64]; omega⟩
        obtain ⟨D, eD, fD⟩ : ∃ D : Int, (c0 + X) / 4294967296 = D ∧ Hid (-((bor (xs.getD k 0) (ys.getD k 0) b : Nat) : Int) = D) := ⟨_, rfl, by show _ = _; omega⟩
        have hN : Hid (ints .u32 (zs ++ [dif (xs.getD k 0) (ys.getD k 0) b]) = ints .u32 zs ++ [.int .u32 Z]) := by
          show _ = _
          rw [fZ.out]; simp [ints]
        have HS : Hid _ := hs
        clear hs hP fZ gc hbe gx hxk zy
        go_wp2_with (at_builtin; refine wpList_append_lies _ rfl (.tmp 38) (.tmp 42) 162 rfl w2.heap.size 164 i0 (.int .u32 0) 1 4 Tryz.underlying162 hi hz0 hz1 hz2 rfl (by decide) _ k _ rfl (hown.alloc _) ⟨wr.heap.size, 0, none⟩ 1 1 [.int .u32 Z] rfl rfl (one_new wr _ _) (by simp [Value.oneCell']) (by decide) (by unfold maxLen; omega) (by omega) (by simp; exact Nat.le_succ_of_le hB.out) (wr.heap.size + 1) (by simp) ?_; intro g cap' wz hown' hg' hgb hgl; have R1 : Hid (wz.ownsRow w2.heap.size 164 1 (.slice (some ⟨g, 0, none⟩) (k + 1) cap') (k + 1) (ints .u32 (zs ++ [dif (xs.getD k 0) (ys.getD k 0) b]))) := (by show wz.ownsRow _ _ _ _ _ _; rw [hN.out]; exact hown'); have R2 : Hid (Ext w2 wz) := ext_grown (a := w2) (hx.alloc _) (hown.alloc _) hg'; clear hown' hg' hgb hgl hown)
        go_roundw
        case rel => exact ⟨k + 1, _, _, by omega, by go_num, congrArg (Value.int .i64) fD.out.symm, HS.out, R1.out, R2.out⟩
        case measure => simp [intOf]; omega
    · have hlx' : ¬ (k : Int) < (xs.length : Int) := by omega
      obtain ⟨hcut, hwhole⟩ := HD.out k b zs hP (by omega)
      have HCu : Hid _ := hcut
      have HWh : Hid _ := hwhole
      have hrow := row_of_own hown
      clear hcut hwhole gc hP hown
      go_wp2_with fail
      refine (HCu.out _ _ hrow).mono ?_
      rintro e w4 ⟨⟨v3, rfl, hr3⟩, rfl⟩
      clear hrow
      go_wp2_with fail
      refine (HWh.out _ _ (X2.out.trans hx).size hr3).mono ?_
      rintro e w5 ⟨⟨v4, rfl, hr4⟩, x5⟩
      go_wp2_with fail
      go_ret
      exact ⟨⟨_, rfl, hr4⟩, (X2.out.trans hx).trans x5⟩
set_option maxHeartbeats 4000000 in
theorem up2_new (m n : Nat) (v : Value) (w : World) (h1 : IsN w v m) (s1 : Small m) (hn : n ≤ 10000) :
    Calls zP 97 #[v, J zq (n : Int)] w fun e w' => (∃ v', e = zR v' ∧ IsA w.heap.size w' v' (m * 2 ^ n)) ∧ Ext w w' := by
  have ok1 := Dig.okd 18446744073709551616 m (by omega)
  have V1 := Dig.vald 18446744073709551616 m (by omega)
  have S1 : (Dig.digs 18446744073709551616 m).length ≤ 1000 := s1.1
  have hz : Dig.digs 18446744073709551616 m = [] → m = 0 := Dig.digs_nil _ _ (by omega)
  obtain ⟨q, s, hq, hs, hs63, hqn, hH⟩ : ∃ q s : Nat, (n : Int) / 64 = (q : Int) ∧ (n : Int) % 64 = (s : Int) ∧ s ≤ 63 ∧ q ≤ 200 ∧ Hid (n = 64 * q + s) := ⟨n / 64, n % 64, by omega, by omega, by omega, by omega, by show _ = _; omega⟩
  have HD : Hid (∀ k c zs, URel (Dig.digs 18446744073709551616 m) s k c zs → (Dig.digs 18446744073709551616 m).length ≤ k → ∀ v w', At w.heap.size v → Row .u64 w' v (List.replicate q 0 ++ zs ++ [c]) → Calls zP 96 #[v] w' fun e w'' => (∃ v', e = zR v' ∧ IsA w.heap.size w' v' (m * 2 ^ n)) ∧ w'' = w') := by
    intro k c zs hr hk v w' hA hrow
    obtain ⟨d1, d2⟩ := hr.done (q := q) hk hs63
    have h := ntrim_new w.heap.size _ v w' hrow d1 hA
    rw [d2, V1, ← hH.out] at h
    exact h
  unfold IsN at h1
  clear s1 V1
  obtain ⟨i0, hi, hz0, hz1, hz2⟩ := info_parts Tryz.info64
  have hmk := run_make_row' (P := Tryz.prog) 48 90 (J zu 0) 8 Tryz.underlying48 Tryz.info64 rfl .i64 .i64 q (by omega) (by omega)
  generalize Dig.digs 18446744073709551616 m = xs at *
  obtain ⟨ax, cx, rfl, gx⟩ := h1.shape
  by_cases h0 : xs.length = 0
  · have hm0 : m = 0 := hz (List.eq_nil_of_length_eq_zero h0)
    subst hm0
    have e0 : ((xs.length : Int) == 0) = true := by rw [beq_iff_eq]; omega
    clear gx hmk hz
    go_enter Tryz.func97, Tryz.ntmps97
    go_wp2_with fail
    go_ret
    refine ⟨⟨_, rfl, .inl ⟨rfl, ?_⟩, at_nil _ _ _⟩, Ext.refl _⟩
    rw [Nat.zero_mul]; rfl
  · obtain ⟨b, o, rfl, hcell⟩ := gx (by omega)
    have hc : Hid _ := hcell
    have e0 : ((xs.length : Int) == 0) = false := beq_eq_false_iff_ne.2 (by omega)
    clear gx hcell hz h1
    go_enter Tryz.func97, Tryz.ntmps97
    go_wp2_with fail
    clear hmk hq hs e0
    go_loopw [5, 7, 8] (fun l c i wr => ∃ (k C : Nat) (zs : List Nat), k ≤ xs.length ∧ i = J zq (k : Int) ∧ c = J zu (C : Int) ∧ URel xs s k C zs ∧ wr.ownsRow w.heap.size 90 1 l (q + k) (ints .u64 (List.replicate q 0 ++ zs)) ∧ Ext w wr) (fun _ _ i _ => xs.length - (intOf i).toNat)
    case atStart => exact ⟨0, 0, [], by omega, rfl, rfl, URel.start _ _, by rw [List.append_nil]; exact made_own w q (by omega), (Ext.refl _).alloc _⟩
    case round =>
      obtain ⟨k, C, zs, hk, rfl, rfl, hU, hown, hx⟩ := hrel
      have hB : Hid (w.heap.size ≤ wr.heap.size) := hx.size
      by_cases hlt : k < xs.length
      · have hcx := (hx.lay).1 b (o + k) (cell_lt (hc.out k hlt))
        rw [hc.out k hlt] at hcx
        have hxk := ok1 k
        have hlt' : (k : Int) < (xs.length : Int) := by omega
        obtain ⟨y, y1, y2, y3, y4⟩ := shl_limb (xs.getD k 0) C s hxk hs63 hU.2.2.1
        have HS : Hid _ := hU.step y y2 y3 y4
        obtain ⟨yy, gy⟩ : ∃ yy : Int, (y : Int) = yy := ⟨_, rfl⟩
        obtain ⟨X, gX, gX', gX''⟩ : ∃ X : Int, ((xs.getD k 0 : Nat) : Int) = X ∧ 0 ≤ X ∧ X < 18446744073709551616 := ⟨_, rfl, by omega, by omega⟩
        obtain ⟨D, fD, fD2⟩ : ∃ D : Int, X / 2 ^ (64 - s) = D ∧ Hid (((xs.getD k 0 / 2 ^ (64 - s) : Nat) : Int) = D) := ⟨_, rfl, by show _ = _; rw [← gX, Num.cast_shr]⟩
        have hN : Hid (ints .u64 (List.replicate q 0 ++ (zs ++ [y])) = ints .u64 (List.replicate q 0 ++ zs) ++ [J zu yy]) := by
          show _ = _
          rw [← gy]; simp [ints]
        rw [gX] at hcx y1
        rw [gy] at y1
        obtain ⟨c0, gc⟩ : ∃ c : Int, (C : Int) = c := ⟨_, rfl⟩
        rw [gc] at y1 ⊢
        by_cases hs0 : 0 < s
        · have hs0' : (0 : Int) < (s : Int) := by omega
          have HCX : Hid (w.cell? ⟨b, o + k, none⟩ = some (J zu X)) := by show _ = _; rw [hc.out k hlt, gX]
          clear gX gy gc hU hxk y2 y3 y4
          go_wp2_with (at_builtin; refine wpList_append_lies _ rfl (.tmp 24) (.tmp 33) 48 rfl w.heap.size 90 i0 (J zu 0) 1 8 Tryz.underlying48 hi hz0 hz1 hz2 rfl (by decide) _ (q + k) _ rfl (hown.alloc _) ⟨wr.heap.size, 0, none⟩ 1 1 [J zu yy] rfl rfl (one_new wr _ _) (by simp [Value.oneCell']) (by decide) (by unfold maxLen; omega) (by omega) (by simp; exact Nat.le_succ_of_le hB.out) (wr.heap.size + 1) (by simp) ?_; intro g cap' wz hown' hg' hgb hgl; have R1 : Hid (wz.ownsRow w.heap.size 90 1 (.slice (some ⟨g, 0, none⟩) (q + k + 1) cap') (q + (k + 1)) (ints .u64 (List.replicate q 0 ++ (zs ++ [y])))) := (by show wz.ownsRow _ _ _ _ _ _; rw [hN.out]; exact hown'); have R2 : Hid (Ext w wz) := ext_grown (a := w) (hx.alloc _) (hown.alloc _) hg'; have hcz := R2.out.kept HCX.out; clear hown' hg' hgb hgl hown)
          go_roundw
          case rel => exact ⟨k + 1, _, _, by omega, by go_num, congrArg (Value.int .u64) fD2.out.symm, HS.out, R1.out, R2.out⟩
          case measure => simp [intOf]; omega
        · have hs0' : ¬ (0 : Int) < (s : Int) := by omega
          have HZ : Hid (((xs.getD k 0 / 2 ^ (64 - s) : Nat) : Int) = 0) := by
            obtain rfl : s = 0 := by omega
            show _ = _
            have : xs.getD k 0 / 2 ^ (64 - 0) < 2 ^ 0 := y4
            simp only [Nat.pow_zero] at this
            omega
          clear gX gy gc hU hxk y2 y3 y4 fD fD2
          go_wp2_with (at_builtin; refine wpList_append_lies _ rfl (.tmp 24) (.tmp 33) 48 rfl w.heap.size 90 i0 (J zu 0) 1 8 Tryz.underlying48 hi hz0 hz1 hz2 rfl (by decide) _ (q + k) _ rfl (hown.alloc _) ⟨wr.heap.size, 0, none⟩ 1 1 [J zu yy] rfl rfl (one_new wr _ _) (by simp [Value.oneCell']) (by decide) (by unfold maxLen; omega) (by omega) (by simp; exact Nat.le_succ_of_le hB.out) (wr.heap.size + 1) (by simp) ?_; intro g cap' wz hown' hg' hgb hgl; have R1 : Hid (wz.ownsRow w.heap.size 90 1 (.slice (some ⟨g, 0, none⟩) (q + k + 1) cap') (q + (k + 1)) (ints .u64 (List.replicate q 0 ++ (zs ++ [y])))) := (by show wz.ownsRow _ _ _ _ _ _; rw [hN.out]; exact hown'); have R2 : Hid (Ext w wz) := ext_grown (a := w) (hx.alloc _) (hown.alloc _) hg'; clear hown' hg' hgb hgl hown)
          go_roundw
          case rel => exact ⟨k + 1, _, _, by omega, by go_num, congrArg (Value.int .u64) HZ.out.symm, HS.out, R1.out, R2.out⟩
          case measure => simp [intOf]; omega
      · have hlt' : ¬ (k : Int) < (xs.length : Int) := by omega
        obtain ⟨c0, gc⟩ : ∃ c : Int, (C : Int) = c := ⟨_, rfl⟩
        have HT : Hid _ := HD.out k C zs hU (by omega)
        have hN : Hid (ints .u64 (List.replicate q 0 ++ zs ++ [C]) = ints .u64 (List.replicate q 0 ++ zs) ++ [J zu c0]) := by
          show _ = _
          rw [← gc]; simp [ints]
        rw [gc]
        clear gc hU
        go_wp2_with (at_builtin; refine wpList_append_lies _ rfl (.tmp 44) (.tmp 46) 48 rfl w.heap.size 90 i0 (J zu 0) 1 8 Tryz.underlying48 hi hz0 hz1 hz2 rfl (by decide) _ (q + k) _ rfl (hown.alloc _) ⟨wr.heap.size, 0, none⟩ 1 1 [J zu c0] rfl rfl (one_new wr _ _) (by simp [Value.oneCell']) (by decide) (by unfold maxLen; omega) (by omega) (by simp; exact Nat.le_succ_of_le hB.out) (wr.heap.size + 1) (by simp) ?_; intro g cap' wz hown' hg' hgb hgl; have R1 : Hid (wz.ownsRow w.heap.size 90 1 (.slice (some ⟨g, 0, none⟩) (q + k + 1) cap') (q + (k + 1)) (ints .u64 (List.replicate q 0 ++ zs ++ [C]))) := (by show wz.ownsRow _ _ _ _ _ _; rw [hN.out]; exact hown'); have R2 : Hid (Ext w wz) := ext_grown (a := w) (hx.alloc _) (hown.alloc _) hg'; clear hown' hg' hgb hgl hown)
        have hrow := row_of_own R1.out
        refine (HT.out _ _ (at_own R1.out) hrow).mono ?_
        rintro e w4 ⟨⟨v3, rfl, hr3⟩, rfl⟩
        clear hrow
        go_wp2_with fail
        go_ret
        exact ⟨⟨_, rfl, hr3⟩, R2.out⟩
set_option maxHeartbeats 4000000 in
theorem down2_new (m n : Nat) (v : Value) (w : World) (h1 : IsN w v m) (s1 : Small m) (hn : n ≤ 100000) :
    Calls zP 161 #[v, J zq (n : Int)] w fun e w' => (∃ v', e = zR v' ∧ IsA w.heap.size w' v' (m / 2 ^ n)) ∧ Ext w w' := by
  have ok1 := Dig.okd 18446744073709551616 m (by omega)
  have S1 : (Dig.digs 18446744073709551616 m).length ≤ 1000 := s1.1
  have T1 : Dig.blen m ≤ 64000 := Dig.blen_bound m 1000 S1
  have HL : Hid (∀ w', Ext w w' → Calls zP 163 #[v] w' fun e w'' => e = zR (J zq (Dig.blen m : Int)) ∧ w'' = w') := fun w' hx => nlen_any m v w' (h1.ext hx) s1
  by_cases hbig : Dig.blen m ≤ n
  · have e0 : Hid (m / 2 ^ n = 0) := Nat.div_eq_of_lt (Nat.lt_of_lt_of_le (Dig.lt_blen m) (Nat.pow_le_pow_right (by omega) hbig))
    have hb : (Dig.blen m : Int) ≤ (n : Int) := by omega
    clear h1 s1 ok1 S1
    generalize Dig.blen m = T at *
    go_enter Tryz.func161, Tryz.ntmps161
    go_wp2_with fail
    refine (HL.out _ (Ext.refl _)).mono ?_
    rintro e wx ⟨rfl, hwx⟩
    have hwy := hwx.symm
    clear hwx
    subst hwy
    go_wp2_with fail
    go_ret
    refine ⟨⟨_, rfl, .inl ⟨rfl, ?_⟩, at_nil _ _ _⟩, Ext.refl _⟩
    rw [e0.out]; rfl
  · have hb : ¬ (Dig.blen m : Int) ≤ (n : Int) := by omega
    obtain ⟨q, s, hq, hs, hs63, hqn, hH⟩ : ∃ q s : Nat, (n : Int) / 64 = (q : Int) ∧ (n : Int) % 64 = (s : Int) ∧ s ≤ 63 ∧ q ≤ 2000 ∧ Hid (n = 64 * q + s) := ⟨n / 64, n % 64, by omega, by omega, by omega, by omega, by show _ = _; omega⟩
    have hlt0 := Dig.val_lt 18446744073709551616 _ (Dig.okd 18446744073709551616 m (by omega))
    rw [Dig.vald 18446744073709551616 m (by omega)] at hlt0
    have hqL : q ≤ (Dig.digs 18446744073709551616 m).length := by
      have := Dig.blen_bound m _ (Nat.le_refl _)
      have := hH.out
      omega
    obtain ⟨Y, hY⟩ : ∃ Y, Hid (m / 18446744073709551616 ^ q / 2 ^ s = Y) := ⟨_, rfl⟩
    have HD : Hid (∀ v w', At w.heap.size v → Row .u64 w' v (Dig.digN 18446744073709551616 Y ((Dig.digs 18446744073709551616 m).length - q)) → Calls zP 96 #[v] w' fun e w'' => (∃ v', e = zR v' ∧ IsA w.heap.size w' v' (m / 2 ^ n)) ∧ w'' = w') := by
      intro v w' hA hrow
      have h := ntrim_new w.heap.size _ v w' hrow (Dig.digN_ok _ _ _ (by omega)) hA
      rw [Dig.digN_done _ _ _ (by rw [← hY.out]; exact Dig.down_lt m q s _ hlt0 hqL), ← hY.out, Dig.down_eq, ← hH.out] at h
      exact h
    have HX : Hid (∀ k, (Dig.digs 18446744073709551616 m).getD (q + k) 0 / 2 ^ s + (Dig.digs 18446744073709551616 m).getD (q + k + 1) 0 % 2 ^ s * 2 ^ (64 - s) = Y / 18446744073709551616 ^ k % 18446744073709551616) := by
      intro k
      rw [Dig.digs_getD _ (by omega), Dig.digs_getD _ (by omega), Dig.down_limb m s (q + k) hs63, ← hY.out]
      congr 1
      rw [Nat.pow_add, Nat.div_div_eq_div_mul, Nat.div_div_eq_div_mul, Nat.div_div_eq_div_mul]
      congr 1
      rw [Nat.mul_assoc, Nat.mul_comm (18446744073709551616 ^ k)]
    unfold IsN at h1
    clear s1 hlt0
    obtain ⟨i0, hi, hz0, hz1, hz2⟩ := info_parts Tryz.info64
    generalize Dig.blen m = T at *
    generalize Dig.digs 18446744073709551616 m = xs at *
    obtain ⟨ax, cx, rfl, gx⟩ := h1.shape
    have GX : Hid _ := gx
    clear gx h1
    go_enter Tryz.func161, Tryz.ntmps161
    go_wp2_with fail
    refine (HL.out _ (Ext.refl _)).mono ?_
    rintro e wx ⟨rfl, hwx⟩
    have hwy := hwx.symm
    clear hwx
    subst hwy
    go_wp2_with fail
    clear hq hs HL
    go_loopw [6, 7] (fun l i wr => ∃ (k : Nat), q + k ≤ xs.length ∧ i = J zq ((q + k : Nat) : Int) ∧ wr.ownsRow w.heap.size 90 1 l k (ints .u64 (Dig.digN 18446744073709551616 Y k)) ∧ Ext w wr) (fun _ i _ => xs.length - (intOf i).toNat)
    case atStart => exact ⟨0, by omega, rfl, World.ownsRow_nil _ _ _ _, Ext.refl _⟩
    case round =>
      obtain ⟨k, hk, rfl, hown, hx⟩ := hrel
      have hB : Hid (w.heap.size ≤ wr.heap.size) := hx.size
      by_cases hlt : q + k < xs.length
      · obtain ⟨b, o, rfl, hcell⟩ := GX.out (by omega)
        have hcx := (hx.lay).1 b (o + (q + k)) (cell_lt (hcell (q + k) hlt))
        rw [hcell (q + k) hlt] at hcx
        have hxk := ok1 (q + k)
        have hxv := HX.out k
        have hlt' : ((q + k : Nat) : Int) < (xs.length : Int) := by omega
        obtain ⟨i1, hi1, hi2⟩ : ∃ i1 : Nat, q + k = i1 ∧ Hid (q + (k + 1) = i1 + 1) := ⟨_, rfl, rfl⟩
        rw [hi1] at hcx hxk hlt' hlt ⊢
        by_cases hs0 : 0 < s
        · by_cases hi3 : i1 + 1 < xs.length
          · have hcy := (hx.lay).1 b (o + (i1 + 1)) (cell_lt (hcell (i1 + 1) hi3))
            rw [hcell (i1 + 1) hi3] at hcy
            have y1 := shr_limb (xs.getD i1 0) (xs.getD (i1 + 1) 0) s hxk hs0 hs63
            have hxv' : xs.getD i1 0 / 2 ^ s + xs.getD (i1 + 1) 0 % 2 ^ s * 2 ^ (64 - s) = Y / 18446744073709551616 ^ k % 18446744073709551616 := by rw [← hi1]; exact hxv
            rw [hxv'] at y1
            obtain ⟨X, gX, gX', gX''⟩ : ∃ X : Int, ((xs.getD i1 0 : Nat) : Int) = X ∧ 0 ≤ X ∧ X < 18446744073709551616 := ⟨_, rfl, by omega, by omega⟩
            obtain ⟨W, gW⟩ : ∃ X : Int, ((xs.getD (i1 + 1) 0 : Nat) : Int) = X := ⟨_, rfl⟩
            obtain ⟨yy, gy⟩ : ∃ yy : Int, ((Y / 18446744073709551616 ^ k % 18446744073709551616 : Nat) : Int) = yy := ⟨_, rfl⟩
            rw [gX] at hcx
            rw [gW] at hcy y1
            rw [gy] at y1
            have y2 : bits BinOp.or IntKind.u64 (X / 2 ^ s) (IntKind.u64.wrap (W * 2 ^ (64 - s))) = yy := by
              rw [← y1, ← gX]; simp
            have hN : Hid (ints .u64 (Dig.digN 18446744073709551616 Y (k + 1)) = ints .u64 (Dig.digN 18446744073709551616 Y k) ++ [J zu yy]) := by
              show _ = _
              rw [Dig.digN_succ, ← gy]; simp [ints]
            have hs0' : (0 : Int) < (s : Int) := by omega
            have hi3' : (i1 : Int) + 1 < (xs.length : Int) := by omega
            clear y1 gX gW gy hxv hxv' hxk hcell
            go_wp2_with (at_builtin; refine wpList_append_lies _ rfl (.tmp 49) (.tmp 51) 48 rfl w.heap.size 90 i0 (J zu 0) 1 8 Tryz.underlying48 hi hz0 hz1 hz2 rfl (by decide) _ k _ rfl (hown.alloc _) ⟨wr.heap.size, 0, none⟩ 1 1 [J zu yy] rfl rfl (one_new wr _ _) (by simp [Value.oneCell']) (by decide) (by unfold maxLen; omega) (by omega) (by simp; exact Nat.le_succ_of_le hB.out) (wr.heap.size + 1) (by simp) ?_; intro g cap' wz hown' hg' hgb hgl; have R1 : Hid (wz.ownsRow w.heap.size 90 1 (.slice (some ⟨g, 0, none⟩) (k + 1) cap') (k + 1) (ints .u64 (Dig.digN 18446744073709551616 Y (k + 1)))) := (by show wz.ownsRow _ _ _ _ _ _; rw [hN.out]; exact hown'); have R2 : Hid (Ext w wz) := ext_grown (a := w) (hx.alloc _) (hown.alloc _) hg'; clear hown' hg' hgb hgl hown)
            go_roundw
            case rel => exact ⟨k + 1, by omega, congrArg (fun z : Nat => J zq (z : Int)) hi2.out.symm, R1.out, R2.out⟩
            case measure => simp [intOf]; omega
          · have hxv' : xs.getD i1 0 / 2 ^ s = Y / 18446744073709551616 ^ k % 18446744073709551616 := by
              rw [← hxv, hi1]
              have : xs.getD (i1 + 1) 0 = 0 := by rw [List.getD_eq_getElem?_getD, List.getElem?_eq_none (by omega)]; rfl
              rw [this, Nat.zero_mod, Nat.zero_mul, Nat.add_zero]
            obtain ⟨X, gX, gX', gX''⟩ : ∃ X : Int, ((xs.getD i1 0 : Nat) : Int) = X ∧ 0 ≤ X ∧ X < 18446744073709551616 := ⟨_, rfl, by omega, by omega⟩
            obtain ⟨yy, gy⟩ : ∃ yy : Int, ((Y / 18446744073709551616 ^ k % 18446744073709551616 : Nat) : Int) = yy := ⟨_, rfl⟩
            rw [gX] at hcx
            have y2 : X / 2 ^ s = yy := by
              rw [← gy, ← hxv', ← gX]; simp
            have hN : Hid (ints .u64 (Dig.digN 18446744073709551616 Y (k + 1)) = ints .u64 (Dig.digN 18446744073709551616 Y k) ++ [J zu yy]) := by
              show _ = _
              rw [Dig.digN_succ, ← gy]; simp [ints]
            have hs0' : (0 : Int) < (s : Int) := by omega
            have hi3' : ¬ (i1 : Int) + 1 < (xs.length : Int) := by omega
            clear gX gy hxv hxv' hxk hcell
            go_wp2_with (at_builtin; refine wpList_append_lies _ rfl (.tmp 49) (.tmp 51) 48 rfl w.heap.size 90 i0 (J zu 0) 1 8 Tryz.underlying48 hi hz0 hz1 hz2 rfl (by decide) _ k _ rfl (hown.alloc _) ⟨wr.heap.size, 0, none⟩ 1 1 [J zu yy] rfl rfl (one_new wr _ _) (by simp [Value.oneCell']) (by decide) (by unfold maxLen; omega) (by omega) (by simp; exact Nat.le_succ_of_le hB.out) (wr.heap.size + 1) (by simp) ?_; intro g cap' wz hown' hg' hgb hgl; have R1 : Hid (wz.ownsRow w.heap.size 90 1 (.slice (some ⟨g, 0, none⟩) (k + 1) cap') (k + 1) (ints .u64 (Dig.digN 18446744073709551616 Y (k + 1)))) := (by show wz.ownsRow _ _ _ _ _ _; rw [hN.out]; exact hown'); have R2 : Hid (Ext w wz) := ext_grown (a := w) (hx.alloc _) (hown.alloc _) hg'; clear hown' hg' hgb hgl hown)
            go_roundw
            case rel => exact ⟨k + 1, by omega, congrArg (fun z : Nat => J zq (z : Int)) hi2.out.symm, R1.out, R2.out⟩
            case measure => simp [intOf]; omega
        · have hxv' : xs.getD i1 0 / 2 ^ s = Y / 18446744073709551616 ^ k % 18446744073709551616 := by
            rw [← hxv, hi1]
            obtain rfl : s = 0 := by omega
            rw [Nat.pow_zero, Nat.mod_one, Nat.zero_mul, Nat.add_zero]
          obtain ⟨X, gX, gX', gX''⟩ : ∃ X : Int, ((xs.getD i1 0 : Nat) : Int) = X ∧ 0 ≤ X ∧ X < 18446744073709551616 := ⟨_, rfl, by omega, by omega⟩
          obtain ⟨yy, gy⟩ : ∃ yy : Int, ((Y / 18446744073709551616 ^ k % 18446744073709551616 : Nat) : Int) = yy := ⟨_, rfl⟩
          rw [gX] at hcx
          have y2 : X / 2 ^ s = yy := by
            rw [← gy, ← hxv', ← gX]; simp
          have hN : Hid (ints .u64 (Dig.digN 18446744073709551616 Y (k + 1)) = ints .u64 (Dig.digN 18446744073709551616 Y k) ++ [J zu yy]) := by
            show _ = _
            rw [Dig.digN_succ, ← gy]; simp [ints]
          have hs0' : ¬ (0 : Int) < (s : Int) := by omega
          clear gX gy hxv hxv' hxk hcell
          go_wp2_with (at_builtin; refine wpList_append_lies _ rfl (.tmp 49) (.tmp 51) 48 rfl w.heap.size 90 i0 (J zu 0) 1 8 Tryz.underlying48 hi hz0 hz1 hz2 rfl (by decide) _ k _ rfl (hown.alloc _) ⟨wr.heap.size, 0, none⟩ 1 1 [J zu yy] rfl rfl (one_new wr _ _) (by simp [Value.oneCell']) (by decide) (by unfold maxLen; omega) (by omega) (by simp; exact Nat.le_succ_of_le hB.out) (wr.heap.size + 1) (by simp) ?_; intro g cap' wz hown' hg' hgb hgl; have R1 : Hid (wz.ownsRow w.heap.size 90 1 (.slice (some ⟨g, 0, none⟩) (k + 1) cap') (k + 1) (ints .u64 (Dig.digN 18446744073709551616 Y (k + 1)))) := (by show wz.ownsRow _ _ _ _ _ _; rw [hN.out]; exact hown'); have R2 : Hid (Ext w wz) := ext_grown (a := w) (hx.alloc _) (hown.alloc _) hg'; clear hown' hg' hgb hgl hown)
          go_roundw
          case rel => exact ⟨k + 1, by omega, congrArg (fun z : Nat => J zq (z : Int)) hi2.out.symm, R1.out, R2.out⟩
          case measure => simp [intOf]; omega
      · obtain ⟨i1, hi1, hi2⟩ : ∃ i1 : Nat, q + k = i1 ∧ Hid (xs.length - q = k) := ⟨_, rfl, by show _ = _; omega⟩
        rw [hi1] at hlt ⊢
        have hlt' : ¬ (i1 : Int) < (xs.length : Int) := by omega
        have hrow := row_of_own hown
        have HA : Hid _ := at_own hown
        rw [hi2.out] at HD
        clear hown
        go_wp2_with fail
        refine (HD.out _ _ HA.out hrow).mono ?_
        rintro e w4 ⟨⟨v3, rfl, hr3⟩, rfl⟩
        clear hrow
        go_wp2_with fail
        go_ret
        exact ⟨⟨_, rfl, hr3⟩, hx⟩
def f64 (F : Nat → Nat) : Nat → Value := fun j => J zu (F j : Int)
theorem row64_of_is {w : World} {g : Nat} {t : TypeId} {L : Nat} {F : Nat → Nat} (h : w.rowIs g t L (f64 F)) (hL : L ≤ 100000) : Row .u64 w (.slice (some ⟨g, 0, none⟩) L L) ((List.range L).map F) := by
  refine .inr ⟨g, 0, L, by simp, by simp, by unfold maxLen; omega, ?_⟩
  intro i hi
  have hi' : i < L := by simpa using hi
  rw [Nat.zero_add, h.cell hi', List.getD_eq_getElem?_getD, List.getElem?_map, List.getElem?_range hi']
  rfl
theorem is64_upd {w : World} {g : Nat} {t : TypeId} {L : Nat} {F : Nat → Nat} (h : w.rowIs g t L (f64 F)) (i z : Nat) : (w.setCell ⟨g, i, none⟩ (J zu (z : Int))).rowIs g t L (f64 (Dig.upd F i z)) :=
  (h.set i _).congr fun j _ => by unfold f64 Dig.upd; split <;> rfl
theorem row_ext {w w' : World} {g : Nat} {t : TypeId} {L : Nat} {f : Nat → Value} (h : w.rowIs g t L f) (hx : Ext w w') : w'.rowIs g t L f := h.of_block (hx.block g h.lt)
theorem map_ok (B L : Nat) (F : Nat → Nat) (hB : 0 < B) (h : ∀ j, F j < B) : Dig.Ok B ((List.range L).map F) := by
  intro j
  rw [List.getD_eq_getElem?_getD, List.getElem?_map]
  by_cases hj : j < L
  · rw [List.getElem?_range hj]
    exact h j
  · rw [List.getElem?_eq_none (by simp; omega)]
    exact hB
theorem or_bit64 (f s : Nat) (h : f % 2 ^ (s + 1) = 0) (hf : f + 2 ^ s < 18446744073709551616) : bits BinOp.or IntKind.u64 (f : Int) ((2 ^ s : Nat) : Int) = ((f + 2 ^ s : Nat) : Int) := by
  rw [bits_or_u64_nat _ _ (by omega) (by omega), Dig.or_bit f s h]
theorem up_bound (m b n : Nat) (hm : m ≠ 0) (hn : Dig.blen b + n ≤ Dig.blen m) : b * 2 ^ n ≤ 2 * m := by
  have h1 := Dig.lt_blen b
  have h2 : b * 2 ^ n ≤ 2 ^ Dig.blen b * 2 ^ n := Nat.mul_le_mul_right _ (Nat.le_of_lt h1)
  rw [← Nat.pow_add] at h2
  exact Nat.le_trans h2 (Nat.le_trans (Nat.pow_le_pow_right (by omega) hn) (Dig.blen_ge m hm))
structure IsO (g : Nat) (w : World) (v : Value) (n : Nat) : Prop where
  is : IsN w v n
  off : ∀ a l c, v = .slice (some a) l c → a.block ≠ g
theorem IsO.ext {g : Nat} {w w' : World} {v : Value} {n : Nat} (h : IsO g w v n) (hx : Ext w w') : IsO g w' v n := ⟨h.is.ext hx, h.off⟩
theorem IsO.new {B g : Nat} {w : World} {v : Value} {n : Nat} (h : IsA B w v n) (hg : g < B) : IsO g w v n := ⟨h.row, fun a l c e => by have := h.at_ a l c e; omega⟩
theorem IsO.old {g : Nat} {w : World} {v : Value} {n : Nat} (h : IsN w v n) (hn : n ≠ 0) (hg : w.heap.size ≤ g) : IsO g w v n := by
  refine ⟨h, fun a l c e => ?_⟩
  obtain ⟨a', c', hv, hc⟩ := Row.shape h
  have hl : 0 < (Dig.digs 18446744073709551616 n).length := by
    apply Nat.pos_of_ne_zero
    intro h0
    exact hn (Dig.digs_nil _ n (by omega) (List.eq_nil_of_length_eq_zero h0))
  obtain ⟨b, o, hb, hcell⟩ := hc hl
  have hlt : b < w.heap.size := cell_lt (hcell 0 hl)
  rw [hv, hb] at e
  have ea := (Value.slice.inj e).1
  rw [← Option.some.inj ea]
  show b ≠ g
  omega
theorem IsO.set {g : Nat} {w : World} {v : Value} {n j : Nat} {z : Value} (h : IsO g w v n) : IsO g (w.setCell ⟨g, j, none⟩ z) v n := by
  refine ⟨?_, h.off⟩
  rcases h.is with h1 | ⟨b, o, cap, h1, h2, h3, h4⟩
  · exact .inl h1
  · refine .inr ⟨b, o, cap, h1, h2, h3, fun i hi => ?_⟩
    have hne : (⟨b, o + i, none⟩ : Addr) ≠ ⟨g, j, none⟩ := by
      intro e
      have : b = g := congrArg Addr.block e
      exact h.off _ _ _ h1 this
    rw [World.cell?_setCell_other _ _ _ _ hne.symm]
    exact h4 i hi
set_option maxHeartbeats 4000000 in
theorem ndivide_long (m b : Nat) (v1 v2 : Value) (w : World) (h1 : IsN w v1 m) (h2 : IsN w v2 b) (s1 : Small (2 * m)) (s2 : Small b) (hb : b ≠ 0) (hl : (Dig.digs 4294967296 b).length ≠ 1) (hlt : ¬ Dig.blen m < Dig.blen b) (hm : Dig.blen m ≤ 10000) :
    Calls zP 128 #[v1, v2] w fun e w' => (∃ q r, e = zR (.tuple #[q, r]) ∧ IsN w' q (m / b) ∧ IsN w' r (m % b)) ∧ Ext w w' := by
  have s1' : Small m := small_le s1 (by omega)
  have hm0 : m ≠ 0 := by
    intro h0
    rw [h0, Dig.blen_zero, Dig.blen_pos b hb] at hlt
    omega
  obtain ⟨n, hn, hn2⟩ : ∃ n : Nat, Hid (Dig.blen b + n = Dig.blen m) ∧ n ≤ 10000 := ⟨Dig.blen m - Dig.blen b, by show _ = _; omega, by omega⟩
  have eN : (Dig.blen m : Int) - (Dig.blen b : Int) = (n : Int) := by have := hn.out; omega
  obtain ⟨L, hL, hL2⟩ : ∃ L : Nat, Hid (n / 64 + 1 = L) ∧ L ≤ 200 := ⟨_, rfl, by omega⟩
  have eL : (n : Int) / 64 + 1 = (L : Int) := by have := hL.out; omega
  have hup := up_bound m b n hm0 (Nat.le_of_eq hn.out)
  have SD : Hid (∀ t, t ≤ n + 1 → Small (b * 2 ^ t / 2)) := by
    intro t ht
    refine small_le s1 (Nat.le_trans ?_ hup)
    have h1 := Nat.mul_le_mul_left b (Nat.pow_le_pow_right (n := 2) (by omega) ht)
    rw [Nat.pow_succ, ← Nat.mul_assoc] at h1
    omega
  have T1 : Dig.blen m ≤ 64000 := Dig.blen_bound m 1000 s1'.1
  have T2 : Dig.blen b ≤ 64000 := Dig.blen_bound b 1000 s2.1
  have H1 : Hid (∀ w', Ext w w' → Calls zP 122 #[v2] w' fun e w'' => (∃ v', e = zR v' ∧ Row .u32 w'' v' (Dig.digs 4294967296 b)) ∧ Ext w' w'') := fun w' hx => halves_any b v2 w' (h2.ext hx) s2.1
  have H2 : Hid (∀ w', Ext w w' → Calls zP 163 #[v1] w' fun e w'' => e = zR (J zq (Dig.blen m : Int)) ∧ w'' = w') := fun w' hx => nlen_any m v1 w' (h1.ext hx) s1'
  have H3 : Hid (∀ w', Ext w w' → Calls zP 163 #[v2] w' fun e w'' => e = zR (J zq (Dig.blen b : Int)) ∧ w'' = w') := fun w' hx => nlen_any b v2 w' (h2.ext hx) s2
  have H4 : Hid (∀ w', Ext w w' → Calls zP 97 #[v2, J zq (n : Int)] w' fun e w'' => (∃ v', e = zR v' ∧ IsA w'.heap.size w'' v' (b * 2 ^ (n + 1) / 2)) ∧ Ext w' w'') := fun w' hx => by
    have h := up2_new b n v2 w' (h2.ext hx) s2 hn2
    have e : b * 2 ^ n = b * 2 ^ (n + 1) / 2 := by rw [Nat.pow_succ, ← Nat.mul_assoc, Nat.mul_div_cancel _ (by omega)]
    rw [e] at h
    exact h
  have HC : Hid (∀ t r u v w', t ≤ n → r ≤ m → IsN w' u r → IsN w' v (b * 2 ^ (t + 1) / 2) → Calls zP 92 #[u, v] w' fun e w'' => e = zR (J zq (cmpN r (b * 2 ^ (t + 1) / 2))) ∧ Ext w' w'') := fun t r u v w' ht hr hu hv => ncmp_any r _ u v w' hu hv (small_le s1' hr) (SD.out (t + 1) (by omega))
  have HS : Hid (∀ t r u v w', t ≤ n → r ≤ m → b * 2 ^ (t + 1) / 2 ≤ r → IsN w' u r → IsN w' v (b * 2 ^ (t + 1) / 2) → Calls zP 93 #[u, v] w' fun e w'' => (∃ v', e = zR v' ∧ IsA w'.heap.size w'' v' (r - b * 2 ^ t)) ∧ Ext w' w'') := fun t r u v w' ht hr hle hu hv => by
    have h := nless_new r _ u v w' hu hv (small_le s1' hr) (SD.out (t + 1) (by omega)) hle
    have e : b * 2 ^ (t + 1) / 2 = b * 2 ^ t := by rw [Nat.pow_succ, ← Nat.mul_assoc, Nat.mul_div_cancel _ (by omega)]
    rw [e] at h
    exact h
  have HW : Hid (∀ t v w', t ≤ n → IsN w' v (b * 2 ^ (t + 1) / 2) → Calls zP 161 #[v, J zq 1] w' fun e w'' => (∃ v', e = zR v' ∧ IsA w'.heap.size w'' v' (b * 2 ^ t / 2)) ∧ Ext w' w'') := fun t v w' ht hv => by
    have h := down2_new _ 1 v w' hv (SD.out (t + 1) (by omega)) (by omega)
    have e : b * 2 ^ (t + 1) / 2 = b * 2 ^ t := by rw [Nat.pow_succ, ← Nat.mul_assoc, Nat.mul_div_cancel _ (by omega)]
    rw [e, Nat.pow_one] at h
    exact h
  have HT : Hid (∀ v w F Q r, Dig.DRelQNum3 m b L 0 Q r F → Dig.fval 18446744073709551616 F L = Q → Row .u64 w v ((List.range L).map F) → Calls zP 96 #[v] w fun e w' => (∃ v', e = zR v' ∧ IsN w v' (m / b)) ∧ w' = w) := by
    intro v w F Q r hR hQ hrow
    have h := ntrim_any _ v w hrow (map_ok _ L F (by omega) hR.dig)
    rw [Dig.val_range, hQ, hR.done.1] at h
    exact h
  have HST : Hid (Dig.DRelQNum3 m b L (n + 1) 0 m (fun _ => 0)) := Dig.DRelQNum3.start L hb (Nat.le_of_eq hn.out.symm)
  have HM : Hid (∀ g, w.heap.size ≤ g → IsO g w v1 m) := fun g hg => IsO.old h1 hm0 hg
  have hmk := run_make_row' (P := Tryz.prog) 48 90 (J zu 0) 8 Tryz.underlying48 Tryz.info64 rfl .i64 .i64 L (by omega) (by omega)
  obtain ⟨a1, l1, c1, e1⟩ := h1.isSlice
  obtain ⟨a2, l2, c2, e2⟩ := h2.isSlice
  subst e1 e2
  have HS2 : Hid ((Dig.digs 4294967296 b).length ≤ 2000) := s2.2
  clear h1 h2 s1 s2 s1' hm0 hup hm hlt
  generalize Dig.blen m = A at *
  generalize Dig.blen b = B at *
  generalize Dig.digs 4294967296 b = xs at *
  have hne : ((xs.length : Int) == 1) = false := by simp; omega
  have hl2 : xs.length ≤ 2000 := HS2.out
  clear hl
  go_enter Tryz.func128, Tryz.ntmps128
  go_wp2_with fail
  refine (H1.out _ (Ext.refl _)).mono ?_
  rintro e w1 ⟨⟨y, rfl, hy⟩, x1⟩
  obtain ⟨ay, cy, rfl, gy⟩ := hy.shape
  clear gy hy
  go_wp2_with fail
  refine (H2.out _ x1).mono ?_
  rintro e wx ⟨rfl, hwx⟩
  have hwy := hwx.symm
  clear hwx
  subst hwy
  go_wp2_with fail
  refine (H3.out _ x1).mono ?_
  rintro e wx ⟨rfl, hwx⟩
  have hwy := hwx.symm
  clear hwx
  subst hwy
  go_wp2_with fail
  have XA : Hid (Ext w (w1.alloc (.cells (madeCells #[J zu 0] L) 90))) := x1.alloc _
  have RA : Hid ((w1.alloc (.cells (madeCells #[J zu 0] L) 90)).rowIs w1.heap.size 90 L (f64 fun _ => 0)) := World.rowIs_made _ _ _ _
  refine (H4.out _ XA.out).mono ?_
  rintro e w2 ⟨⟨d0, rfl, hd0⟩, x2⟩
  have X2 : Hid (Ext w w2) := XA.out.trans x2
  have R2 : Hid (w2.rowIs w1.heap.size 90 L (f64 fun _ => 0)) := row_ext RA.out x2
  have HB0 : Hid (w.heap.size ≤ w1.heap.size) := x1.size
  have HG : Hid (w1.heap.size < w2.heap.size) := by
    have := x2.size
    simp only [World.size_alloc] at this
    show _ < _
    omega
  have HD0 : Hid (IsO w1.heap.size w2 d0 (b * 2 ^ (n + 1) / 2)) := IsO.new hd0 (by simp)
  have HR0 : Hid (IsO w1.heap.size w2 (.slice a1 l1 c1) m) := (HM.out _ HB0.out).ext X2.out
  obtain ⟨ad, ld, cd, ed⟩ := hd0.isN.isSlice
  subst ed
  clear hd0 hmk XA RA x1 x2 H1 H2 H3 H4 eN eL HM
  go_wp2_with fail
  go_loopw [11, 12, 13] (fun rv dv iv wr => ∃ (t Q r : Nat) (F : Nat → Nat), t ≤ n + 1 ∧ iv = J zq ((t : Int) - 1) ∧ Hid (IsO w1.heap.size wr rv r) ∧ Hid (IsO w1.heap.size wr dv (b * 2 ^ t / 2)) ∧ Hid (Dig.DRelQNum3 m b L t Q r F) ∧ Hid (Dig.fval 18446744073709551616 F L = Q) ∧ wr.rowIs w1.heap.size 90 L (f64 F) ∧ Hid (w1.heap.size < wr.heap.size) ∧ Ext w wr) (fun _ _ i _ => ((intOf i) + 1).toNat)
  case atStart => exact ⟨n + 1, 0, m, fun _ => 0, Nat.le_refl _, by go_num, HR0, HD0, HST, Dig.fval_zero _ _, R2.out, HG, X2.out⟩
  case round =>
    obtain ⟨t, Q, r, F, ht, rfl, hr, hd, hR, hQ, hrow, hsz, hx⟩ := hrel
    obtain ⟨ar, lr, cr, er⟩ := hr.out.is.isSlice
    obtain ⟨ae, le, ce, ee⟩ := hd.out.is.isSlice
    subst er ee
    cases t with
    | zero =>
      have hrw := row64_of_is hrow (by omega)
      have hr2 : Hid (IsN wr (.slice ar lr cr) (m % b)) := by have := hr.out.is; rw [hR.out.done.2] at this; exact this
      clear hrow hr hd
      go_wp2_with fail
      refine (HT.out _ _ F Q r hR.out hQ.out hrw).mono ?_
      rintro e w4 ⟨⟨v3, rfl, hr3⟩, hw4⟩
      have hw4' := hw4.symm
      clear hw4
      subst hw4'
      clear hrw
      go_wp2_with fail
      go_ret2
      exact ⟨⟨_, _, rfl, hr3, hr2.out⟩, hx⟩
    | succ i =>
      have et : ((i + 1 : Nat) : Int) - 1 = (i : Int) := by omega
      rw [et]
      have hrm : Hid (r ≤ m) := by have := hR.out.sum; show _ ≤ _; rw [this]; exact Nat.le_add_left _ _
      have ed2 : Hid (b * 2 ^ (i + 1) / 2 = b * 2 ^ i) := by show _ = _; rw [Nat.pow_succ, ← Nat.mul_assoc, Nat.mul_div_cancel _ (by omega)]
      by_cases hge : b * 2 ^ (i + 1) / 2 ≤ r
      · have HGE : Hid _ := hge
        obtain ⟨c, gc, gc'⟩ : ∃ c : Int, cmpN r (b * 2 ^ (i + 1) / 2) = c ∧ 0 ≤ c := ⟨_, rfl, by unfold cmpN; rw [if_neg (by omega)]; split <;> omega⟩
        have HC' := HC.out i r (.slice ar lr cr) (.slice ae le ce) wr (by omega) hrm.out hr.out.is hd.out.is
        rw [gc] at HC'
        have HCC : Hid (Calls zP 92 #[.slice ar lr cr, .slice ae le ce] wr fun e w'' => e = zR (J zq c) ∧ Ext wr w'') := HC'
        obtain ⟨j, s, hj, hs, hs63, hjn, hjs⟩ : ∃ j s : Nat, (i : Int) / 64 = (j : Int) ∧ (i : Int) % 64 = (s : Int) ∧ s ≤ 63 ∧ j < L ∧ Hid (j = i / 64 ∧ s = i % 64) := ⟨i / 64, i % 64, by omega, by omega, by omega, by have := hL.out; omega, rfl, rfl⟩
        have hbit := hR.out.bit
        rw [← hjs.out.1, ← hjs.out.2] at hbit
        have hor := or_bit64 (F j) s hbit.1 hbit.2
        have hYes : Hid _ := hR.out.yes (by rw [← ed2.out]; exact hge)
        have hQ2 : Hid _ := Dig.fval_yes F L i Q (by rw [← hjs.out.1]; exact hjn) hQ.out
        rw [← hjs.out.1, ← hjs.out.2] at hYes hQ2
        obtain ⟨f0, gf, gf1, gf2⟩ : ∃ f : Int, (F j : Int) = f ∧ 0 ≤ f ∧ f < 18446744073709551616 := ⟨_, rfl, by omega, by have := hR.out.dig j; omega⟩
        obtain ⟨Z, gZ⟩ : ∃ Z : Int, ((F j + 2 ^ s : Nat) : Int) = Z := ⟨_, rfl⟩
        have hp63 : (2 : Int) ^ s < 18446744073709551616 := by
          have := Nat.pow_le_pow_right (n := 2) (by omega) hs63
          have e : (2 : Nat) ^ 63 = 9223372036854775808 := by decide
          have e2 : ((2 ^ s : Nat) : Int) = (2 : Int) ^ s := by simp
          omega
        have hp0 : (0 : Int) ≤ 2 ^ s := Int.le_of_lt (Int.pow_pos (by omega))
        have hor2 : bits BinOp.or IntKind.u64 f0 (IntKind.u64.wrap (2 ^ s)) = Z := by
          have e2 : IntKind.u64.wrap ((2 : Int) ^ s) = ((2 ^ s : Nat) : Int) := by rw [IntKind.wrap_u64]; simp; omega
          rw [e2, ← gZ, ← hor, ← gf]
        clear hp0 hp63
        have GZ : Hid (((F j + 2 ^ s : Nat) : Int) = Z) := gZ
        clear HC' gc hge hbit hor gZ et
        go_wp2_with fail
        refine (HCC.out).mono ?_
        rintro e w3 ⟨rfl, x3⟩
        go_wp2_with fail
        refine (HS.out i r _ _ _ (by omega) hrm.out HGE.out (hr.out.is.ext x3) (hd.out.is.ext x3)).mono ?_
        rintro e w4 ⟨⟨r', rfl, hr'⟩, x4⟩
        have hrow4 := row_ext hrow (x3.trans x4)
        have hcl := hrow4.cell hjn
        have hcl' : w4.cell? ⟨w1.heap.size, j, none⟩ = some (J zu f0) := by rw [hcl]; unfold f64; rw [gf]
        have hfr := hrow4.frozen j
        have X4 : Hid (Ext w w4) := (hx.trans x3).trans x4
        have HR4 : Hid (IsO w1.heap.size (w4.setCell ⟨w1.heap.size, j, none⟩ (J zu Z)) r' (r - b * 2 ^ i)) := (IsO.new hr' (Nat.lt_of_lt_of_le hsz.out x3.size)).set
        have HD4 : Hid (IsO w1.heap.size (w4.setCell ⟨w1.heap.size, j, none⟩ (J zu Z)) (.slice ae le ce) (b * 2 ^ (i + 1) / 2)) := (hd.out.ext (x3.trans x4)).set
        have X5 : Hid (Ext w (w4.setCell ⟨w1.heap.size, j, none⟩ (J zu Z))) := X4.out.setCell HB0.out _
        have R5 : Hid ((w4.setCell ⟨w1.heap.size, j, none⟩ (J zu Z)).rowIs w1.heap.size 90 L (f64 (Dig.upd F j (F j + 2 ^ s)))) := by
          rw [← GZ.out]; exact is64_upd hrow4 _ _
        have SZ5 : Hid (w1.heap.size < (w4.setCell ⟨w1.heap.size, j, none⟩ (J zu Z)).heap.size) := by
          have := (x3.trans x4).size
          have := hsz.out
          show _ < _
          simp only [World.size_setCell]
          omega
        obtain ⟨aq, lq, cq, eq⟩ := hr'.isN.isSlice
        subst eq
        clear hr' x3 x4 hrow hrow4 hcl hr hd HCC gf
        go_wp2_with fail
        refine (HW.out i _ _ (by omega) HD4.out.is).mono ?_
        rintro e w5 ⟨⟨d', rfl, hd'⟩, x5⟩
        obtain ⟨af, lf, cf, ef⟩ := hd'.isN.isSlice
        subst ef
        go_wp2_with fail
        go_roundw
        case rel => exact ⟨i, _, _, _, by omega, by go_num, HR4.out.ext x5, IsO.new hd' SZ5.out, hYes, hQ2, row_ext R5.out x5, Nat.lt_of_lt_of_le SZ5.out x5.size, X5.out.trans x5⟩
        case measure => simp [intOf]
      · obtain ⟨c, gc, gc'⟩ : ∃ c : Int, cmpN r (b * 2 ^ (i + 1) / 2) = c ∧ ¬ 0 ≤ c := ⟨_, rfl, by unfold cmpN; rw [if_pos (by omega)]; omega⟩
        have HC' := HC.out i r (.slice ar lr cr) (.slice ae le ce) wr (by omega) hrm.out hr.out.is hd.out.is
        rw [gc] at HC'
        have HCC : Hid (Calls zP 92 #[.slice ar lr cr, .slice ae le ce] wr fun e w'' => e = zR (J zq c) ∧ Ext wr w'') := HC'
        have hNo : Hid (Dig.DRelQNum3 m b L i Q r F) := hR.out.no (by rw [← ed2.out]; omega)
        clear HC' gc hge et
        go_wp2_with fail
        refine (HCC.out).mono ?_
        rintro e w3 ⟨rfl, x3⟩
        go_wp2_with fail
        refine (HW.out i _ _ (by omega) (hd.out.is.ext x3)).mono ?_
        rintro e w5 ⟨⟨d', rfl, hd'⟩, x5⟩
        obtain ⟨af, lf, cf, ef⟩ := hd'.isN.isSlice
        subst ef
        have hx5 := hx.trans (x3.trans x5)
        have hrow5 := row_ext hrow (x3.trans x5)
        have hr5 : Hid _ := hr.out.ext (x3.trans x5)
        have hd5 : Hid (IsO w1.heap.size w5 (.slice af lf cf) (b * 2 ^ i / 2)) := IsO.new hd' (Nat.lt_of_lt_of_le hsz.out x3.size)
        have sz5 : Hid _ := Nat.lt_of_lt_of_le hsz.out (x3.trans x5).size
        clear hx hrow hr hd hd' x3 x5
        go_wp2_with fail
        go_roundw
        case rel => exact ⟨i, _, _, _, by omega, by go_num, hr5, hd5, hNo, hQ, hrow5, sz5, hx5⟩
        case measure => simp [intOf]
theorem ndivide_any (m b : Nat) (v1 v2 : Value) (w : World) (h1 : IsN w v1 m) (h2 : IsN w v2 b) (s1 : Small (2 * m)) (s2 : Small b) (hb : b ≠ 0) (hm : Dig.blen m ≤ 10000) :
    Calls zP 128 #[v1, v2] w fun e w' => (∃ q r, e = zR (.tuple #[q, r]) ∧ IsN w' q (m / b) ∧ IsN w' r (m % b)) ∧ Ext w w' := by
  have s1' : Small m := small_le s1 (by omega)
  by_cases hl : (Dig.digs 4294967296 b).length = 1
  · exact ndivide_short m b v1 v2 w h1 h2 s1' s2 hl
  · by_cases hlt : Dig.blen m < Dig.blen b
    · exact ndivide_less m b v1 v2 w h1 h2 s1' s2 hl hlt
    · exact ndivide_long m b v1 v2 w h1 h2 s1 s2 hb hl hlt hm
end Go.Proofs.YtoeecldhbabmbaaGreat
