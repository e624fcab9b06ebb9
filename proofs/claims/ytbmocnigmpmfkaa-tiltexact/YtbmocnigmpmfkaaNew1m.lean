/- The reference's whole numbers: what is given back lies in new blocks. -/
import Derived.Test.YtbmocnigmpmfkaaBig9bm
namespace Go.Proofs.Ytbmocnigmpmfkaa
open Go.RowKit

/-- a slice that lies from block B on -/
def At (B : Nat) (v : Value) : Prop := ∀ a l c, v = .slice (some a) l c → B ≤ a.block
theorem At.le {B C : Nat} {v : Value} (h : At B v) (hC : C ≤ B) : At C v := fun a l c e => Nat.le_trans hC (h a l c e)
theorem at_nil (B l c : Nat) : At B (.slice none l c) := fun _ _ _ e => by cases e
theorem at_some {B b : Nat} (h : B ≤ b) (o l c : Nat) : At B (.slice (some ⟨b, o, none⟩) l c) := fun _ _ _ e => by cases e; exact h
theorem at_own {w : World} {base n : Nat} {e : TypeId} {v : Value} {xs : List Value} (h : w.ownsRow base e 1 v n xs) : At base v := by
  rcases h.2 with ⟨hv, h0⟩ | ⟨g, cap, cur, hv, hb, hg, hn, hm, hs, ht⟩
  · rw [hv]; exact at_nil _ _ _
  · rw [hv]; exact at_some hb _ _ _
structure RowA (B : Nat) (k : IntKind) (w : World) (v : Value) (xs : List Nat) : Prop where
  row : Row k w v xs
  at_ : At B v
def IsA (B : Nat) (w : World) (v : Value) (n : Nat) : Prop := RowA B .u64 w v (Dig.digs 18446744073709551616 n)
theorem IsA.isN {B : Nat} {w : World} {v : Value} {n : Nat} (h : IsA B w v n) : IsN w v n := h.row

set_option maxHeartbeats 1000000 in
theorem ntrim_new (B : Nat) (xs : List Nat) (v : Value) (w : World) (hr : Row .u64 w v xs) (hok : Dig.Ok 18446744073709551616 xs) (hA : At B v) :
    Calls Try.prog 50 #[v] w fun e w' => (∃ v', e = .returned v' ∧ RowA B .u64 w v' (Dig.digs 18446744073709551616 (Dig.val 18446744073709551616 xs))) ∧ w' = w := by
  rcases hr with ⟨rfl, rfl⟩ | ⟨b, o, cap, rfl, h1, h2, hcell⟩
  · go_enter Try.func50, Try.ntmps50
    go_wp2_with fail
    refine wp_loop_rounds 1 ?_
    rw [rounds_succ]
    go_wp2_with fail
    go_ret
    exact ⟨⟨_, rfl, .inl ⟨rfl, rfl⟩, at_nil _ _ _⟩, rfl⟩
  · have hl : (xs.length : Int) ≤ 9223372036854775807 := by unfold maxLen at h2; omega
    have fin : ∀ m, m ≤ xs.length → (∀ j, m ≤ j → xs.getD j 0 = 0) → (m = 0 ∨ xs.getD (m - 1) 0 ≠ 0) → Row .u64 w (.slice (some ⟨b, o, none⟩) m cap) (Dig.digs 18446744073709551616 (Dig.val 18446744073709551616 xs)) := by
      intro m hm hz hlast
      have hlen : (xs.take m).length = m := by rw [List.length_take]; omega
      have e1 := Dig.canon 18446744073709551616 (by omega) (xs.take m) (Dig.ok_take hok m) (by
        rcases hlast with rfl | h
        · exact .inl rfl
        · by_cases hm0 : m = 0
          · subst hm0; exact .inl rfl
          · right
            rw [hlen, List.getD_eq_getElem?_getD, List.getElem?_take_of_lt (by omega), ← List.getD_eq_getElem?_getD]
            exact h)
      rw [Dig.val_take_zero 18446744073709551616 xs m hz] at e1
      rw [e1]
      refine .inr ⟨b, o, cap, by rw [hlen], by omega, h2, ?_⟩
      intro i hi
      rw [hlen] at hi
      rw [hcell i (by omega), List.getD_eq_getElem?_getD, List.getD_eq_getElem?_getD, List.getElem?_take_of_lt hi]
    have hF : Hid _ := fin
    have HA : Hid (B ≤ b) := hA _ _ _ rfl
    clear hA
    have hc : Hid _ := hcell
    have hm' : cap ≤ 9223372036854775807 := by unfold maxLen at h2; omega
    clear fin hcell h2 hok
    go_enter Try.func50, Try.ntmps50
    go_wp2_with fail
    go_loop [3] (fun n => ∃ m : Nat, m ≤ xs.length ∧ n = .int .i64 m ∧ ∀ j, m ≤ j → xs.getD j 0 = 0) (fun n => (intOf n).toNat)
    case atStart => exact ⟨xs.length, Nat.le_refl _, rfl, fun j hj => by rw [List.getD_eq_getElem?_getD, List.getElem?_eq_none hj]; rfl⟩
    case round =>
      obtain ⟨m, hm, rfl, hz⟩ := hrel
      have hZ : Hid _ := hz
      clear hz
      cases m with
      | zero =>
        go_wp2_with fail
        go_ret
        exact ⟨⟨_, rfl, hF.out 0 (by omega) hZ.out (.inl rfl), at_some HA.out _ _ _⟩, rfl⟩
      | succ m =>
        have hcm := hc.out m (by omega)
        by_cases h0 : xs.getD m 0 = 0
        · have hZ' : Hid (∀ j, m ≤ j → xs.getD j 0 = 0) := by
            intro j hj
            by_cases e : j = m
            · rw [e]; exact h0
            · exact hZ.out j (by omega)
          rw [h0] at hcm
          clear h0
          have hpos : (0 : Int) < (m : Int) + 1 := by omega
          go_wp2_with fail
          go_round
          case rel => exact ⟨m, by omega, by go_num, hZ'.out⟩
          case measure => simp [intOf]
        · have hn : Hid (xs.getD m 0 ≠ 0) := h0
          obtain ⟨x, hx⟩ : ∃ x : Int, ((xs.getD m 0 : Nat) : Int) = x := ⟨_, rfl⟩
          have hx0 : (x == 0) = false := by rw [← hx]; simp only [beq_eq_false_iff_ne, ne_eq]; omega
          rw [hx] at hcm
          clear hx h0
          go_wp2_with fail
          go_ret
          exact ⟨⟨_, rfl, hF.out (m + 1) (by omega) hZ.out (.inr hn.out), at_some HA.out _ _ _⟩, rfl⟩

set_option maxHeartbeats 2000000 in
theorem whole_new (xs : List Nat) (v : Value) (w : World) (hr : Row .u32 w v xs) (hok : Dig.Ok 4294967296 xs) (hs : xs.length ≤ 10000) :
    Calls Try.prog 67 #[v] w fun e w' => (∃ v', e = .returned v' ∧ RowA w.heap.size .u64 w' v' (Dig.digs 18446744073709551616 (Dig.val 4294967296 xs))) ∧ Ext w w' := by
  have HC : Hid (∀ j v w', xs.length ≤ 2 * j → At w.heap.size v → Row .u64 w' v (wl xs j) → Calls Try.prog 50 #[v] w' fun e w'' => (∃ v', e = .returned v' ∧ RowA w.heap.size .u64 w' v' (Dig.digs 18446744073709551616 (Dig.val 4294967296 xs))) ∧ w'' = w') := by
    intro j v w' hj hA hr
    have h := ntrim_new w.heap.size _ v w' hr (wl_ok xs hok j) hA
    rw [wl_val, List.take_of_length_le hj] at h
    exact h
  generalize Dig.digs 18446744073709551616 (Dig.val 4294967296 xs) = out at *
  obtain ⟨i0, hi, hz0, hz1, hz2⟩ := info_parts Try.info64
  rcases hr with ⟨rfl, rfl⟩ | ⟨b, o, cap, rfl, h1, h2, hcell⟩
  · go_enter Try.func67, Try.ntmps67
    go_wp2_with fail
    refine wp_loop_rounds 1 ?_
    rw [rounds_succ]
    go_wp2_with fail
    refine (HC.out 0 _ _ (by simp) (at_nil _ _ _) (.inl ⟨rfl, rfl⟩)).mono ?_
    rintro e w1 ⟨⟨v', rfl, hr⟩, rfl⟩
    go_wp2_with fail
    go_ret
    exact ⟨⟨_, rfl, hr⟩, Ext.refl _⟩
  · have hc : Hid _ := hcell
    clear hcell h1 h2
    go_enter Try.func67, Try.ntmps67
    go_wp2_with fail
    go_loopw [3, 4] (fun l i wr => ∃ j t : Nat, t = 2 * j ∧ t ≤ xs.length + 1 ∧ i = .int .i64 (t : Int) ∧ wr.ownsRow w.heap.size 49 1 l j (ints .u64 (wl xs j)) ∧ Ext w wr) (fun _ i _ => xs.length + 1 - (intOf i).toNat)
    case atStart => exact ⟨0, 0, rfl, Nat.zero_le _, rfl, World.ownsRow_nil _ _ _ _, Ext.refl _⟩
    case round =>
      obtain ⟨j, t, ht, hj, rfl, hown, hx⟩ := hrel
      have hB : Hid (w.heap.size ≤ wr.heap.size) := hx.size
      have hT : Hid (ints .u64 (wl xs (j + 1)) = ints .u64 (wl xs j) ++ [.int .u64 ((xs.getD t 0 + 4294967296 * xs.getD (t + 1) 0 : Nat) : Int)]) := by
        show _ = _
        rw [wl_succ, ht]; simp [ints]
      have hH : Hid (t = 2 * j) := ht
      have hj2 : j ≤ 10001 := by omega
      clear ht
      by_cases hlt : t < xs.length
      · have hcx := (hx.lay).1 b (o + t) (cell_lt (hc.out _ hlt))
        rw [hc.out _ hlt] at hcx
        have hx0 := hok t
        have hx1 := hok (t + 1)
        have hlt' : (t : Int) < (xs.length : Int) := by omega
        obtain ⟨X0, g0, g0', g0''⟩ : ∃ X : Int, ((xs.getD t 0 : Nat) : Int) = X ∧ 0 ≤ X ∧ X < 4294967296 := ⟨_, rfl, by omega, by omega⟩
        rw [g0] at hcx
        by_cases hl2 : t + 1 < xs.length
        · have hcy := (hx.lay).1 b (o + (t + 1)) (cell_lt (hc.out _ hl2))
          rw [hc.out _ hl2] at hcy
          have hl2' : (t : Int) + 1 < (xs.length : Int) := by omega
          obtain ⟨X1, g1, g1', g1''⟩ : ∃ X : Int, ((xs.getD (t + 1) 0 : Nat) : Int) = X ∧ 0 ≤ X ∧ X < 4294967296 := ⟨_, rfl, by omega, by omega⟩
          rw [g1] at hcy
          obtain ⟨y, ey, hN⟩ : ∃ y : Int, bits BinOp.or IntKind.u64 X0 (X1 * 4294967296) = y ∧ Hid (ints .u64 (wl xs (j + 1)) = ints .u64 (wl xs j) ++ [.int .u64 y]) := by
            refine ⟨_, rfl, ?_⟩
            show _ = _
            rw [hT.out, ← g0, ← g1, or_halves _ _ hx0 hx1]
          clear hx0 hx1 g0 g1 hT
          go_wp2_with (at_builtin; refine wpList_append_lies _ rfl (.tmp 31) (.tmp 33) 61 rfl w.heap.size 49 i0 (.int .u64 0) 1 8 Try.underlying61 hi hz0 hz1 hz2 rfl (by decide) _ j _ rfl (hown.alloc _) ⟨wr.heap.size, 0, none⟩ 1 1 [.int .u64 y] rfl rfl (one_new wr _ _) (by simp [Value.oneCell']) (by decide) (by unfold maxLen; omega) (by omega) (by simp; exact Nat.le_succ_of_le hB.out) (wr.heap.size + 1) (by simp) ?_; intro g cap' w1 hown' hg' hgb hgl; have R1 : Hid (w1.ownsRow w.heap.size 49 1 (.slice (some ⟨g, 0, none⟩) (j + 1) cap') (j + 1) (ints .u64 (wl xs (j + 1)))) := (by show w1.ownsRow _ _ _ _ _ _; rw [hN.out]; exact hown'); have R2 : Hid (Ext w w1) := ext_grown (a := w) (hx.alloc _) (hown.alloc _) hg'; clear hown' hg' hgb hgl hown)
          go_roundw
          case rel => exact ⟨j + 1, t + 2, by have := hH.out; omega, by omega, by go_num, R1.out, R2.out⟩
          case measure => simp [intOf]; omega
        · have hN : Hid (ints .u64 (wl xs (j + 1)) = ints .u64 (wl xs j) ++ [.int .u64 X0]) := by
            show _ = _
            have e0 : xs.getD (t + 1) 0 = 0 := by rw [List.getD_eq_getElem?_getD, List.getElem?_eq_none (by omega)]; rfl
            rw [hT.out, e0, ← g0]; rfl
          have hl2' : ¬ (t : Int) + 1 < (xs.length : Int) := by omega
          clear hx0 hx1 g0 hT
          go_wp2_with (at_builtin; refine wpList_append_lies _ rfl (.tmp 31) (.tmp 33) 61 rfl w.heap.size 49 i0 (.int .u64 0) 1 8 Try.underlying61 hi hz0 hz1 hz2 rfl (by decide) _ j _ rfl (hown.alloc _) ⟨wr.heap.size, 0, none⟩ 1 1 [.int .u64 X0] rfl rfl (one_new wr _ _) (by simp [Value.oneCell']) (by decide) (by unfold maxLen; omega) (by omega) (by simp; exact Nat.le_succ_of_le hB.out) (wr.heap.size + 1) (by simp) ?_; intro g cap' w1 hown' hg' hgb hgl; have R1 : Hid (w1.ownsRow w.heap.size 49 1 (.slice (some ⟨g, 0, none⟩) (j + 1) cap') (j + 1) (ints .u64 (wl xs (j + 1)))) := (by show w1.ownsRow _ _ _ _ _ _; rw [hN.out]; exact hown'); have R2 : Hid (Ext w w1) := ext_grown (a := w) (hx.alloc _) (hown.alloc _) hg'; clear hown' hg' hgb hgl hown)
          go_roundw
          case rel => exact ⟨j + 1, t + 2, by have := hH.out; omega, by omega, by go_num, R1.out, R2.out⟩
          case measure => simp [intOf]; omega
      · have hrow := row_of_own hown
        have HA : Hid _ := at_own hown
        clear hown
        have hlt' : ¬ (t : Int) < (xs.length : Int) := by omega
        have hle : xs.length ≤ 2 * j := by have := hH.out; omega
        go_wp2_with fail
        refine (HC.out j _ _ hle HA.out hrow).mono ?_
        rintro e w1 ⟨⟨v', rfl, hr⟩, rfl⟩
        go_wp2_with fail
        go_ret
        exact ⟨⟨_, rfl, hr⟩, hx⟩

theorem cutwhole_new (B : Nat) (zs : List Nat) (hok : Dig.Ok 4294967296 zs) (hl : zs.length ≤ 9000) (N : Nat) (hN : Dig.val 4294967296 zs = N) :
    (∀ v w, Row .u32 w v zs → Calls Try.prog 70 #[v] w fun e w' => (∃ v', e = .returned v' ∧ Row .u32 w v' (Dig.digs 4294967296 N)) ∧ w' = w) ∧
    (∀ v w, B ≤ w.heap.size → Row .u32 w v (Dig.digs 4294967296 N) → Calls Try.prog 67 #[v] w fun e w' => (∃ v', e = .returned v' ∧ IsA B w' v' N) ∧ Ext w w') := by
  constructor
  · intro v w hr
    have h := cut_any zs v w hr hok
    rw [hN] at h
    exact h
  · intro v w hB hr
    have hlen : (Dig.digs 4294967296 N).length ≤ 9000 := by
      have h1 := Dig.val_lt 4294967296 zs hok
      rw [hN] at h1
      have := Dig.digs_length_le 4294967296 (by omega) N zs.length h1
      omega
    have h := whole_new _ v w hr (Dig.okd 4294967296 N (by omega)) (by omega)
    rw [Dig.vald 4294967296 N (by omega)] at h
    exact h.mono fun e w' ⟨⟨v', h1, h2⟩, x⟩ => ⟨⟨v', h1, h2.row, h2.at_.le hB⟩, x⟩

set_option maxHeartbeats 4000000 in
theorem nless_new (m n : Nat) (v1 v2 : Value) (w : World) (h1 : IsN w v1 m) (h2 : IsN w v2 n) (s1 : Small m) (s2 : Small n) (hle : n ≤ m) :
    Calls Try.prog 53 #[v1, v2] w fun e w' => (∃ v', e = .returned v' ∧ IsA w.heap.size w' v' (m - n)) ∧ Ext w w' := by
  obtain ⟨i0, hi, hz0, hz1, hz2⟩ := info_parts Try.info32
  have ok1 := Dig.okd 4294967296 m (by omega)
  have ok2 := Dig.okd 4294967296 n (by omega)
  have V1 := Dig.vald 4294967296 m (by omega)
  have V2 := Dig.vald 4294967296 n (by omega)
  have H1 : Hid (∀ w', Ext w w' → Calls Try.prog 65 #[v1] w' fun e w'' => (∃ v', e = .returned v' ∧ Row .u32 w'' v' (Dig.digs 4294967296 m)) ∧ Ext w' w'') := fun w' hx => halves_any m v1 w' (h1.ext hx) s1.1
  have H2 : Hid (∀ w', Ext w w' → Calls Try.prog 65 #[v2] w' fun e w'' => (∃ v', e = .returned v' ∧ Row .u32 w'' v' (Dig.digs 4294967296 n)) ∧ Ext w' w'') := fun w' hx => halves_any n v2 w' (h2.ext hx) s2.1
  have S1 : (Dig.digs 4294967296 m).length ≤ 2000 := s1.2
  have S2 : (Dig.digs 4294967296 n).length ≤ (Dig.digs 4294967296 m).length := by
    have h := Dig.val_lt 4294967296 _ ok1
    rw [V1] at h
    exact Dig.digs_length_le 4294967296 (by omega) n _ (by omega)
  have HD : Hid (∀ k b zs, LRel (Dig.digs 4294967296 m) (Dig.digs 4294967296 n) k b zs → (Dig.digs 4294967296 m).length = k → (∀ v w, Row .u32 w v zs → Calls Try.prog 70 #[v] w fun e w' => (∃ v', e = .returned v' ∧ Row .u32 w v' (Dig.digs 4294967296 (m - n))) ∧ w' = w) ∧
    (∀ v w', w.heap.size ≤ w'.heap.size → Row .u32 w' v (Dig.digs 4294967296 (m - n)) → Calls Try.prog 67 #[v] w' fun e w'' => (∃ v', e = .returned v' ∧ IsA w.heap.size w'' v' (m - n)) ∧ Ext w' w'')) := by
    intro k b zs hr hx
    obtain ⟨d1, d2⟩ := hr.done hx (by omega) (by rw [V1, V2]; exact hle)
    rw [V1, V2] at d2
    exact cutwhole_new _ _ d1 (by have := hr.1; omega) _ d2
  clear h1 h2 s1 s2 V1 V2 hle
  generalize Dig.digs 4294967296 m = xs at *
  generalize Dig.digs 4294967296 n = ys at *
  go_enter Try.func53, Try.ntmps53
  go_wp2_with fail
  refine (H1.out _ (Ext.refl _)).mono ?_
  rintro e w1 ⟨⟨x, rfl, hx⟩, x1⟩
  go_wp2_with fail
  refine (H2.out _ x1).mono ?_
  rintro e w2 ⟨⟨y, rfl, hy⟩, x2⟩
  have hx' := hx.ext x2
  have X2 : Hid (Ext w w2) := x1.trans x2
  obtain ⟨ax, cx, rfl, gx⟩ := hx'.shape
  obtain ⟨ay, cy, rfl, gy⟩ := hy.shape
  have GX : Hid _ := gx
  have GY : Hid _ := gy
  clear hx hy hx' x1 x2 H1 H2 gx gy
  go_wp2_with fail
  go_loopw [7, 8, 9] (fun l c i wr => ∃ (k b : Nat) (zs : List Nat), k ≤ xs.length ∧ i = .int .i64 (k : Int) ∧ c = .int .i64 (-(b : Int)) ∧ LRel xs ys k b zs ∧ wr.ownsRow w2.heap.size 104 1 l k (ints .u32 zs) ∧ Ext w2 wr) (fun _ _ i _ => xs.length - (intOf i).toNat)
  case atStart => exact ⟨0, 0, [], by omega, rfl, rfl, LRel.start _ _, World.ownsRow_nil _ _ _ _, Ext.refl _⟩
  case round =>
    obtain ⟨k, b, zs, hk, rfl, rfl, hP, hown, hx⟩ := hrel
    have hB : Hid (w2.heap.size ≤ wr.heap.size) := hx.size
    have hC := hP.2.2.1
    obtain ⟨c0, gc, gc', gc''⟩ : ∃ c : Int, -(b : Int) = c ∧ -1 ≤ c ∧ c ≤ 0 := ⟨_, rfl, by omega, by omega⟩
    rw [gc]
    by_cases hlx : k < xs.length
    · obtain ⟨blx, ofx, rfl, cellsx⟩ := GX.out (by omega)
      have hcx := (hx.lay).1 blx (ofx + k) (cell_lt (cellsx k hlx))
      rw [cellsx k hlx] at hcx
      have hxk := ok1 k
      have hlx' : (k : Int) < (xs.length : Int) := by omega
      obtain ⟨X, gx, gx', gx''⟩ : ∃ X : Int, ((xs.getD k 0 : Nat) : Int) = X ∧ 0 ≤ X ∧ X < 4294967296 := ⟨_, rfl, by omega, by omega⟩
      rw [gx] at hcx
      by_cases hly : k < ys.length
      · obtain ⟨bly, ofy, rfl, cellsy⟩ := GY.out (by omega)
        have hcy := (hx.lay).1 bly (ofy + k) (cell_lt (cellsy k hly))
        rw [cellsy k hly] at hcy
        have hyk := ok2 k
        have hly' : (k : Int) < (ys.length : Int) := by omega
        obtain ⟨Y, gy, gy', gy''⟩ : ∃ X : Int, ((ys.getD k 0 : Nat) : Int) = X ∧ 0 ≤ X ∧ X < 4294967296 := ⟨_, rfl, by omega, by omega⟩
        rw [gy] at hcy
        have hs := hP.step (ok1 k) (ok2 k)
        have hbe := bor_eq (xs.getD k 0) (ys.getD k 0) b (ok1 k) (ok2 k) hC
        obtain ⟨U, Z, eU, eZ, fZ⟩ : ∃ U Z : Int, IntKind.u64.wrap (c0 + X - Y) = U ∧ IntKind.u32.wrap U = Z ∧ Hid (Z = ((dif (xs.getD k 0) (ys.getD k 0) b : Nat) : Int)) := ⟨_, _, rfl, rfl, by show _ = _; rw [IntKind.wrap_u32, IntKind.wrap_u64]; omega⟩
        obtain ⟨D, eD, fD⟩ : ∃ D : Int, (c0 + X - Y) / 4294967296 = D ∧ Hid (-((bor (xs.getD k 0) (ys.getD k 0) b : Nat) : Int) = D) := ⟨_, rfl, by show _ = _; omega⟩
        have hN : Hid (ints .u32 (zs ++ [dif (xs.getD k 0) (ys.getD k 0) b]) = ints .u32 zs ++ [.int .u32 Z]) := by
          show _ = _
          rw [fZ.out]; simp [ints]
        have HS : Hid _ := hs
        clear hs hP fZ gc hbe gx gy hxk hyk
        go_wp2_with (at_builtin; refine wpList_append_lies _ rfl (.tmp 38) (.tmp 42) 102 rfl w2.heap.size 104 i0 (.int .u32 0) 1 4 Try.underlying102 hi hz0 hz1 hz2 rfl (by decide) _ k _ rfl (hown.alloc _) ⟨wr.heap.size, 0, none⟩ 1 1 [.int .u32 Z] rfl rfl (one_new wr _ _) (by simp [Value.oneCell']) (by decide) (by unfold maxLen; omega) (by omega) (by simp; exact Nat.le_succ_of_le hB.out) (wr.heap.size + 1) (by simp) ?_; intro g cap' wz hown' hg' hgb hgl; have R1 : Hid (wz.ownsRow w2.heap.size 104 1 (.slice (some ⟨g, 0, none⟩) (k + 1) cap') (k + 1) (ints .u32 (zs ++ [dif (xs.getD k 0) (ys.getD k 0) b]))) := (by show wz.ownsRow _ _ _ _ _ _; rw [hN.out]; exact hown'); have R2 : Hid (Ext w2 wz) := ext_grown (a := w2) (hx.alloc _) (hown.alloc _) hg'; clear hown' hg' hgb hgl hown)
        go_roundw
        case rel => exact ⟨k + 1, _, _, by omega, by go_num, congrArg (Value.int .i64) fD.out.symm, HS.out, R1.out, R2.out⟩
        case measure => simp [intOf]; omega
      · have zy : ys.getD k 0 = 0 := by rw [List.getD_eq_getElem?_getD, List.getElem?_eq_none (by omega)]; rfl
        have hly' : ¬ (k : Int) < (ys.length : Int) := by omega
        have hs := hP.step (ok1 k) (ok2 k)
        have hbe := bor_eq (xs.getD k 0) (ys.getD k 0) b (ok1 k) (ok2 k) hC
        obtain ⟨U, Z, eU, eZ, fZ⟩ : ∃ U Z : Int, IntKind.u64.wrap (c0 + X) = U ∧ IntKind.u32.wrap U = Z ∧ Hid (Z = ((dif (xs.getD k 0) (ys.getD k 0) b : Nat) : Int)) := ⟨_, _, rfl, rfl, by show _ = _; rw [IntKind.wrap_u32, IntKind.wrap_u64]; omega⟩
        obtain ⟨D, eD, fD⟩ : ∃ D : Int, (c0 + X) / 4294967296 = D ∧ Hid (-((bor (xs.getD k 0) (ys.getD k 0) b : Nat) : Int) = D) := ⟨_, rfl, by show _ = _; omega⟩
        have hN : Hid (ints .u32 (zs ++ [dif (xs.getD k 0) (ys.getD k 0) b]) = ints .u32 zs ++ [.int .u32 Z]) := by
          show _ = _
          rw [fZ.out]; simp [ints]
        have HS : Hid _ := hs
        clear hs hP fZ gc hbe gx hxk zy
        go_wp2_with (at_builtin; refine wpList_append_lies _ rfl (.tmp 38) (.tmp 42) 102 rfl w2.heap.size 104 i0 (.int .u32 0) 1 4 Try.underlying102 hi hz0 hz1 hz2 rfl (by decide) _ k _ rfl (hown.alloc _) ⟨wr.heap.size, 0, none⟩ 1 1 [.int .u32 Z] rfl rfl (one_new wr _ _) (by simp [Value.oneCell']) (by decide) (by unfold maxLen; omega) (by omega) (by simp; exact Nat.le_succ_of_le hB.out) (wr.heap.size + 1) (by simp) ?_; intro g cap' wz hown' hg' hgb hgl; have R1 : Hid (wz.ownsRow w2.heap.size 104 1 (.slice (some ⟨g, 0, none⟩) (k + 1) cap') (k + 1) (ints .u32 (zs ++ [dif (xs.getD k 0) (ys.getD k 0) b]))) := (by show wz.ownsRow _ _ _ _ _ _; rw [hN.out]; exact hown'); have R2 : Hid (Ext w2 wz) := ext_grown (a := w2) (hx.alloc _) (hown.alloc _) hg'; clear hown' hg' hgb hgl hown)
        go_roundw
        case rel => exact ⟨k + 1, _, _, by omega, by go_num, congrArg (Value.int .i64) fD.out.symm, HS.out, R1.out, R2.out⟩
        case measure => simp [intOf]; omega
    · have hlx' : ¬ (k : Int) < (xs.length : Int) := by omega
      obtain ⟨hcut, hwhole⟩ := HD.out k b zs hP (by omega)
      have HCu : Hid _ := hcut
      have HWh : Hid _ := hwhole
      have hrow := row_of_own hown
      clear hcut hwhole gc hP hown
      go_wp2_with fail
      refine (HCu.out _ _ hrow).mono ?_
      rintro e w4 ⟨⟨v3, rfl, hr3⟩, rfl⟩
      clear hrow
      go_wp2_with fail
      refine (HWh.out _ _ (X2.out.trans hx).size hr3).mono ?_
      rintro e w5 ⟨⟨v4, rfl, hr4⟩, x5⟩
      go_wp2_with fail
      go_ret
      exact ⟨⟨_, rfl, hr4⟩, (X2.out.trans hx).trans x5⟩

set_option maxHeartbeats 4000000 in
theorem up2_new (m n : Nat) (v : Value) (w : World) (h1 : IsN w v m) (s1 : Small m) (hn : n ≤ 10000) :
    Calls Try.prog 36 #[v, .int .i64 (n : Int)] w fun e w' => (∃ v', e = .returned v' ∧ IsA w.heap.size w' v' (m * 2 ^ n)) ∧ Ext w w' := by
  have ok1 := Dig.okd 18446744073709551616 m (by omega)
  have V1 := Dig.vald 18446744073709551616 m (by omega)
  have S1 : (Dig.digs 18446744073709551616 m).length ≤ 1000 := s1.1
  have hz : Dig.digs 18446744073709551616 m = [] → m = 0 := Dig.digs_nil _ _ (by omega)
  obtain ⟨q, s, hq, hs, hs63, hqn, hH⟩ : ∃ q s : Nat, (n : Int) / 64 = (q : Int) ∧ (n : Int) % 64 = (s : Int) ∧ s ≤ 63 ∧ q ≤ 200 ∧ Hid (n = 64 * q + s) := ⟨n / 64, n % 64, by omega, by omega, by omega, by omega, by show _ = _; omega⟩
  have HD : Hid (∀ k c zs, URel (Dig.digs 18446744073709551616 m) s k c zs → (Dig.digs 18446744073709551616 m).length ≤ k → ∀ v w', At w.heap.size v → Row .u64 w' v (List.replicate q 0 ++ zs ++ [c]) → Calls Try.prog 50 #[v] w' fun e w'' => (∃ v', e = .returned v' ∧ IsA w.heap.size w' v' (m * 2 ^ n)) ∧ w'' = w') := by
    intro k c zs hr hk v w' hA hrow
    obtain ⟨d1, d2⟩ := hr.done (q := q) hk hs63
    have h := ntrim_new w.heap.size _ v w' hrow d1 hA
    rw [d2, V1, ← hH.out] at h
    exact h
  unfold IsN at h1
  clear s1 V1
  obtain ⟨i0, hi, hz0, hz1, hz2⟩ := info_parts Try.info64
  have hmk := run_make_row' (P := Try.prog) 61 49 (.int .u64 0) 8 Try.underlying61 Try.info64 rfl .i64 .i64 q (by omega) (by omega)
  generalize Dig.digs 18446744073709551616 m = xs at *
  obtain ⟨ax, cx, rfl, gx⟩ := h1.shape
  by_cases h0 : xs.length = 0
  · have hm0 : m = 0 := hz (List.eq_nil_of_length_eq_zero h0)
    subst hm0
    have e0 : ((xs.length : Int) == 0) = true := by rw [beq_iff_eq]; omega
    clear gx hmk hz
    go_enter Try.func36, Try.ntmps36
    go_wp2_with fail
    go_ret
    refine ⟨⟨_, rfl, .inl ⟨rfl, ?_⟩, at_nil _ _ _⟩, Ext.refl _⟩
    rw [Nat.zero_mul]; rfl
  · obtain ⟨b, o, rfl, hcell⟩ := gx (by omega)
    have hc : Hid _ := hcell
    have e0 : ((xs.length : Int) == 0) = false := beq_eq_false_iff_ne.2 (by omega)
    clear gx hcell hz h1
    go_enter Try.func36, Try.ntmps36
    go_wp2_with fail
    clear hmk hq hs e0
    go_loopw [5, 7, 8] (fun l c i wr => ∃ (k C : Nat) (zs : List Nat), k ≤ xs.length ∧ i = .int .i64 (k : Int) ∧ c = .int .u64 (C : Int) ∧ URel xs s k C zs ∧ wr.ownsRow w.heap.size 49 1 l (q + k) (ints .u64 (List.replicate q 0 ++ zs)) ∧ Ext w wr) (fun _ _ i _ => xs.length - (intOf i).toNat)
    case atStart => exact ⟨0, 0, [], by omega, rfl, rfl, URel.start _ _, by rw [List.append_nil]; exact made_own w q (by omega), (Ext.refl _).alloc _⟩
    case round =>
      obtain ⟨k, C, zs, hk, rfl, rfl, hU, hown, hx⟩ := hrel
      have hB : Hid (w.heap.size ≤ wr.heap.size) := hx.size
      by_cases hlt : k < xs.length
      · have hcx := (hx.lay).1 b (o + k) (cell_lt (hc.out k hlt))
        rw [hc.out k hlt] at hcx
        have hxk := ok1 k
        have hlt' : (k : Int) < (xs.length : Int) := by omega
        obtain ⟨y, y1, y2, y3, y4⟩ := shl_limb (xs.getD k 0) C s hxk hs63 hU.2.2.1
        have HS : Hid _ := hU.step y y2 y3 y4
        obtain ⟨yy, gy⟩ : ∃ yy : Int, (y : Int) = yy := ⟨_, rfl⟩
        obtain ⟨X, gX, gX', gX''⟩ : ∃ X : Int, ((xs.getD k 0 : Nat) : Int) = X ∧ 0 ≤ X ∧ X < 18446744073709551616 := ⟨_, rfl, by omega, by omega⟩
        obtain ⟨D, fD, fD2⟩ : ∃ D : Int, X / 2 ^ (64 - s) = D ∧ Hid (((xs.getD k 0 / 2 ^ (64 - s) : Nat) : Int) = D) := ⟨_, rfl, by show _ = _; rw [← gX, Num.cast_shr]⟩
        have hN : Hid (ints .u64 (List.replicate q 0 ++ (zs ++ [y])) = ints .u64 (List.replicate q 0 ++ zs) ++ [.int .u64 yy]) := by
          show _ = _
          rw [← gy]; simp [ints]
        rw [gX] at hcx y1
        rw [gy] at y1
        obtain ⟨c0, gc⟩ : ∃ c : Int, (C : Int) = c := ⟨_, rfl⟩
        rw [gc] at y1 ⊢
        by_cases hs0 : 0 < s
        · have hs0' : (0 : Int) < (s : Int) := by omega
          have HCX : Hid (w.cell? ⟨b, o + k, none⟩ = some (.int .u64 X)) := by show _ = _; rw [hc.out k hlt, gX]
          clear gX gy gc hU hxk y2 y3 y4
          go_wp2_with (at_builtin; refine wpList_append_lies _ rfl (.tmp 24) (.tmp 33) 61 rfl w.heap.size 49 i0 (.int .u64 0) 1 8 Try.underlying61 hi hz0 hz1 hz2 rfl (by decide) _ (q + k) _ rfl (hown.alloc _) ⟨wr.heap.size, 0, none⟩ 1 1 [.int .u64 yy] rfl rfl (one_new wr _ _) (by simp [Value.oneCell']) (by decide) (by unfold maxLen; omega) (by omega) (by simp; exact Nat.le_succ_of_le hB.out) (wr.heap.size + 1) (by simp) ?_; intro g cap' wz hown' hg' hgb hgl; have R1 : Hid (wz.ownsRow w.heap.size 49 1 (.slice (some ⟨g, 0, none⟩) (q + k + 1) cap') (q + (k + 1)) (ints .u64 (List.replicate q 0 ++ (zs ++ [y])))) := (by show wz.ownsRow _ _ _ _ _ _; rw [hN.out]; exact hown'); have R2 : Hid (Ext w wz) := ext_grown (a := w) (hx.alloc _) (hown.alloc _) hg'; have hcz := R2.out.kept HCX.out; clear hown' hg' hgb hgl hown)
          go_roundw
          case rel => exact ⟨k + 1, _, _, by omega, by go_num, congrArg (Value.int .u64) fD2.out.symm, HS.out, R1.out, R2.out⟩
          case measure => simp [intOf]; omega
        · have hs0' : ¬ (0 : Int) < (s : Int) := by omega
          have HZ : Hid (((xs.getD k 0 / 2 ^ (64 - s) : Nat) : Int) = 0) := by
            obtain rfl : s = 0 := by omega
            show _ = _
            have : xs.getD k 0 / 2 ^ (64 - 0) < 2 ^ 0 := y4
            simp only [Nat.pow_zero] at this
            omega
          clear gX gy gc hU hxk y2 y3 y4 fD fD2
          go_wp2_with (at_builtin; refine wpList_append_lies _ rfl (.tmp 24) (.tmp 33) 61 rfl w.heap.size 49 i0 (.int .u64 0) 1 8 Try.underlying61 hi hz0 hz1 hz2 rfl (by decide) _ (q + k) _ rfl (hown.alloc _) ⟨wr.heap.size, 0, none⟩ 1 1 [.int .u64 yy] rfl rfl (one_new wr _ _) (by simp [Value.oneCell']) (by decide) (by unfold maxLen; omega) (by omega) (by simp; exact Nat.le_succ_of_le hB.out) (wr.heap.size + 1) (by simp) ?_; intro g cap' wz hown' hg' hgb hgl; have R1 : Hid (wz.ownsRow w.heap.size 49 1 (.slice (some ⟨g, 0, none⟩) (q + k + 1) cap') (q + (k + 1)) (ints .u64 (List.replicate q 0 ++ (zs ++ [y])))) := (by show wz.ownsRow _ _ _ _ _ _; rw [hN.out]; exact hown'); have R2 : Hid (Ext w wz) := ext_grown (a := w) (hx.alloc _) (hown.alloc _) hg'; clear hown' hg' hgb hgl hown)
          go_roundw
          case rel => exact ⟨k + 1, _, _, by omega, by go_num, congrArg (Value.int .u64) HZ.out.symm, HS.out, R1.out, R2.out⟩
          case measure => simp [intOf]; omega
      · have hlt' : ¬ (k : Int) < (xs.length : Int) := by omega
        obtain ⟨c0, gc⟩ : ∃ c : Int, (C : Int) = c := ⟨_, rfl⟩
        have HT : Hid _ := HD.out k C zs hU (by omega)
        have hN : Hid (ints .u64 (List.replicate q 0 ++ zs ++ [C]) = ints .u64 (List.replicate q 0 ++ zs) ++ [.int .u64 c0]) := by
          show _ = _
          rw [← gc]; simp [ints]
        rw [gc]
        clear gc hU
        go_wp2_with (at_builtin; refine wpList_append_lies _ rfl (.tmp 44) (.tmp 46) 61 rfl w.heap.size 49 i0 (.int .u64 0) 1 8 Try.underlying61 hi hz0 hz1 hz2 rfl (by decide) _ (q + k) _ rfl (hown.alloc _) ⟨wr.heap.size, 0, none⟩ 1 1 [.int .u64 c0] rfl rfl (one_new wr _ _) (by simp [Value.oneCell']) (by decide) (by unfold maxLen; omega) (by omega) (by simp; exact Nat.le_succ_of_le hB.out) (wr.heap.size + 1) (by simp) ?_; intro g cap' wz hown' hg' hgb hgl; have R1 : Hid (wz.ownsRow w.heap.size 49 1 (.slice (some ⟨g, 0, none⟩) (q + k + 1) cap') (q + (k + 1)) (ints .u64 (List.replicate q 0 ++ zs ++ [C]))) := (by show wz.ownsRow _ _ _ _ _ _; rw [hN.out]; exact hown'); have R2 : Hid (Ext w wz) := ext_grown (a := w) (hx.alloc _) (hown.alloc _) hg'; clear hown' hg' hgb hgl hown)
        have hrow := row_of_own R1.out
        refine (HT.out _ _ (at_own R1.out) hrow).mono ?_
        rintro e w4 ⟨⟨v3, rfl, hr3⟩, rfl⟩
        clear hrow
        go_wp2_with fail
        go_ret
        exact ⟨⟨_, rfl, hr3⟩, R2.out⟩

set_option maxHeartbeats 4000000 in
theorem down2_new (m n : Nat) (v : Value) (w : World) (h1 : IsN w v m) (s1 : Small m) (hn : n ≤ 100000) :
    Calls Try.prog 69 #[v, .int .i64 (n : Int)] w fun e w' => (∃ v', e = .returned v' ∧ IsA w.heap.size w' v' (m / 2 ^ n)) ∧ Ext w w' := by
  have ok1 := Dig.okd 18446744073709551616 m (by omega)
  have S1 : (Dig.digs 18446744073709551616 m).length ≤ 1000 := s1.1
  have T1 : Dig.blen m ≤ 64000 := Dig.blen_bound m 1000 S1
  have HL : Hid (∀ w', Ext w w' → Calls Try.prog 68 #[v] w' fun e w'' => e = .returned (.int .i64 (Dig.blen m : Int)) ∧ w'' = w') := fun w' hx => nlen_any m v w' (h1.ext hx) s1
  by_cases hbig : Dig.blen m ≤ n
  · have e0 : Hid (m / 2 ^ n = 0) := Nat.div_eq_of_lt (Nat.lt_of_lt_of_le (Dig.lt_blen m) (Nat.pow_le_pow_right (by omega) hbig))
    have hb : (Dig.blen m : Int) ≤ (n : Int) := by omega
    clear h1 s1 ok1 S1
    generalize Dig.blen m = T at *
    go_enter Try.func69, Try.ntmps69
    go_wp2_with fail
    refine (HL.out _ (Ext.refl _)).mono ?_
    rintro e wx ⟨rfl, hwx⟩
    have hwy := hwx.symm
    clear hwx
    subst hwy
    go_wp2_with fail
    go_ret
    refine ⟨⟨_, rfl, .inl ⟨rfl, ?_⟩, at_nil _ _ _⟩, Ext.refl _⟩
    rw [e0.out]; rfl
  · have hb : ¬ (Dig.blen m : Int) ≤ (n : Int) := by omega
    obtain ⟨q, s, hq, hs, hs63, hqn, hH⟩ : ∃ q s : Nat, (n : Int) / 64 = (q : Int) ∧ (n : Int) % 64 = (s : Int) ∧ s ≤ 63 ∧ q ≤ 2000 ∧ Hid (n = 64 * q + s) := ⟨n / 64, n % 64, by omega, by omega, by omega, by omega, by show _ = _; omega⟩
    have hlt0 := Dig.val_lt 18446744073709551616 _ (Dig.okd 18446744073709551616 m (by omega))
    rw [Dig.vald 18446744073709551616 m (by omega)] at hlt0
    have hqL : q ≤ (Dig.digs 18446744073709551616 m).length := by
      have := Dig.blen_bound m _ (Nat.le_refl _)
      have := hH.out
      omega
    obtain ⟨Y, hY⟩ : ∃ Y, Hid (m / 18446744073709551616 ^ q / 2 ^ s = Y) := ⟨_, rfl⟩
    have HD : Hid (∀ v w', At w.heap.size v → Row .u64 w' v (Dig.digN 18446744073709551616 Y ((Dig.digs 18446744073709551616 m).length - q)) → Calls Try.prog 50 #[v] w' fun e w'' => (∃ v', e = .returned v' ∧ IsA w.heap.size w' v' (m / 2 ^ n)) ∧ w'' = w') := by
      intro v w' hA hrow
      have h := ntrim_new w.heap.size _ v w' hrow (Dig.digN_ok _ _ _ (by omega)) hA
      rw [Dig.digN_done _ _ _ (by rw [← hY.out]; exact Dig.down_lt m q s _ hlt0 hqL), ← hY.out, Dig.down_eq, ← hH.out] at h
      exact h
    have HX : Hid (∀ k, (Dig.digs 18446744073709551616 m).getD (q + k) 0 / 2 ^ s + (Dig.digs 18446744073709551616 m).getD (q + k + 1) 0 % 2 ^ s * 2 ^ (64 - s) = Y / 18446744073709551616 ^ k % 18446744073709551616) := by
      intro k
      rw [Dig.digs_getD _ (by omega), Dig.digs_getD _ (by omega), Dig.down_limb m s (q + k) hs63, ← hY.out]
      congr 1
      rw [Nat.pow_add, Nat.div_div_eq_div_mul, Nat.div_div_eq_div_mul, Nat.div_div_eq_div_mul]
      congr 1
      rw [Nat.mul_assoc, Nat.mul_comm (18446744073709551616 ^ k)]
    unfold IsN at h1
    clear s1 hlt0
    obtain ⟨i0, hi, hz0, hz1, hz2⟩ := info_parts Try.info64
    generalize Dig.blen m = T at *
    generalize Dig.digs 18446744073709551616 m = xs at *
    obtain ⟨ax, cx, rfl, gx⟩ := h1.shape
    have GX : Hid _ := gx
    clear gx h1
    go_enter Try.func69, Try.ntmps69
    go_wp2_with fail
    refine (HL.out _ (Ext.refl _)).mono ?_
    rintro e wx ⟨rfl, hwx⟩
    have hwy := hwx.symm
    clear hwx
    subst hwy
    go_wp2_with fail
    clear hq hs HL
    go_loopw [6, 7] (fun l i wr => ∃ (k : Nat), q + k ≤ xs.length ∧ i = .int .i64 ((q + k : Nat) : Int) ∧ wr.ownsRow w.heap.size 49 1 l k (ints .u64 (Dig.digN 18446744073709551616 Y k)) ∧ Ext w wr) (fun _ i _ => xs.length - (intOf i).toNat)
    case atStart => exact ⟨0, by omega, rfl, World.ownsRow_nil _ _ _ _, Ext.refl _⟩
    case round =>
      obtain ⟨k, hk, rfl, hown, hx⟩ := hrel
      have hB : Hid (w.heap.size ≤ wr.heap.size) := hx.size
      by_cases hlt : q + k < xs.length
      · obtain ⟨b, o, rfl, hcell⟩ := GX.out (by omega)
        have hcx := (hx.lay).1 b (o + (q + k)) (cell_lt (hcell (q + k) hlt))
        rw [hcell (q + k) hlt] at hcx
        have hxk := ok1 (q + k)
        have hxv := HX.out k
        have hlt' : ((q + k : Nat) : Int) < (xs.length : Int) := by omega
        obtain ⟨i1, hi1, hi2⟩ : ∃ i1 : Nat, q + k = i1 ∧ Hid (q + (k + 1) = i1 + 1) := ⟨_, rfl, rfl⟩
        rw [hi1] at hcx hxk hlt' hlt ⊢
        by_cases hs0 : 0 < s
        · by_cases hi3 : i1 + 1 < xs.length
          · have hcy := (hx.lay).1 b (o + (i1 + 1)) (cell_lt (hcell (i1 + 1) hi3))
            rw [hcell (i1 + 1) hi3] at hcy
            have y1 := shr_limb (xs.getD i1 0) (xs.getD (i1 + 1) 0) s hxk hs0 hs63
            have hxv' : xs.getD i1 0 / 2 ^ s + xs.getD (i1 + 1) 0 % 2 ^ s * 2 ^ (64 - s) = Y / 18446744073709551616 ^ k % 18446744073709551616 := by rw [← hi1]; exact hxv
            rw [hxv'] at y1
            obtain ⟨X, gX, gX', gX''⟩ : ∃ X : Int, ((xs.getD i1 0 : Nat) : Int) = X ∧ 0 ≤ X ∧ X < 18446744073709551616 := ⟨_, rfl, by omega, by omega⟩
            obtain ⟨W, gW⟩ : ∃ X : Int, ((xs.getD (i1 + 1) 0 : Nat) : Int) = X := ⟨_, rfl⟩
            obtain ⟨yy, gy⟩ : ∃ yy : Int, ((Y / 18446744073709551616 ^ k % 18446744073709551616 : Nat) : Int) = yy := ⟨_, rfl⟩
            rw [gX] at hcx
            rw [gW] at hcy y1
            rw [gy] at y1
            have y2 : bits BinOp.or IntKind.u64 (X / 2 ^ s) (IntKind.u64.wrap (W * 2 ^ (64 - s))) = yy := by
              rw [← y1, ← gX]; simp
            have hN : Hid (ints .u64 (Dig.digN 18446744073709551616 Y (k + 1)) = ints .u64 (Dig.digN 18446744073709551616 Y k) ++ [.int .u64 yy]) := by
              show _ = _
              rw [Dig.digN_succ, ← gy]; simp [ints]
            have hs0' : (0 : Int) < (s : Int) := by omega
            have hi3' : (i1 : Int) + 1 < (xs.length : Int) := by omega
            clear y1 gX gW gy hxv hxv' hxk hcell
            go_wp2_with (at_builtin; refine wpList_append_lies _ rfl (.tmp 49) (.tmp 51) 61 rfl w.heap.size 49 i0 (.int .u64 0) 1 8 Try.underlying61 hi hz0 hz1 hz2 rfl (by decide) _ k _ rfl (hown.alloc _) ⟨wr.heap.size, 0, none⟩ 1 1 [.int .u64 yy] rfl rfl (one_new wr _ _) (by simp [Value.oneCell']) (by decide) (by unfold maxLen; omega) (by omega) (by simp; exact Nat.le_succ_of_le hB.out) (wr.heap.size + 1) (by simp) ?_; intro g cap' wz hown' hg' hgb hgl; have R1 : Hid (wz.ownsRow w.heap.size 49 1 (.slice (some ⟨g, 0, none⟩) (k + 1) cap') (k + 1) (ints .u64 (Dig.digN 18446744073709551616 Y (k + 1)))) := (by show wz.ownsRow _ _ _ _ _ _; rw [hN.out]; exact hown'); have R2 : Hid (Ext w wz) := ext_grown (a := w) (hx.alloc _) (hown.alloc _) hg'; clear hown' hg' hgb hgl hown)
            go_roundw
            case rel => exact ⟨k + 1, by omega, congrArg (fun z : Nat => Value.int .i64 (z : Int)) hi2.out.symm, R1.out, R2.out⟩
            case measure => simp [intOf]; omega
          · have hxv' : xs.getD i1 0 / 2 ^ s = Y / 18446744073709551616 ^ k % 18446744073709551616 := by
              rw [← hxv, hi1]
              have : xs.getD (i1 + 1) 0 = 0 := by rw [List.getD_eq_getElem?_getD, List.getElem?_eq_none (by omega)]; rfl
              rw [this, Nat.zero_mod, Nat.zero_mul, Nat.add_zero]
            obtain ⟨X, gX, gX', gX''⟩ : ∃ X : Int, ((xs.getD i1 0 : Nat) : Int) = X ∧ 0 ≤ X ∧ X < 18446744073709551616 := ⟨_, rfl, by omega, by omega⟩
            obtain ⟨yy, gy⟩ : ∃ yy : Int, ((Y / 18446744073709551616 ^ k % 18446744073709551616 : Nat) : Int) = yy := ⟨_, rfl⟩
            rw [gX] at hcx
            have y2 : X / 2 ^ s = yy := by
              rw [← gy, ← hxv', ← gX]; simp
            have hN : Hid (ints .u64 (Dig.digN 18446744073709551616 Y (k + 1)) = ints .u64 (Dig.digN 18446744073709551616 Y k) ++ [.int .u64 yy]) := by
              show _ = _
              rw [Dig.digN_succ, ← gy]; simp [ints]
            have hs0' : (0 : Int) < (s : Int) := by omega
            have hi3' : ¬ (i1 : Int) + 1 < (xs.length : Int) := by omega
            clear gX gy hxv hxv' hxk hcell
            go_wp2_with (at_builtin; refine wpList_append_lies _ rfl (.tmp 49) (.tmp 51) 61 rfl w.heap.size 49 i0 (.int .u64 0) 1 8 Try.underlying61 hi hz0 hz1 hz2 rfl (by decide) _ k _ rfl (hown.alloc _) ⟨wr.heap.size, 0, none⟩ 1 1 [.int .u64 yy] rfl rfl (one_new wr _ _) (by simp [Value.oneCell']) (by decide) (by unfold maxLen; omega) (by omega) (by simp; exact Nat.le_succ_of_le hB.out) (wr.heap.size + 1) (by simp) ?_; intro g cap' wz hown' hg' hgb hgl; have R1 : Hid (wz.ownsRow w.heap.size 49 1 (.slice (some ⟨g, 0, none⟩) (k + 1) cap') (k + 1) (ints .u64 (Dig.digN 18446744073709551616 Y (k + 1)))) := (by show wz.ownsRow _ _ _ _ _ _; rw [hN.out]; exact hown'); have R2 : Hid (Ext w wz) := ext_grown (a := w) (hx.alloc _) (hown.alloc _) hg'; clear hown' hg' hgb hgl hown)
            go_roundw
            case rel => exact ⟨k + 1, by omega, congrArg (fun z : Nat => Value.int .i64 (z : Int)) hi2.out.symm, R1.out, R2.out⟩
            case measure => simp [intOf]; omega
        · have hxv' : xs.getD i1 0 / 2 ^ s = Y / 18446744073709551616 ^ k % 18446744073709551616 := by
            rw [← hxv, hi1]
            obtain rfl : s = 0 := by omega
            rw [Nat.pow_zero, Nat.mod_one, Nat.zero_mul, Nat.add_zero]
          obtain ⟨X, gX, gX', gX''⟩ : ∃ X : Int, ((xs.getD i1 0 : Nat) : Int) = X ∧ 0 ≤ X ∧ X < 18446744073709551616 := ⟨_, rfl, by omega, by omega⟩
          obtain ⟨yy, gy⟩ : ∃ yy : Int, ((Y / 18446744073709551616 ^ k % 18446744073709551616 : Nat) : Int) = yy := ⟨_, rfl⟩
          rw [gX] at hcx
          have y2 : X / 2 ^ s = yy := by
            rw [← gy, ← hxv', ← gX]; simp
          have hN : Hid (ints .u64 (Dig.digN 18446744073709551616 Y (k + 1)) = ints .u64 (Dig.digN 18446744073709551616 Y k) ++ [.int .u64 yy]) := by
            show _ = _
            rw [Dig.digN_succ, ← gy]; simp [ints]
          have hs0' : ¬ (0 : Int) < (s : Int) := by omega
          clear gX gy hxv hxv' hxk hcell
          go_wp2_with (at_builtin; refine wpList_append_lies _ rfl (.tmp 49) (.tmp 51) 61 rfl w.heap.size 49 i0 (.int .u64 0) 1 8 Try.underlying61 hi hz0 hz1 hz2 rfl (by decide) _ k _ rfl (hown.alloc _) ⟨wr.heap.size, 0, none⟩ 1 1 [.int .u64 yy] rfl rfl (one_new wr _ _) (by simp [Value.oneCell']) (by decide) (by unfold maxLen; omega) (by omega) (by simp; exact Nat.le_succ_of_le hB.out) (wr.heap.size + 1) (by simp) ?_; intro g cap' wz hown' hg' hgb hgl; have R1 : Hid (wz.ownsRow w.heap.size 49 1 (.slice (some ⟨g, 0, none⟩) (k + 1) cap') (k + 1) (ints .u64 (Dig.digN 18446744073709551616 Y (k + 1)))) := (by show wz.ownsRow _ _ _ _ _ _; rw [hN.out]; exact hown'); have R2 : Hid (Ext w wz) := ext_grown (a := w) (hx.alloc _) (hown.alloc _) hg'; clear hown' hg' hgb hgl hown)
          go_roundw
          case rel => exact ⟨k + 1, by omega, congrArg (fun z : Nat => Value.int .i64 (z : Int)) hi2.out.symm, R1.out, R2.out⟩
          case measure => simp [intOf]; omega
      · obtain ⟨i1, hi1, hi2⟩ : ∃ i1 : Nat, q + k = i1 ∧ Hid (xs.length - q = k) := ⟨_, rfl, by show _ = _; omega⟩
        rw [hi1] at hlt ⊢
        have hlt' : ¬ (i1 : Int) < (xs.length : Int) := by omega
        have hrow := row_of_own hown
        have HA : Hid _ := at_own hown
        rw [hi2.out] at HD
        clear hown
        go_wp2_with fail
        refine (HD.out _ _ HA.out hrow).mono ?_
        rintro e w4 ⟨⟨v3, rfl, hr3⟩, rfl⟩
        clear hrow
        go_wp2_with fail
        go_ret
        exact ⟨⟨_, rfl, hr3⟩, hx⟩

end Go.Proofs.Ytbmocnigmpmfkaa
