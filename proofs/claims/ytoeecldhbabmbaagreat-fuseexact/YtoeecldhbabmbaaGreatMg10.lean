/- wide: Word. vec: check. variables of three cells that are written. vec: three words, or refused. -/
import Derived.Test.YtoeecldhbabmbaaGreatMg2
import Derived.Deep.RegionHeld
open Go.Value renaming int → J, agg → zG
open Go.IntKind renaming i64 → zq, u64 → zu
open Go.Ending renaming returned → zR
open Go.Proofs.Tryz renaming prog → zP
namespace Go.Proofs.YtoeecldhbabmbaaGreat
open Go.RowKit Go.Shelf
set_option maxHeartbeats 2000000 in
theorem wordw_c (x0 x1 x2 v y0 y1 y2 : Int) (w : World) (hv : wrap64 x0 = v) (he : (y0 == x0 && (y1 == x1 && y2 == x2)) = false)
    (HO : Hid (∀ w', Calls zP 144 #[J zq v] w' fun e w'' => e = zR (zG #[J zu y0, J zu y1, J zu y2]) ∧ Ext w' w'')) :
    Calls zP 145 #[zG #[J zu x0, J zu x1, J zu x2]] w fun e w' => e = zR (.tuple #[J zq 0, J zq 2]) ∧ Ext w w' := by
  have hq := eqw y0 y1 y2 x0 x1 x2
  rw [he] at hq
  clear he
  go_enter Tryz.func145, Tryz.ntmps145
  go_wp2_with fail
  refine wp_region_held_drew (S := fun w' => w'.cell? ⟨w.heap.size, 0, none⟩ = some (J zu x0) ∧ w'.cell? ⟨w.heap.size, 1, none⟩ = some (J zu x1) ∧ w'.cell? ⟨w.heap.size, 2, none⟩ = some (J zu x2)) (by kernel_rfl) ?_ (fun hHeld => ?_)
  · ((try dsimp only); go_keep)
  refine wpAnyH_take (i := 0) (v := J zq v) rfl (by kernel_rfl) (by kernel_rfl) (by kernel_rfl) (fun _ _ _ h => h) (Or.inl ⟨by rfl, ?_⟩) (by assumption) ?_
  · (intro w hSw; (try dsimp only at hSw); go_simp)
  go_simp
  refine wpAnyH_take (i := 2) (v := zG #[J zu x0, J zu x1, J zu x2]) rfl (by kernel_rfl) (by kernel_rfl) (by kernel_rfl) (fun _ _ _ h => h) (Or.inl ⟨by rfl, ?_⟩) (by assumption) ?_
  · (intro w hSw; (try dsimp only at hSw); go_simp)
  go_simp
  refine wpAnyH_ready (rs := [1]) (by kernel_rfl) (by simp) ?_
  refine AllReadyH.cons rfl (fun K hK => ?_) AllReadyH.nil
  go_simp
  go_wp2_with (go_at_call 144; refine (HO.out _).mono ?_; rintro e w1 ⟨rfl, x1⟩; have X1 : Ext w w1 := Ext.trans (by repeat (first | with_reducible exact Ext.refl _ | with_reducible refine Ext.drew ?_ | with_reducible refine Ext.alloc ?_ _)) x1; obtain ⟨c0, c1, c2, f0, f1, f2, hz⟩ : H3 w1 w.heap.size _ _ _ := (H3.drew (h3_at (by simp))).ext x1; clear x1)
  refine hK.out _ _ ?_ (fun hHeld => ?_)
  · ((try dsimp only); go_keep)
  clear hK K
  refine wpAnyH_take (i := 3) (v := .bool true) rfl (by kernel_rfl) (by kernel_rfl) (by kernel_rfl) (fun _ _ _ h => h) (Or.inl ⟨by rfl, ?_⟩) (by assumption) ?_
  · (intro w hSw; (try dsimp only at hSw); go_simp)
  go_simp
  refine wpAnyH_take (i := 4) (v := .bool true) rfl (by kernel_rfl) (by kernel_rfl) (by kernel_rfl) (fun _ _ _ h => h) (Or.inl ⟨by rfl, ?_⟩) (by assumption) ?_
  · (intro w hSw; (try dsimp only at hSw); go_simp)
  go_simp
  refine wpAnyH_take (i := 5) (v := undef) rfl (by kernel_rfl) (by kernel_rfl) (by kernel_rfl) (fun _ _ _ h => h) (Or.inr ⟨by rfl, rfl⟩) (by assumption) ?_
  go_simp
  refine wpAnyH_take (i := 6) (v := undef) rfl (by kernel_rfl) (by kernel_rfl) (by kernel_rfl) (fun _ _ _ h => h) (Or.inr ⟨by rfl, rfl⟩) (by assumption) ?_
  go_simp
  refine wpAnyH_take (i := 7) (v := undef) rfl (by kernel_rfl) (by kernel_rfl) (by kernel_rfl) (fun _ _ _ h => h) (Or.inr ⟨by rfl, rfl⟩) (by assumption) ?_
  go_simp
  refine wpAnyH_take (i := 8) (v := .bool true) rfl (by kernel_rfl) (by kernel_rfl) (by kernel_rfl) (fun _ _ _ h => h) (Or.inl ⟨by rfl, ?_⟩) (by assumption) ?_
  · (intro w hSw; (try dsimp only at hSw); go_simp)
  go_simp
  refine wpAnyH_done (by kernel_rfl) ?_ _
  go_wp2_with fail
  go_ret2
  exact ⟨rfl, X1⟩
set_option maxHeartbeats 2000000 in
theorem wordw_a (x0 x1 x2 v : Int) (w : World) (hv : wrap64 x0 = v)
    (HO : Hid (∀ w', Calls zP 144 #[J zq v] w' fun e w'' => e = zR (zG #[J zu x0, J zu x1, J zu x2]) ∧ Ext w' w''))
    (HC : Hid (∀ w', Calls zP 103 #[J zq v] w' fun e w'' => e = zR (J zq 0) ∧ w'' = w')) :
    Calls zP 145 #[zG #[J zu x0, J zu x1, J zu x2]] w fun e w' => e = zR (.tuple #[J zq v, J zq 0]) ∧ Ext w w' := by
  have hq := eqw x0 x1 x2 x0 x1 x2
  rw [show (x0 == x0 && (x1 == x1 && x2 == x2)) = true by simp] at hq
  go_enter Tryz.func145, Tryz.ntmps145
  go_wp2_with fail
  go_region_with (first | (go_at_call 144; refine (HO.out _).mono ?_; rintro e w1 ⟨rfl, x1⟩; have X1 : Ext w w1 := Ext.trans (by repeat (first | with_reducible exact Ext.refl _ | with_reducible refine Ext.drew ?_ | with_reducible refine Ext.alloc ?_ _)) x1; obtain ⟨c0, c1, c2, f0, f1, f2, hz⟩ : H3 w1 w.heap.size _ _ _ := (H3.drew (h3_at (by simp))).ext x1; clear x1) | (go_at_call 103; refine (HC.out _).mono ?_; rintro e wx ⟨rfl, hwx⟩; have hwy := hwx.symm; clear hwx; subst hwy))
  all_goals
    go_wp2_with fail
    go_ret2
    exact ⟨rfl, X1⟩
set_option maxHeartbeats 2000000 in
theorem wordw_b (x0 x1 x2 v : Int) (w : World) (hv : wrap64 x0 = v)
    (HO : Hid (∀ w', Calls zP 144 #[J zq v] w' fun e w'' => e = zR (zG #[J zu x0, J zu x1, J zu x2]) ∧ Ext w' w''))
    (HC : Hid (∀ w', Calls zP 103 #[J zq v] w' fun e w'' => e = zR (J zq 1) ∧ w'' = w')) :
    Calls zP 145 #[zG #[J zu x0, J zu x1, J zu x2]] w fun e w' => e = zR (.tuple #[J zq 0, J zq 2]) ∧ Ext w w' := by
  have hq := eqw x0 x1 x2 x0 x1 x2
  rw [show (x0 == x0 && (x1 == x1 && x2 == x2)) = true by simp] at hq
  go_enter Tryz.func145, Tryz.ntmps145
  go_wp2_with fail
  go_region_with (first | (go_at_call 144; refine (HO.out _).mono ?_; rintro e w1 ⟨rfl, x1⟩; have X1 : Ext w w1 := Ext.trans (by repeat (first | with_reducible exact Ext.refl _ | with_reducible refine Ext.drew ?_ | with_reducible refine Ext.alloc ?_ _)) x1; obtain ⟨c0, c1, c2, f0, f1, f2, hz⟩ : H3 w1 w.heap.size _ _ _ := (H3.drew (h3_at (by simp))).ext x1; clear x1) | (go_at_call 103; refine (HC.out _).mono ?_; rintro e wx ⟨rfl, hwx⟩; have hwy := hwx.symm; clear hwx; subst hwy))
  all_goals
    go_wp2_with fail
    go_ret2
    exact ⟨rfl, X1⟩
theorem ofw_limbs (v : Int) (w : World) (h1 : -9223372036854775808 ≤ v) (h2 : v ≤ 9223372036854775807) :
    Calls zP 144 #[J zq v] w fun e w' => e = zR (zG #[J zu (l0 v : Int), J zu (l1 v : Int), J zu (l2 v : Int)]) ∧ Ext w w' := by
  refine (ofw_any v w h1 h2).mono ?_
  rintro e w1 ⟨⟨r, rfl, x, y, t, rfl, rfl, rfl, rfl⟩, k⟩
  exact ⟨rfl, k⟩
theorem wordw_any (z : Int) (u : Value) (w : World) (hu : IsW u z) (hz : InW z) :
    Calls zP 145 #[u] w fun e w' => e = zR (.tuple #[J zq (fitR z).1, J zq (fitR z).2]) ∧ Ext w w' := by
  obtain ⟨x0, x1, x2, rfl, rfl, rfl, rfl⟩ := hu
  have hb := low_bounds z
  have hv : wrap64 (l0 z : Int) = low z := by
    have := l0_lt z
    unfold wrap64 low; split <;> omega
  by_cases hs : -9223372036854775808 ≤ z ∧ z ≤ 9223372036854775807
  · have e := low_self hs.1 hs.2
    rw [e] at hv
    have HC := check_any z
    by_cases hk : okW z = true
    · have ef : fitR z = (z, 0) := by unfold fitR; rw [if_pos hk]
      have ec : chk z = 0 := by unfold chk; rw [if_pos hk]
      rw [ec] at HC
      rw [ef]
      exact wordw_a _ _ _ z w hv (fun w' => ofw_limbs z w' hs.1 hs.2) HC
    · have ef : fitR z = (0, 2) := by unfold fitR; rw [if_neg hk]
      have ec : chk z = 1 := by unfold chk; rw [if_neg hk]
      rw [ec] at HC
      rw [ef]
      exact wordw_b _ _ _ z w hv (fun w' => ofw_limbs z w' hs.1 hs.2) HC
  · have hk : okW z = false := by unfold okW; simp; omega
    have ef : fitR z = (0, 2) := by unfold fitR; rw [hk]; rfl
    rw [ef]
    refine wordw_c _ _ _ (low z) _ _ _ w hv ?_ (fun w' => ofw_limbs (low z) w' hb.1 hb.2)
    rw [Bool.eq_false_iff]
    intro hh
    simp only [Bool.and_eq_true, beq_iff_eq] at hh
    have := low_limbs hz (by omega) (by omega) (by omega)
    omega
def ok3 (a b c : Int) : Bool := okW a && (okW b && okW c)
theorem Ext.keepc {w w' : World} (h : Ext w w') {b o : Nat} {v : Value} (hc : w.cell? ⟨b, o, none⟩ = some v) : w'.cell? ⟨b, o, none⟩ = some v := by
  rw [(h.lay).1 b o (cell_lt hc)]
  exact hc
theorem ix3 (T : TypeId) (hT : T = 110) (x y z : Int) : (∀ w : World, (Instr.index T (zG #[J zq x, J zq y, J zq z]) (J zq 0)).run zP w = .ok (J zq x) w) ∧ (∀ w : World, (Instr.index T (zG #[J zq x, J zq y, J zq z]) (J zq 1)).run zP w = .ok (J zq y) w) ∧ (∀ w : World, (Instr.index T (zG #[J zq x, J zq y, J zq z]) (J zq 2)).run zP w = .ok (J zq z) w) := by
  subst hT
  exact ⟨fun _ => by kernel_rfl, fun _ => by kernel_rfl, fun _ => by kernel_rfl⟩
set_option maxRecDepth 20000 in
set_option maxHeartbeats 4000000 in
theorem check_list (n : Nat) (A : Nat → Nat → Int) (b : Nat) (w : World) (hn : n ≤ 4) (h : ∀ i, i < n → ∀ j, j < 3 → w.cell? ⟨b, i * 3 + j, none⟩ = some (J zq (A i j))) :
    Calls zP 75 #[.slice (some ⟨b, 0, none⟩) n n] w fun e w' => (∃ r : Int, e = zR (J zq r) ∧ (r = 0 ∧ (∀ i, i < n → ok3 (A i 0) (A i 1) (A i 2) = true) ∨ r = 1 ∧ ∃ i, i < n ∧ ok3 (A i 0) (A i 1) (A i 2) = false)) ∧ Ext w w' := by
  have HC : Hid (∀ v w', Calls zP 103 #[J zq v] w' fun e w'' => e = zR (J zq (chk v)) ∧ w'' = w') := check_any
  have hh : Hid _ := h
  clear h
  go_enter Tryz.func75, Tryz.ntmps75
  go_wp2_with fail
  go_loopw [10] (fun i wr => ∃ k : Nat, k ≤ n ∧ i = J zq (k : Int) ∧ (∀ i, i < k → ok3 (A i 0) (A i 1) (A i 2) = true) ∧ Ext w wr) (fun i _ => n - (intOf i).toNat)
  case atStart => exact ⟨0, by omega, rfl, fun i hi => by omega, Ext.refl _⟩
  case round =>
    obtain ⟨k, hk, rfl, hok, hx⟩ := hrel
    have HK : Hid _ := hok
    clear hok
    by_cases hlt : k < n
    · have c0 := hx.keepc (hh.out k hlt 0 (by omega))
      rw [Nat.add_zero] at c0
      have c1 := hx.keepc (hh.out k hlt 1 (by omega))
      have c2 := hx.keepc (hh.out k hlt 2 (by omega))
      have HB : Hid (ok3 (A k 0) (A k 1) (A k 2) = false → ∃ i, i < n ∧ ok3 (A i 0) (A i 1) (A i 2) = false) := fun h => ⟨k, hlt, h⟩
      have HG : Hid (ok3 (A k 0) (A k 1) (A k 2) = true → ∀ i, i < k + 1 → ok3 (A i 0) (A i 1) (A i 2) = true) := fun h i hi => by
        rcases Nat.lt_or_ge i k with h1 | h1
        · exact HK.out i h1
        · obtain rfl : i = k := by omega
          exact h
      have hlt' : (k : Int) < (n : Int) := by omega
      generalize A k 0 = x0 at *
      generalize A k 1 = x1 at *
      generalize A k 2 = x2 at *
      obtain ⟨i0, i1, i2⟩ := ix3 110 rfl x0 x1 x2
      cases g0 : okW x0
      · have e0 : chk x0 = 1 := by unfold chk; rw [g0]; rfl
        have HF : Hid _ := HB.out (by unfold ok3; rw [g0]; rfl)
        clear g0 HB HG
        go_wp2_with fail
        refine wp_loop_rounds 4 ?_
        rw [rounds_succ]
        go_wp2_with (go_at_call 103; refine (HC.out _ _).mono ?_; rintro e wx ⟨rfl, hwx⟩; have hwy := hwx.symm; clear hwx; subst hwy)
        go_ret
        exact ⟨⟨1, rfl, Or.inr ⟨rfl, HF.out⟩⟩, xa⟩
      · have e0 : chk x0 = 0 := by unfold chk; rw [g0]; rfl
        cases g1 : okW x1
        · have e1 : chk x1 = 1 := by unfold chk; rw [g1]; rfl
          have HF : Hid _ := HB.out (by unfold ok3; rw [g0, g1]; rfl)
          clear g0 g1 HB HG
          go_wp2_with fail
          refine wp_loop_rounds 4 ?_
          rw [rounds_succ]
          go_wp2_with (go_at_call 103; refine (HC.out _ _).mono ?_; rintro e wx ⟨rfl, hwx⟩; have hwy := hwx.symm; clear hwx; subst hwy)
          rw [rounds_succ]
          go_wp2_with (go_at_call 103; refine (HC.out _ _).mono ?_; rintro e wx ⟨rfl, hwx⟩; have hwy := hwx.symm; clear hwx; subst hwy)
          go_ret
          exact ⟨⟨1, rfl, Or.inr ⟨rfl, HF.out⟩⟩, xa⟩
        · have e1 : chk x1 = 0 := by unfold chk; rw [g1]; rfl
          cases g2 : okW x2
          · have e2 : chk x2 = 1 := by unfold chk; rw [g2]; rfl
            have HF : Hid _ := HB.out (by unfold ok3; rw [g0, g1, g2]; rfl)
            clear g0 g1 g2 HB HG
            go_wp2_with fail
            refine wp_loop_rounds 4 ?_
            rw [rounds_succ]
            go_wp2_with (go_at_call 103; refine (HC.out _ _).mono ?_; rintro e wx ⟨rfl, hwx⟩; have hwy := hwx.symm; clear hwx; subst hwy)
            rw [rounds_succ]
            go_wp2_with (go_at_call 103; refine (HC.out _ _).mono ?_; rintro e wx ⟨rfl, hwx⟩; have hwy := hwx.symm; clear hwx; subst hwy)
            rw [rounds_succ]
            go_wp2_with (go_at_call 103; refine (HC.out _ _).mono ?_; rintro e wx ⟨rfl, hwx⟩; have hwy := hwx.symm; clear hwx; subst hwy)
            go_ret
            exact ⟨⟨1, rfl, Or.inr ⟨rfl, HF.out⟩⟩, xa⟩
          · have e2 : chk x2 = 0 := by unfold chk; rw [g2]; rfl
            have HF : Hid _ := HG.out (by unfold ok3; rw [g0, g1, g2]; rfl)
            clear g0 g1 g2 HB HG
            go_wp2_with fail
            refine wp_loop_rounds 4 ?_
            rw [rounds_succ]
            go_wp2_with (go_at_call 103; refine (HC.out _ _).mono ?_; rintro e wx ⟨rfl, hwx⟩; have hwy := hwx.symm; clear hwx; subst hwy)
            rw [rounds_succ]
            go_wp2_with (go_at_call 103; refine (HC.out _ _).mono ?_; rintro e wx ⟨rfl, hwx⟩; have hwy := hwx.symm; clear hwx; subst hwy)
            rw [rounds_succ]
            go_wp2_with (go_at_call 103; refine (HC.out _ _).mono ?_; rintro e wx ⟨rfl, hwx⟩; have hwy := hwx.symm; clear hwx; subst hwy)
            rw [rounds_succ]
            go_wp2_with (go_at_call 103; refine (HC.out _ _).mono ?_; rintro e wx ⟨rfl, hwx⟩; have hwy := hwx.symm; clear hwx; subst hwy)
            go_roundw
            case rel => exact ⟨k + 1, by omega, by go_num, HF.out, xa⟩
            case measure => simp [intOf]; omega
    · go_wp2_with fail
      go_ret
      exact ⟨⟨0, rfl, Or.inl ⟨rfl, fun i hi => HK.out i (by omega)⟩⟩, hx⟩
theorem H3.farA {w : World} {b g o : Nat} {u v x y : Value} (h : H3 w b u v x) (hb : b ≠ g) : H3 (w.setCell ⟨g, o, none⟩ y) b u v x := by
  obtain ⟨h0, h1, h2, f0, f1, f2, hz⟩ := h
  have k : ∀ i, (w.setCell ⟨g, o, none⟩ y).cell? ⟨b, i, none⟩ = w.cell? ⟨b, i, none⟩ := fun i => World.cell?_setCell_other _ _ _ _ (by intro e; have := congrArg Addr.block e; dsimp only at this; omega)
  refine ⟨by rw [k]; exact h0, by rw [k]; exact h1, by rw [k]; exact h2, ?_, ?_, ?_, ?_⟩ <;> simp [go_sem, f0, f1, f2, hz]
theorem H3.set0 {w : World} {b : Nat} {u v x : Value} (h : H3 w b u v x) (u' : Value) : H3 (w.setCell ⟨b, 0, none⟩ u') b u' v x := by
  obtain ⟨h0, h1, h2, f0, f1, f2, hb⟩ := h
  refine ⟨?_, ?_, ?_, ?_, ?_, ?_, ?_⟩ <;> simp [go_sem, h0, h1, h2, f0, f1, f2, hb]
theorem H3.set1 {w : World} {b : Nat} {u v x : Value} (h : H3 w b u v x) (v' : Value) : H3 (w.setCell ⟨b, 1, none⟩ v') b u v' x := by
  obtain ⟨h0, h1, h2, f0, f1, f2, hb⟩ := h
  refine ⟨?_, ?_, ?_, ?_, ?_, ?_, ?_⟩ <;> simp [go_sem, h0, h1, h2, f0, f1, f2, hb]
theorem H3.set2 {w : World} {b : Nat} {u v x : Value} (h : H3 w b u v x) (x' : Value) : H3 (w.setCell ⟨b, 2, none⟩ x') b u v x' := by
  obtain ⟨h0, h1, h2, f0, f1, f2, hb⟩ := h
  refine ⟨?_, ?_, ?_, ?_, ?_, ?_, ?_⟩ <;> simp [go_sem, h0, h1, h2, f0, f1, f2, hb]
def thr (r0 e0 r1 e1 r2 e2 : Int) : Value :=
  if e0 = 0 then if e1 = 0 then if e2 = 0 then .tuple #[zG #[J zq r0, J zq r1, J zq r2], J zq 0] else .tuple #[zG #[J zq 0, J zq 0, J zq 0], J zq e2] else .tuple #[zG #[J zq 0, J zq 0, J zq 0], J zq e1] else .tuple #[zG #[J zq 0, J zq 0, J zq 0], J zq e0]
def vres (s0 s1 s2 : Int) : Value := if ok3 s0 s1 s2 then .tuple #[zG #[J zq s0, J zq s1, J zq s2], J zq 0] else .tuple #[zG #[J zq 0, J zq 0, J zq 0], J zq 2]
def vbad : Value := .tuple #[zG #[J zq 0, J zq 0, J zq 0], J zq 1]
theorem fit_yes' {s : Int} (h : okW s = true) : fitR s = (s, 0) := by unfold fitR; rw [if_pos h]
theorem fit_no' {s : Int} (h : okW s = false) : fitR s = (0, 2) := by unfold fitR; rw [h]; rfl
theorem thr_fit (s0 s1 s2 : Int) : thr (fitR s0).1 (fitR s0).2 (fitR s1).1 (fitR s1).2 (fitR s2).1 (fitR s2).2 = vres s0 s1 s2 := by
  unfold vres ok3 thr
  cases h0 : okW s0
  · rw [fit_no' h0]; rfl
  · rw [fit_yes' h0]
    cases h1 : okW s1
    · rw [fit_no' h1]; rfl
    · rw [fit_yes' h1]
      cases h2 : okW s2
      · rw [fit_no' h2]; rfl
      · rw [fit_yes' h2]; rfl
theorem vres_shape (s0 s1 s2 : Int) : ∃ x y z e : Int, vres s0 s1 s2 = .tuple #[zG #[J zq x, J zq y, J zq z], J zq e] := by
  unfold vres; split <;> exact ⟨_, _, _, _, rfl⟩
theorem ok3_parts {a b c : Int} (h : ok3 a b c = true) : okW a = true ∧ okW b = true ∧ okW c = true := by
  unfold ok3 at h; simp only [Bool.and_eq_true] at h; exact ⟨h.1, h.2.1, h.2.2⟩
end Go.Proofs.YtoeecldhbabmbaaGreat
