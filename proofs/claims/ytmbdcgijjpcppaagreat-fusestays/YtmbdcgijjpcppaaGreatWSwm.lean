/- wide: Sum of wide numbers. -/
import Derived.Test.YtmbdcgijjpcppaaGreatWSm
namespace Go.Proofs.YtmbdcgijjpcppaaGreat
open Go.RowKit Go.Shelf

set_option maxRecDepth 20000 in
set_option maxHeartbeats 8000000 in
theorem sumw_raw (n A B : Nat) (X0 X1 X2 Y Z : Nat → Int) (w : World) (hn : n ≤ 4)
    (HA : Hid (∀ i, i < n → w.cell? ⟨A, i * 3, none⟩ = some (.int .u64 (X0 i)) ∧ w.cell? ⟨A, i * 3 + 1, none⟩ = some (.int .u64 (X1 i)) ∧ w.cell? ⟨A, i * 3 + 2, none⟩ = some (.int .u64 (X2 i)) ∧ A < w.heap.size))
    (HB : Hid (∀ i, i < n → w.cell? ⟨B, i, none⟩ = some (.int .i64 (Y i)) ∧ B < w.heap.size))
    (HT : Hid (∀ i w', i < n → Calls Tryz.prog 168 #[.agg #[.int .u64 (X0 i), .int .u64 (X1 i), .int .u64 (X2 i)], .int .i64 (Y i)] w' fun e w'' => (∃ r, e = .returned r ∧ IsW r (Z i)) ∧ Ext w' w''))
    (HP : Hid (∀ u v p q w', IsW u p → IsW v q → Calls Tryz.prog 189 #[u, v] w' fun e w'' => (∃ r, e = .returned r ∧ IsW r (p + q)) ∧ Ext w' w'')) :
    Calls Tryz.prog 191 #[.slice (some ⟨A, 0, none⟩) n n, .slice (some ⟨B, 0, none⟩) n n, .func (.func 168) #[] #[]] w fun e w' => (∃ r, e = .returned r ∧ IsW r (sumTo Z n)) ∧ Ext w w' := by
  go_enter Tryz.func191, Tryz.ntmps191
  go_wp2_with fail
  go_loopw [13] (fun i wr => ∃ k : Nat, k ≤ n ∧ i = .int .i64 (k : Int) ∧ ∃ t0 t1 t2 : Int, H3 wr (w.heap.size + 1) (.int .u64 t0) (.int .u64 t1) (.int .u64 t2) ∧ IsW (.agg #[.int .u64 t0, .int .u64 t1, .int .u64 t2]) (sumTo Z k) ∧ H3 wr w.heap.size (.int .u64 0) (.int .u64 0) (.int .u64 0) ∧ Ext w wr) (fun i _ => n - (intOf i).toNat)
  case atStart => exact ⟨0, by omega, rfl, 0, 0, 0, h3_at (by simp), isW_of rfl rfl rfl, H3.alloc (h3_at rfl) _, by repeat (first | with_reducible assumption | with_reducible exact Ext.refl _ | with_reducible refine Ext.drew ?_ | with_reducible refine Ext.drewN ?_ _ | with_reducible refine Ext.alloc ?_ _ | with_reducible refine Ext.set ?_ (by first | exact Nat.le_refl _ | (dsimp only; omega) | (simp; done)) _)⟩
  case round =>
    obtain ⟨k, hk, rfl, t0, t1, t2, TB, hT0, RB, hx⟩ := hrel
    have hT : Hid (IsW (.agg #[.int .u64 t0, .int .u64 t1, .int .u64 t2]) (sumTo Z k)) := hT0
    clear hT0
    by_cases hlt : k < n
    · have kx : (k : Int) < (n : Int) := by omega
      have TT : Hid (H3 wr (w.heap.size + 1) (.int .u64 t0) (.int .u64 t1) (.int .u64 t2)) := TB
      have RR : Hid (H3 wr w.heap.size (.int .u64 0) (.int .u64 0) (.int .u64 0)) := RB
      obtain ⟨hcx0, hcx1, hcx2, hax⟩ := HA.out k hlt
      have hcx0 := ((hx.lay).1 A _ hax).trans hcx0
      have hcx1 := ((hx.lay).1 A _ hax).trans hcx1
      have hcx2 := ((hx.lay).1 A _ hax).trans hcx2
      obtain ⟨hcy, hay⟩ := HB.out k hlt
      have hcy := ((hx.lay).1 B k hay).trans hcy
      have PT : Hid _ := fun w' => HT.out k w' hlt
      have hy0 := (HB.out k hlt).1
      have dy := fun o => (((hx.alloc o).lay).1 B k hay).trans hy0
      have dc0 := fun o => (TT.out.alloc o).1
      have dc1 := fun o => (TT.out.alloc o).2.1
      have dc2 := fun o => (TT.out.alloc o).2.2.1
      have VQ : Hid (H3 (wr.alloc (.cells #[.int .u64 (X0 k), .int .u64 (X1 k), .int .u64 (X2 k)] 167)) wr.heap.size (.int .u64 (X0 k)) (.int .u64 (X1 k)) (.int .u64 (X2 k))) := h3_at rfl
      obtain ⟨v0, v1, v2, v3, v4, v5, v6⟩ := VQ.out
      clear hy0
      obtain ⟨c0, c1, c2, c3, c4, c5, c6⟩ := TB
      clear HA HB HT
      go_wp2_with fail
      go_region_with (first | (go_at_call 168; refine (PT.out _).mono ?_; rintro e w1 ⟨⟨u1, rfl, hu1⟩, x1⟩; have y1 : Ext (wr.alloc (.cells #[.int .u64 (X0 k), .int .u64 (X1 k), .int .u64 (X2 k)] 167)).drew w1 := Ext.trans (by repeat (first | with_reducible assumption | with_reducible exact Ext.refl _ | with_reducible refine Ext.drew ?_ | with_reducible refine Ext.drewN ?_ _ | with_reducible refine Ext.alloc ?_ _ | with_reducible refine Ext.set ?_ (by first | exact Nat.le_refl _ | (dsimp only; omega) | (simp; done)) _)) x1; obtain ⟨c0, c1, c2, c3, c4, c5, c6⟩ := (TT.out.alloc _).drew.ext y1; obtain ⟨v0, v1, v2, v3, v4, v5, v6⟩ := VQ.out.drew.ext y1) | (go_at_call 189; refine (HP.out _ _ _ _ _ hT.out hu1).mono ?_; rintro e w2 ⟨⟨u2, rfl, s0, s1, s2, rfl, hs⟩, x2⟩; have HSs : Hid _ := hs; clear hs; have y2 : Ext (wr.alloc (.cells #[.int .u64 (X0 k), .int .u64 (X1 k), .int .u64 (X2 k)] 167)).drew w2 := y1.trans x2; obtain ⟨c0, c1, c2, c3, c4, c5, c6⟩ := (TT.out.alloc _).drew.ext y2))
      all_goals
        have T2 := (TT.out.alloc _).drew.ext y2
        have R2 := (RR.out.alloc _).drew.ext y2
        have X2 : Ext w w2 := Ext.trans (hx.alloc _).drew y2
        clear y2 x1 x2 y1 hx
        go_wp2_with fail
        go_roundw
        case rel => exact ⟨k + 1, by omega, by go_num, _, _, _, T2.set3 _ _ _, isW_of HSs.out.1 HSs.out.2.1 HSs.out.2.2, R2.far3 (by omega), by clear T2 R2; repeat (first | with_reducible assumption | with_reducible exact Ext.refl _ | with_reducible refine Ext.drew ?_ | with_reducible refine Ext.drewN ?_ _ | with_reducible refine Ext.alloc ?_ _ | with_reducible refine Ext.set ?_ (by first | exact Nat.le_refl _ | (dsimp only; omega) | (simp; done)) _)⟩
        case measure => simp [intOf]; omega
    · have hkn : k = n := by omega
      subst hkn
      obtain ⟨c0, c1, c2, c3, c4, c5, c6⟩ := TB
      obtain ⟨r0, r1, r2, r3, r4, r5, r6⟩ := RB
      go_wp2_with fail
      exact bodyPost_ret (v := .agg #[.int .u64 t0, .int .u64 t1, .int .u64 t2]) (by simp [results, Tryz.results191, go_sem, r0, r1, r2]) rfl ⟨⟨_, rfl, hT.out⟩, by repeat (first | with_reducible assumption | with_reducible exact Ext.refl _ | with_reducible refine Ext.drew ?_ | with_reducible refine Ext.drewN ?_ _ | with_reducible refine Ext.alloc ?_ _ | with_reducible refine Ext.set ?_ (by first | exact Nat.le_refl _ | (dsimp only; omega) | (simp; done)) _)⟩
end Go.Proofs.YtmbdcgijjpcppaaGreat
