/- vec: of, across, sum, inQ30. -/
import Derived.Test.YtcnpjpkmmooedabW4
namespace Go.Proofs.Ytcnpjpkmmooedab
open Go.RowKit Go.Shelf

theorem H3.set3 {w : World} {b : Nat} {u v x : Value} (h : H3 w b u v x) (u' v' x' : Value) : H3 (((w.setCell ⟨b, 0, none⟩ u').setCell ⟨b, 1, none⟩ v').setCell ⟨b, 2, none⟩ x') b u' v' x' := by
  obtain ⟨h0, h1, h2, f0, f1, f2, hb⟩ := h
  refine ⟨?_, ?_, ?_, ?_, ?_, ?_, ?_⟩ <;> simp [go_sem, h0, h1, h2, f0, f1, f2, hb]
theorem H3.far {w : World} {b g o : Nat} {u v x y : Value} (h : H3 w b u v x) (hb : b ≠ g) : H3 (w.setCell ⟨g, o, none⟩ y) b u v x := by
  obtain ⟨h0, h1, h2, f0, f1, f2, hz⟩ := h
  have k : ∀ i, (w.setCell ⟨g, o, none⟩ y).cell? ⟨b, i, none⟩ = w.cell? ⟨b, i, none⟩ := fun i => World.cell?_setCell_other _ _ _ _ (by intro e; have := congrArg Addr.block e; dsimp only at this; omega)
  refine ⟨by rw [k]; exact h0, by rw [k]; exact h1, by rw [k]; exact h2, ?_, ?_, ?_, ?_⟩ <;> simp [go_sem, f0, f1, f2, hz]
theorem H3.far3 {w : World} {b g : Nat} {u v x p q r : Value} (h : H3 w b u v x) (hb : b ≠ g) : H3 (((w.setCell ⟨g, 0, none⟩ p).setCell ⟨g, 1, none⟩ q).setCell ⟨g, 2, none⟩ r) b u v x := ((h.far hb).far hb).far hb

set_option maxHeartbeats 1000000 in
theorem of_any (x y z : Int) (w : World) :
    Calls Try.prog 26 #[.agg #[.int .i64 x, .int .i64 y, .int .i64 z]] w fun e w' => e = .returned (.agg #[.int .i64 x, .int .i64 y, .int .i64 z]) ∧ Ext w w' := by
  go_enter Try.func26, Try.ntmps26
  go_wp2_with fail
  exact bodyPost_ret (v := .agg #[.int .i64 x, .int .i64 y, .int .i64 z]) (by simp [results, Try.results26, go_sem]) rfl ⟨rfl, by repeat (first | with_reducible assumption | with_reducible exact Ext.refl _ | with_reducible refine Ext.drew ?_ | with_reducible refine Ext.drewN ?_ _ | with_reducible refine Ext.alloc ?_ _ | with_reducible refine Ext.set ?_ (by first | exact Nat.le_refl _ | (dsimp only; omega) | (simp; done)) _)⟩

set_option maxHeartbeats 1000000 in
theorem across_any (x y z : Int) (w : World) :
    Calls Try.prog 29 #[.agg #[.int .i64 x, .int .i64 y, .int .i64 z]] w fun e w' => e = .returned (.agg #[.int .i64 0, .int .i64 z, .int .i64 (wrap64 (-y)), .int .i64 (wrap64 (-z)), .int .i64 0, .int .i64 x, .int .i64 y, .int .i64 (wrap64 (-x)), .int .i64 0]) ∧ Ext w w' := by
  go_enter Try.func29, Try.ntmps29
  go_wp2_with fail
  go_region
  go_wp2_with fail
  exact bodyPost_ret (v := .agg #[.int .i64 0, .int .i64 z, .int .i64 (wrap64 (-y)), .int .i64 (wrap64 (-z)), .int .i64 0, .int .i64 x, .int .i64 y, .int .i64 (wrap64 (-x)), .int .i64 0]) (by simp [results, Try.results29, go_sem]) rfl ⟨rfl, by repeat (first | with_reducible assumption | with_reducible exact Ext.refl _ | with_reducible refine Ext.drew ?_ | with_reducible refine Ext.drewN ?_ _ | with_reducible refine Ext.alloc ?_ _ | with_reducible refine Ext.set ?_ (by first | exact Nat.le_refl _ | (dsimp only; omega) | (simp; done)) _)⟩

set_option maxHeartbeats 4000000 in
theorem sum_raw (a0 a1 a2 b0 b1 b2 : Int) (z0 z1 z2 : Int) (w : World)
    (P0 : Hid (∀ w', Calls Try.prog 59 #[.int .i64 a0, .int .i64 b0] w' fun e w'' => (∃ r, e = .returned r ∧ IsW r z0) ∧ Ext w' w''))
    (P1 : Hid (∀ w', Calls Try.prog 59 #[.int .i64 a1, .int .i64 b1] w' fun e w'' => (∃ r, e = .returned r ∧ IsW r z1) ∧ Ext w' w''))
    (P2 : Hid (∀ w', Calls Try.prog 59 #[.int .i64 a2, .int .i64 b2] w' fun e w'' => (∃ r, e = .returned r ∧ IsW r z2) ∧ Ext w' w''))
    (HP : Hid (∀ u v p q w', IsW u p → IsW v q → Calls Try.prog 73 #[u, v] w' fun e w'' => (∃ r, e = .returned r ∧ IsW r (p + q)) ∧ Ext w' w'')) :
    Calls Try.prog 47 #[.agg #[.int .i64 a0, .int .i64 a1, .int .i64 a2], .agg #[.int .i64 b0, .int .i64 b1, .int .i64 b2]] w fun e w' => (∃ r, e = .returned r ∧ IsW r (0 + z0 + z1 + z2)) ∧ Ext w w' := by
  go_enter Try.func47, Try.ntmps47
  go_wp2_with fail
  go_loopw [8] (fun i wr => ∃ k : Nat, k ≤ 3 ∧ i = .int .i64 (k : Int) ∧ ∃ t0 t1 t2 Z : Int, H3 wr (w.heap.size + 1 + 1 + 1) (.int .u64 t0) (.int .u64 t1) (.int .u64 t2) ∧ IsW (.agg #[.int .u64 t0, .int .u64 t1, .int .u64 t2]) Z ∧ (k = 0 ∧ Z = 0 ∨ k = 1 ∧ Z = 0 + z0 ∨ k = 2 ∧ Z = 0 + z0 + z1 ∨ k = 3 ∧ Z = 0 + z0 + z1 + z2) ∧ H3 wr w.heap.size (.int .i64 a0) (.int .i64 a1) (.int .i64 a2) ∧ H3 wr (w.heap.size + 1) (.int .i64 b0) (.int .i64 b1) (.int .i64 b2) ∧ H3 wr (w.heap.size + 1 + 1) (.int .u64 0) (.int .u64 0) (.int .u64 0) ∧ Ext w wr) (fun i _ => 3 - (intOf i).toNat)
  case atStart => exact ⟨0, by omega, rfl, 0, 0, 0, 0, h3_at (by simp), isW_of rfl rfl rfl, Or.inl ⟨rfl, rfl⟩, H3.alloc (H3.alloc (H3.alloc (h3_at rfl) _) _) _, H3.alloc (H3.alloc (h3_at (by simp)) _) _, H3.alloc (h3_at (by simp)) _, by repeat (first | with_reducible assumption | with_reducible exact Ext.refl _ | with_reducible refine Ext.drew ?_ | with_reducible refine Ext.drewN ?_ _ | with_reducible refine Ext.alloc ?_ _ | with_reducible refine Ext.set ?_ (by first | exact Nat.le_refl _ | (dsimp only; omega) | (simp; done)) _)⟩
  case round =>
    obtain ⟨k, hk, rfl, t0, t1, t2, Z, TB, hT0, hZ, AB, BB, RB, hx⟩ := hrel
    have hT : Hid (IsW (.agg #[.int .u64 t0, .int .u64 t1, .int .u64 t2]) Z) := hT0
    have TT : Hid (H3 wr (w.heap.size + 1 + 1 + 1) (.int .u64 t0) (.int .u64 t1) (.int .u64 t2)) := TB
    have AA : Hid (H3 wr w.heap.size (.int .i64 a0) (.int .i64 a1) (.int .i64 a2)) := AB
    have BA : Hid (H3 wr (w.heap.size + 1) (.int .i64 b0) (.int .i64 b1) (.int .i64 b2)) := BB
    have RR : Hid (H3 wr (w.heap.size + 1 + 1) (.int .u64 0) (.int .u64 0) (.int .u64 0)) := RB
    clear hT0
    rcases hZ with ⟨rfl, rfl⟩ | ⟨rfl, rfl⟩ | ⟨rfl, rfl⟩ | ⟨rfl, rfl⟩
    · obtain ⟨c0, c1, c2, c3, c4, c5, c6⟩ := TB
      obtain ⟨d0, d1, d2, d3, d4, d5, d6⟩ := AB
      obtain ⟨e0, e1, e2, e3, e4, e5, e6⟩ := BB
      go_wp2_with fail
      go_region_with (first | (go_at_call 59; refine (P0.out _).mono ?_; rintro e w1 ⟨⟨u1, rfl, hu1⟩, x1⟩; obtain ⟨c0, c1, c2, c3, c4, c5, c6⟩ := TT.out.drew.ext x1) | (go_at_call 73; refine (HP.out _ _ _ _ _ hT.out hu1).mono ?_; rintro e w2 ⟨⟨u2, rfl, s0, s1, s2, rfl, hs⟩, x2⟩; have HSs : Hid _ := hs; clear hs; have y2 : Ext wr.drew w2 := x1.trans x2; obtain ⟨c0, c1, c2, c3, c4, c5, c6⟩ := TT.out.drew.ext y2; obtain ⟨r0, r1, r2, r3, r4, r5, r6⟩ := RR.out.drew.ext y2))
      all_goals
        have T2 := TT.out.drew.ext y2
        have A2 := AA.out.drew.ext y2
        have B2 := BA.out.drew.ext y2
        have R2 := RR.out.drew.ext y2
        have X2 : Ext w w2 := hx.drew.trans y2
        clear y2 x1 x2 hx
        go_wp2_with fail
        go_roundw
        case rel => exact ⟨1, by omega, rfl, _, _, _, _, T2.set3 _ _ _, isW_of HSs.out.1 HSs.out.2.1 HSs.out.2.2, Or.inr (Or.inl ⟨rfl, rfl⟩), A2.far3 (by omega), B2.far3 (by omega), R2.far3 (by omega), by clear T2 A2 B2 R2; repeat (first | with_reducible assumption | with_reducible exact Ext.refl _ | with_reducible refine Ext.drew ?_ | with_reducible refine Ext.drewN ?_ _ | with_reducible refine Ext.alloc ?_ _ | with_reducible refine Ext.set ?_ (by first | exact Nat.le_refl _ | (dsimp only; omega) | (simp; done)) _)⟩
        case measure => simp [intOf]
    · obtain ⟨c0, c1, c2, c3, c4, c5, c6⟩ := TB
      obtain ⟨d0, d1, d2, d3, d4, d5, d6⟩ := AB
      obtain ⟨e0, e1, e2, e3, e4, e5, e6⟩ := BB
      go_wp2_with fail
      go_region_with (first | (go_at_call 59; refine (P1.out _).mono ?_; rintro e w1 ⟨⟨u1, rfl, hu1⟩, x1⟩; obtain ⟨c0, c1, c2, c3, c4, c5, c6⟩ := TT.out.drew.ext x1) | (go_at_call 73; refine (HP.out _ _ _ _ _ hT.out hu1).mono ?_; rintro e w2 ⟨⟨u2, rfl, s0, s1, s2, rfl, hs⟩, x2⟩; have HSs : Hid _ := hs; clear hs; have y2 : Ext wr.drew w2 := x1.trans x2; obtain ⟨c0, c1, c2, c3, c4, c5, c6⟩ := TT.out.drew.ext y2; obtain ⟨r0, r1, r2, r3, r4, r5, r6⟩ := RR.out.drew.ext y2))
      all_goals
        have T2 := TT.out.drew.ext y2
        have A2 := AA.out.drew.ext y2
        have B2 := BA.out.drew.ext y2
        have R2 := RR.out.drew.ext y2
        have X2 : Ext w w2 := hx.drew.trans y2
        clear y2 x1 x2 hx
        go_wp2_with fail
        go_roundw
        case rel => exact ⟨2, by omega, rfl, _, _, _, _, T2.set3 _ _ _, isW_of HSs.out.1 HSs.out.2.1 HSs.out.2.2, Or.inr (Or.inr (Or.inl ⟨rfl, rfl⟩)), A2.far3 (by omega), B2.far3 (by omega), R2.far3 (by omega), by clear T2 A2 B2 R2; repeat (first | with_reducible assumption | with_reducible exact Ext.refl _ | with_reducible refine Ext.drew ?_ | with_reducible refine Ext.drewN ?_ _ | with_reducible refine Ext.alloc ?_ _ | with_reducible refine Ext.set ?_ (by first | exact Nat.le_refl _ | (dsimp only; omega) | (simp; done)) _)⟩
        case measure => simp [intOf]
    · obtain ⟨c0, c1, c2, c3, c4, c5, c6⟩ := TB
      obtain ⟨d0, d1, d2, d3, d4, d5, d6⟩ := AB
      obtain ⟨e0, e1, e2, e3, e4, e5, e6⟩ := BB
      go_wp2_with fail
      go_region_with (first | (go_at_call 59; refine (P2.out _).mono ?_; rintro e w1 ⟨⟨u1, rfl, hu1⟩, x1⟩; obtain ⟨c0, c1, c2, c3, c4, c5, c6⟩ := TT.out.drew.ext x1) | (go_at_call 73; refine (HP.out _ _ _ _ _ hT.out hu1).mono ?_; rintro e w2 ⟨⟨u2, rfl, s0, s1, s2, rfl, hs⟩, x2⟩; have HSs : Hid _ := hs; clear hs; have y2 : Ext wr.drew w2 := x1.trans x2; obtain ⟨c0, c1, c2, c3, c4, c5, c6⟩ := TT.out.drew.ext y2; obtain ⟨r0, r1, r2, r3, r4, r5, r6⟩ := RR.out.drew.ext y2))
      all_goals
        have T2 := TT.out.drew.ext y2
        have A2 := AA.out.drew.ext y2
        have B2 := BA.out.drew.ext y2
        have R2 := RR.out.drew.ext y2
        have X2 : Ext w w2 := hx.drew.trans y2
        clear y2 x1 x2 hx
        go_wp2_with fail
        go_roundw
        case rel => exact ⟨3, by omega, rfl, _, _, _, _, T2.set3 _ _ _, isW_of HSs.out.1 HSs.out.2.1 HSs.out.2.2, Or.inr (Or.inr (Or.inr ⟨rfl, rfl⟩)), A2.far3 (by omega), B2.far3 (by omega), R2.far3 (by omega), by clear T2 A2 B2 R2; repeat (first | with_reducible assumption | with_reducible exact Ext.refl _ | with_reducible refine Ext.drew ?_ | with_reducible refine Ext.drewN ?_ _ | with_reducible refine Ext.alloc ?_ _ | with_reducible refine Ext.set ?_ (by first | exact Nat.le_refl _ | (dsimp only; omega) | (simp; done)) _)⟩
        case measure => simp [intOf]
    · obtain ⟨c0, c1, c2, c3, c4, c5, c6⟩ := TB
      obtain ⟨r0, r1, r2, r3, r4, r5, r6⟩ := RB
      go_wp2_with fail
      exact bodyPost_ret (v := .agg #[.int .u64 t0, .int .u64 t1, .int .u64 t2]) (by simp [results, Try.results47, go_sem, r0, r1, r2]) rfl ⟨⟨_, rfl, hT.out⟩, by repeat (first | with_reducible assumption | with_reducible exact Ext.refl _ | with_reducible refine Ext.drew ?_ | with_reducible refine Ext.drewN ?_ _ | with_reducible refine Ext.alloc ?_ _ | with_reducible refine Ext.set ?_ (by first | exact Nat.le_refl _ | (dsimp only; omega) | (simp; done)) _)⟩
end Go.Proofs.Ytcnpjpkmmooedab
