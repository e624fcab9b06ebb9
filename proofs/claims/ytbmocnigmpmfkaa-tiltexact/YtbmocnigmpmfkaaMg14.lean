/- vec: pairwise. wide: Sum. -/
import Derived.Test.YtbmocnigmpmfkaaMg12
import Derived.Test.YtbmocnigmpmfkaaMg13
import Derived.Test.YtbmocnigmpmfkaaMg10
namespace Go.Proofs.Ytbmocnigmpmfkaa
open Go.RowKit Go.Shelf

theorem thr_shape (r0 e0 r1 e1 r2 e2 : Int) : ∃ x y z e : Int, thr r0 e0 r1 e1 r2 e2 = .tuple #[.agg #[.int .i64 x, .int .i64 y, .int .i64 z], .int .i64 e] := by
  unfold thr
  split
  · split
    · split
      · exact ⟨_, _, _, _, rfl⟩
      · exact ⟨_, _, _, _, rfl⟩
    · exact ⟨_, _, _, _, rfl⟩
  · exact ⟨_, _, _, _, rfl⟩
def two6 (a0 a1 a2 b0 b1 b2 : Int) (i j : Nat) : Int := if i = 0 then (if j = 0 then a0 else if j = 1 then a1 else a2) else (if j = 0 then b0 else if j = 1 then b1 else b2)
theorem cells6_at (a0 a1 a2 b0 b1 b2 : Int) (W : World) (n : Nat) (T : TypeId) (hn : W.heap.size = n) : ∀ i, i < 2 → ∀ j, j < 3 → (W.alloc (.cells #[.int .i64 a0, .int .i64 a1, .int .i64 a2, .int .i64 b0, .int .i64 b1, .int .i64 b2] T)).cell? ⟨n, i * 3 + j, none⟩ = some (.int .i64 (two6 a0 a1 a2 b0 b1 b2 i j)) := by
  subst hn
  intro i hi j hj
  have hi' : i = 0 ∨ i = 1 := by omega
  have hj' : j = 0 ∨ j = 1 ∨ j = 2 := by omega
  rcases hi' with rfl | rfl <;> rcases hj' with rfl | rfl | rfl <;> simp [go_sem, two6]
theorem check2_yes (a0 a1 a2 b0 b1 b2 : Int) (W : World) (n : Nat) (T : TypeId) (hn : W.heap.size = n) (h1 : ok3 a0 a1 a2 = true) (h2 : ok3 b0 b1 b2 = true) :
    Calls Try.prog 24 #[.slice (some ⟨n, 0, none⟩) 2 2] (W.alloc (.cells #[.int .i64 a0, .int .i64 a1, .int .i64 a2, .int .i64 b0, .int .i64 b1, .int .i64 b2] T)) fun e w' => e = .returned (.int .i64 0) ∧ Ext (W.alloc (.cells #[.int .i64 a0, .int .i64 a1, .int .i64 a2, .int .i64 b0, .int .i64 b1, .int .i64 b2] T)) w' := by
  refine (check_list 2 (two6 a0 a1 a2 b0 b1 b2) n _ (by omega) (cells6_at a0 a1 a2 b0 b1 b2 W n T hn)).mono ?_
  rintro e w1 ⟨⟨r, rfl, hr⟩, x⟩
  rcases hr with ⟨rfl, _⟩ | ⟨_, i, hi, hb⟩
  · exact ⟨rfl, x⟩
  · exfalso
    have hi' : i = 0 ∨ i = 1 := by omega
    rcases hi' with rfl | rfl
    · simp [two6, h1] at hb
    · simp [two6, h2] at hb
theorem check2_no (a0 a1 a2 b0 b1 b2 : Int) (W : World) (n : Nat) (T : TypeId) (hn : W.heap.size = n) (h : (ok3 a0 a1 a2 && ok3 b0 b1 b2) = false) :
    Calls Try.prog 24 #[.slice (some ⟨n, 0, none⟩) 2 2] (W.alloc (.cells #[.int .i64 a0, .int .i64 a1, .int .i64 a2, .int .i64 b0, .int .i64 b1, .int .i64 b2] T)) fun e w' => e = .returned (.int .i64 1) ∧ Ext (W.alloc (.cells #[.int .i64 a0, .int .i64 a1, .int .i64 a2, .int .i64 b0, .int .i64 b1, .int .i64 b2] T)) w' := by
  refine (check_list 2 (two6 a0 a1 a2 b0 b1 b2) n _ (by omega) (cells6_at a0 a1 a2 b0 b1 b2 W n T hn)).mono ?_
  rintro e w1 ⟨⟨r, rfl, hr⟩, x⟩
  rcases hr with ⟨rfl, hk⟩ | ⟨rfl, _⟩
  · exfalso
    have h1 := hk 0 (by omega)
    have h2 := hk 1 (by omega)
    simp [two6] at h1 h2
    rw [h1, h2] at h
    cases h
  · exact ⟨rfl, x⟩

end Go.Proofs.Ytbmocnigmpmfkaa

namespace Go.Proofs.Ytbmocnigmpmfkaa
open Go.RowKit Go.Shelf

/-- the sum of the first ones -/
def sumTo (Z : Nat → Int) : Nat → Int
  | 0 => 0
  | k + 1 => sumTo Z k + Z k
theorem H3.set3 {w : World} {b : Nat} {u v x : Value} (h : H3 w b u v x) (u' v' x' : Value) : H3 (((w.setCell ⟨b, 0, none⟩ u').setCell ⟨b, 1, none⟩ v').setCell ⟨b, 2, none⟩ x') b u' v' x' := by
  obtain ⟨h0, h1, h2, f0, f1, f2, hb⟩ := h
  refine ⟨?_, ?_, ?_, ?_, ?_, ?_, ?_⟩ <;> simp [go_sem, h0, h1, h2, f0, f1, f2, hb]
theorem H3.far {w : World} {b g o : Nat} {u v x y : Value} (h : H3 w b u v x) (hb : b ≠ g) : H3 (w.setCell ⟨g, o, none⟩ y) b u v x := by
  obtain ⟨h0, h1, h2, f0, f1, f2, hz⟩ := h
  have k : ∀ i, (w.setCell ⟨g, o, none⟩ y).cell? ⟨b, i, none⟩ = w.cell? ⟨b, i, none⟩ := fun i => World.cell?_setCell_other _ _ _ _ (by intro e; have := congrArg Addr.block e; dsimp only at this; omega)
  refine ⟨by rw [k]; exact h0, by rw [k]; exact h1, by rw [k]; exact h2, ?_, ?_, ?_, ?_⟩ <;> simp [go_sem, f0, f1, f2, hz]
theorem H3.far3 {w : World} {b g : Nat} {u v x p q r : Value} (h : H3 w b u v x) (hb : b ≠ g) : H3 (((w.setCell ⟨g, 0, none⟩ p).setCell ⟨g, 1, none⟩ q).setCell ⟨g, 2, none⟩ r) b u v x := ((h.far hb).far hb).far hb


set_option maxRecDepth 20000 in
set_option maxHeartbeats 8000000 in
theorem sum64_raw (n A B : Nat) (X Y Z : Nat → Int) (w : World) (hn : n ≤ 4)
    (HA : Hid (∀ i, i < n → w.cell? ⟨A, i, none⟩ = some (.int .i64 (X i)) ∧ A < w.heap.size))
    (HB : Hid (∀ i, i < n → w.cell? ⟨B, i, none⟩ = some (.int .i64 (Y i)) ∧ B < w.heap.size))
    (HT : Hid (∀ i w', i < n → Calls Try.prog 41 #[.int .i64 (X i), .int .i64 (Y i)] w' fun e w'' => (∃ r, e = .returned r ∧ IsW r (Z i)) ∧ Ext w' w''))
    (HP : Hid (∀ u v p q w', IsW u p → IsW v q → Calls Try.prog 42 #[u, v] w' fun e w'' => (∃ r, e = .returned r ∧ IsW r (p + q)) ∧ Ext w' w'')) :
    Calls Try.prog 40 #[.slice (some ⟨A, 0, none⟩) n n, .slice (some ⟨B, 0, none⟩) n n, .func (.func 41) #[] #[]] w fun e w' => (∃ r, e = .returned r ∧ IsW r (sumTo Z n)) ∧ Ext w w' := by
  go_enter Try.func40, Try.ntmps40
  go_wp2_with fail
  go_loopw [13] (fun i wr => ∃ k : Nat, k ≤ n ∧ i = .int .i64 (k : Int) ∧ ∃ t0 t1 t2 : Int, H3 wr (w.heap.size + 1) (.int .u64 t0) (.int .u64 t1) (.int .u64 t2) ∧ IsW (.agg #[.int .u64 t0, .int .u64 t1, .int .u64 t2]) (sumTo Z k) ∧ H3 wr w.heap.size (.int .u64 0) (.int .u64 0) (.int .u64 0) ∧ Ext w wr) (fun i _ => n - (intOf i).toNat)
  case atStart => exact ⟨0, by omega, rfl, 0, 0, 0, h3_at (by simp), isW_of rfl rfl rfl, H3.alloc (h3_at rfl) _, by repeat (first | with_reducible assumption | with_reducible exact Ext.refl _ | with_reducible refine Ext.drew ?_ | with_reducible refine Ext.drewN ?_ _ | with_reducible refine Ext.alloc ?_ _ | with_reducible refine Ext.set ?_ (by first | exact Nat.le_refl _ | (dsimp only; omega) | (simp; done)) _)⟩
  case round =>
    obtain ⟨k, hk, rfl, t0, t1, t2, TB, hT0, RB, hx⟩ := hrel
    have hT : Hid (IsW (.agg #[.int .u64 t0, .int .u64 t1, .int .u64 t2]) (sumTo Z k)) := hT0
    clear hT0
    by_cases hlt : k < n
    · have kx : (k : Int) < (n : Int) := by omega
      have TT : Hid (H3 wr (w.heap.size + 1) (.int .u64 t0) (.int .u64 t1) (.int .u64 t2)) := TB
      have RR : Hid (H3 wr w.heap.size (.int .u64 0) (.int .u64 0) (.int .u64 0)) := RB
      obtain ⟨hcx, hax⟩ := HA.out k hlt
      have hcx := ((hx.lay).1 A k hax).trans hcx
      obtain ⟨hcy, hay⟩ := HB.out k hlt
      have hcy := ((hx.lay).1 B k hay).trans hcy
      have PT : Hid _ := fun w' => HT.out k w' hlt
      obtain ⟨c0, c1, c2, c3, c4, c5, c6⟩ := TB
      clear HA HB HT
      go_wp2_with fail
      go_region_with (first | (go_at_call 41; refine (PT.out _).mono ?_; rintro e w1 ⟨⟨u1, rfl, hu1⟩, x1⟩; have y1 : Ext wr.drew w1 := Ext.trans (by repeat (first | with_reducible assumption | with_reducible exact Ext.refl _ | with_reducible refine Ext.drew ?_ | with_reducible refine Ext.drewN ?_ _ | with_reducible refine Ext.alloc ?_ _ | with_reducible refine Ext.set ?_ (by first | exact Nat.le_refl _ | (dsimp only; omega) | (simp; done)) _)) x1; obtain ⟨c0, c1, c2, c3, c4, c5, c6⟩ := TT.out.drew.ext y1) | (go_at_call 42; refine (HP.out _ _ _ _ _ hT.out hu1).mono ?_; rintro e w2 ⟨⟨u2, rfl, s0, s1, s2, rfl, hs⟩, x2⟩; have HSs : Hid _ := hs; clear hs; have y2 : Ext wr.drew w2 := y1.trans x2; obtain ⟨c0, c1, c2, c3, c4, c5, c6⟩ := TT.out.drew.ext y2))
      all_goals
        have T2 := TT.out.drew.ext y2
        have R2 := RR.out.drew.ext y2
        have X2 : Ext w w2 := Ext.trans hx.drew y2
        clear y2 x1 x2 y1 hx
        go_wp2_with fail
        go_roundw
        case rel => exact ⟨k + 1, by omega, by go_num, _, _, _, T2.set3 _ _ _, isW_of HSs.out.1 HSs.out.2.1 HSs.out.2.2, R2.far3 (by omega), by clear T2 R2; repeat (first | with_reducible assumption | with_reducible exact Ext.refl _ | with_reducible refine Ext.drew ?_ | with_reducible refine Ext.drewN ?_ _ | with_reducible refine Ext.alloc ?_ _ | with_reducible refine Ext.set ?_ (by first | exact Nat.le_refl _ | (dsimp only; omega) | (simp; done)) _)⟩
        case measure => simp [intOf]; omega
    · have hkn : k = n := by omega
      subst hkn
      obtain ⟨c0, c1, c2, c3, c4, c5, c6⟩ := TB
      obtain ⟨r0, r1, r2, r3, r4, r5, r6⟩ := RB
      go_wp2_with fail
      exact bodyPost_ret (v := .agg #[.int .u64 t0, .int .u64 t1, .int .u64 t2]) (by simp [results, Try.results40, go_sem, r0, r1, r2]) rfl ⟨⟨_, rfl, hT.out⟩, by repeat (first | with_reducible assumption | with_reducible exact Ext.refl _ | with_reducible refine Ext.drew ?_ | with_reducible refine Ext.drewN ?_ _ | with_reducible refine Ext.alloc ?_ _ | with_reducible refine Ext.set ?_ (by first | exact Nat.le_refl _ | (dsimp only; omega) | (simp; done)) _)⟩
end Go.Proofs.Ytbmocnigmpmfkaa
