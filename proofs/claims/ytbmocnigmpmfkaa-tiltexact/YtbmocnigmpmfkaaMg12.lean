/- vec: check. variables of three cells that are written. -/
import Derived.Test.YtbmocnigmpmfkaaW4m
namespace Go.Proofs.Ytbmocnigmpmfkaa
open Go.RowKit Go.Shelf

/-- three words -/
def ok3 (a b c : Int) : Bool := okW a && (okW b && okW c)
theorem Ext.keepc {w w' : World} (h : Ext w w') {b o : Nat} {v : Value} (hc : w.cell? ⟨b, o, none⟩ = some v) : w'.cell? ⟨b, o, none⟩ = some v := by
  rw [(h.lay).1 b o (cell_lt hc)]
  exact hc
theorem ix3 (T : TypeId) (hT : T = 52) (x y z : Int) : (∀ w : World, (Instr.index T (.agg #[.int .i64 x, .int .i64 y, .int .i64 z]) (.int .i64 0)).run Try.prog w = .ok (.int .i64 x) w) ∧ (∀ w : World, (Instr.index T (.agg #[.int .i64 x, .int .i64 y, .int .i64 z]) (.int .i64 1)).run Try.prog w = .ok (.int .i64 y) w) ∧ (∀ w : World, (Instr.index T (.agg #[.int .i64 x, .int .i64 y, .int .i64 z]) (.int .i64 2)).run Try.prog w = .ok (.int .i64 z) w) := by
  subst hT
  exact ⟨fun _ => by kernel_rfl, fun _ => by kernel_rfl, fun _ => by kernel_rfl⟩
set_option maxRecDepth 20000 in
set_option maxHeartbeats 4000000 in
theorem check_list (n : Nat) (A : Nat → Nat → Int) (b : Nat) (w : World) (hn : n ≤ 4) (h : ∀ i, i < n → ∀ j, j < 3 → w.cell? ⟨b, i * 3 + j, none⟩ = some (.int .i64 (A i j))) :
    Calls Try.prog 24 #[.slice (some ⟨b, 0, none⟩) n n] w fun e w' => (∃ r : Int, e = .returned (.int .i64 r) ∧ (r = 0 ∧ (∀ i, i < n → ok3 (A i 0) (A i 1) (A i 2) = true) ∨ r = 1 ∧ ∃ i, i < n ∧ ok3 (A i 0) (A i 1) (A i 2) = false)) ∧ Ext w w' := by
  have HC : Hid (∀ v w', Calls Try.prog 30 #[.int .i64 v] w' fun e w'' => e = .returned (.int .i64 (chk v)) ∧ w'' = w') := check_any
  have hh : Hid _ := h
  clear h
  go_enter Try.func24, Try.ntmps24
  go_wp2_with fail
  go_loopw [10] (fun i wr => ∃ k : Nat, k ≤ n ∧ i = .int .i64 (k : Int) ∧ (∀ i, i < k → ok3 (A i 0) (A i 1) (A i 2) = true) ∧ Ext w wr) (fun i _ => n - (intOf i).toNat)
  case atStart => exact ⟨0, by omega, rfl, fun i hi => by omega, Ext.refl _⟩
  case round =>
    obtain ⟨k, hk, rfl, hok, hx⟩ := hrel
    have HK : Hid _ := hok
    clear hok
    by_cases hlt : k < n
    · have c0 := hx.keepc (hh.out k hlt 0 (by omega))
      rw [Nat.add_zero] at c0
      have c1 := hx.keepc (hh.out k hlt 1 (by omega))
      have c2 := hx.keepc (hh.out k hlt 2 (by omega))
      have HB : Hid (ok3 (A k 0) (A k 1) (A k 2) = false → ∃ i, i < n ∧ ok3 (A i 0) (A i 1) (A i 2) = false) := fun h => ⟨k, hlt, h⟩
      have HG : Hid (ok3 (A k 0) (A k 1) (A k 2) = true → ∀ i, i < k + 1 → ok3 (A i 0) (A i 1) (A i 2) = true) := fun h i hi => by
        rcases Nat.lt_or_ge i k with h1 | h1
        · exact HK.out i h1
        · obtain rfl : i = k := by omega
          exact h
      have hlt' : (k : Int) < (n : Int) := by omega
      generalize A k 0 = x0 at *
      generalize A k 1 = x1 at *
      generalize A k 2 = x2 at *
      obtain ⟨i0, i1, i2⟩ := ix3 52 rfl x0 x1 x2
      cases g0 : okW x0
      · have e0 : chk x0 = 1 := by unfold chk; rw [g0]; rfl
        have HF : Hid _ := HB.out (by unfold ok3; rw [g0]; rfl)
        clear g0 HB HG
        go_wp2_with fail
        refine wp_loop_rounds 4 ?_
        rw [rounds_succ]
        go_wp2_with (go_at_call 30; refine (HC.out _ _).mono ?_; rintro e wx ⟨rfl, hwx⟩; have hwy := hwx.symm; clear hwx; subst hwy)
        go_ret
        exact ⟨⟨1, rfl, Or.inr ⟨rfl, HF.out⟩⟩, by repeat (first | with_reducible assumption | with_reducible exact Ext.refl _ | with_reducible refine Ext.drew ?_ | with_reducible refine Ext.drewN ?_ _ | with_reducible refine Ext.alloc ?_ _ | with_reducible refine Ext.set ?_ (by first | exact Nat.le_refl _ | (dsimp only; omega) | (simp; done)) _)⟩
      · have e0 : chk x0 = 0 := by unfold chk; rw [g0]; rfl
        cases g1 : okW x1
        · have e1 : chk x1 = 1 := by unfold chk; rw [g1]; rfl
          have HF : Hid _ := HB.out (by unfold ok3; rw [g0, g1]; rfl)
          clear g0 g1 HB HG
          go_wp2_with fail
          refine wp_loop_rounds 4 ?_
          rw [rounds_succ]
          go_wp2_with (go_at_call 30; refine (HC.out _ _).mono ?_; rintro e wx ⟨rfl, hwx⟩; have hwy := hwx.symm; clear hwx; subst hwy)
          rw [rounds_succ]
          go_wp2_with (go_at_call 30; refine (HC.out _ _).mono ?_; rintro e wx ⟨rfl, hwx⟩; have hwy := hwx.symm; clear hwx; subst hwy)
          go_ret
          exact ⟨⟨1, rfl, Or.inr ⟨rfl, HF.out⟩⟩, by repeat (first | with_reducible assumption | with_reducible exact Ext.refl _ | with_reducible refine Ext.drew ?_ | with_reducible refine Ext.drewN ?_ _ | with_reducible refine Ext.alloc ?_ _ | with_reducible refine Ext.set ?_ (by first | exact Nat.le_refl _ | (dsimp only; omega) | (simp; done)) _)⟩
        · have e1 : chk x1 = 0 := by unfold chk; rw [g1]; rfl
          cases g2 : okW x2
          · have e2 : chk x2 = 1 := by unfold chk; rw [g2]; rfl
            have HF : Hid _ := HB.out (by unfold ok3; rw [g0, g1, g2]; rfl)
            clear g0 g1 g2 HB HG
            go_wp2_with fail
            refine wp_loop_rounds 4 ?_
            rw [rounds_succ]
            go_wp2_with (go_at_call 30; refine (HC.out _ _).mono ?_; rintro e wx ⟨rfl, hwx⟩; have hwy := hwx.symm; clear hwx; subst hwy)
            rw [rounds_succ]
            go_wp2_with (go_at_call 30; refine (HC.out _ _).mono ?_; rintro e wx ⟨rfl, hwx⟩; have hwy := hwx.symm; clear hwx; subst hwy)
            rw [rounds_succ]
            go_wp2_with (go_at_call 30; refine (HC.out _ _).mono ?_; rintro e wx ⟨rfl, hwx⟩; have hwy := hwx.symm; clear hwx; subst hwy)
            go_ret
            exact ⟨⟨1, rfl, Or.inr ⟨rfl, HF.out⟩⟩, by repeat (first | with_reducible assumption | with_reducible exact Ext.refl _ | with_reducible refine Ext.drew ?_ | with_reducible refine Ext.drewN ?_ _ | with_reducible refine Ext.alloc ?_ _ | with_reducible refine Ext.set ?_ (by first | exact Nat.le_refl _ | (dsimp only; omega) | (simp; done)) _)⟩
          · have e2 : chk x2 = 0 := by unfold chk; rw [g2]; rfl
            have HF : Hid _ := HG.out (by unfold ok3; rw [g0, g1, g2]; rfl)
            clear g0 g1 g2 HB HG
            go_wp2_with fail
            refine wp_loop_rounds 4 ?_
            rw [rounds_succ]
            go_wp2_with (go_at_call 30; refine (HC.out _ _).mono ?_; rintro e wx ⟨rfl, hwx⟩; have hwy := hwx.symm; clear hwx; subst hwy)
            rw [rounds_succ]
            go_wp2_with (go_at_call 30; refine (HC.out _ _).mono ?_; rintro e wx ⟨rfl, hwx⟩; have hwy := hwx.symm; clear hwx; subst hwy)
            rw [rounds_succ]
            go_wp2_with (go_at_call 30; refine (HC.out _ _).mono ?_; rintro e wx ⟨rfl, hwx⟩; have hwy := hwx.symm; clear hwx; subst hwy)
            rw [rounds_succ]
            go_wp2_with (go_at_call 30; refine (HC.out _ _).mono ?_; rintro e wx ⟨rfl, hwx⟩; have hwy := hwx.symm; clear hwx; subst hwy)
            go_roundw
            case rel => exact ⟨k + 1, by omega, by go_num, HF.out, by repeat (first | with_reducible assumption | with_reducible exact Ext.refl _ | with_reducible refine Ext.drew ?_ | with_reducible refine Ext.drewN ?_ _ | with_reducible refine Ext.alloc ?_ _ | with_reducible refine Ext.set ?_ (by first | exact Nat.le_refl _ | (dsimp only; omega) | (simp; done)) _)⟩
            case measure => simp [intOf]; omega
    · go_wp2_with fail
      go_ret
      exact ⟨⟨0, rfl, Or.inl ⟨rfl, fun i hi => HK.out i (by omega)⟩⟩, hx⟩
end Go.Proofs.Ytbmocnigmpmfkaa

namespace Go.Proofs.Ytbmocnigmpmfkaa
open Go.RowKit Go.Shelf
theorem H3.farA {w : World} {b g o : Nat} {u v x y : Value} (h : H3 w b u v x) (hb : b ≠ g) : H3 (w.setCell ⟨g, o, none⟩ y) b u v x := by
  obtain ⟨h0, h1, h2, f0, f1, f2, hz⟩ := h
  have k : ∀ i, (w.setCell ⟨g, o, none⟩ y).cell? ⟨b, i, none⟩ = w.cell? ⟨b, i, none⟩ := fun i => World.cell?_setCell_other _ _ _ _ (by intro e; have := congrArg Addr.block e; dsimp only at this; omega)
  refine ⟨by rw [k]; exact h0, by rw [k]; exact h1, by rw [k]; exact h2, ?_, ?_, ?_, ?_⟩ <;> simp [go_sem, f0, f1, f2, hz]

theorem H3.set0 {w : World} {b : Nat} {u v x : Value} (h : H3 w b u v x) (u' : Value) : H3 (w.setCell ⟨b, 0, none⟩ u') b u' v x := by
  obtain ⟨h0, h1, h2, f0, f1, f2, hb⟩ := h
  refine ⟨?_, ?_, ?_, ?_, ?_, ?_, ?_⟩ <;> simp [go_sem, h0, h1, h2, f0, f1, f2, hb]
theorem H3.set1 {w : World} {b : Nat} {u v x : Value} (h : H3 w b u v x) (v' : Value) : H3 (w.setCell ⟨b, 1, none⟩ v') b u v' x := by
  obtain ⟨h0, h1, h2, f0, f1, f2, hb⟩ := h
  refine ⟨?_, ?_, ?_, ?_, ?_, ?_, ?_⟩ <;> simp [go_sem, h0, h1, h2, f0, f1, f2, hb]
theorem H3.set2 {w : World} {b : Nat} {u v x : Value} (h : H3 w b u v x) (x' : Value) : H3 (w.setCell ⟨b, 2, none⟩ x') b u v x' := by
  obtain ⟨h0, h1, h2, f0, f1, f2, hb⟩ := h
  refine ⟨?_, ?_, ?_, ?_, ?_, ?_, ?_⟩ <;> simp [go_sem, h0, h1, h2, f0, f1, f2, hb]
/-- three answers, one behind the other: all of it fails, if one does -/
def thr (r0 e0 r1 e1 r2 e2 : Int) : Value :=
  if e0 = 0 then if e1 = 0 then if e2 = 0 then .tuple #[.agg #[.int .i64 r0, .int .i64 r1, .int .i64 r2], .int .i64 0] else .tuple #[.agg #[.int .i64 0, .int .i64 0, .int .i64 0], .int .i64 e2] else .tuple #[.agg #[.int .i64 0, .int .i64 0, .int .i64 0], .int .i64 e1] else .tuple #[.agg #[.int .i64 0, .int .i64 0, .int .i64 0], .int .i64 e0]
end Go.Proofs.Ytbmocnigmpmfkaa
