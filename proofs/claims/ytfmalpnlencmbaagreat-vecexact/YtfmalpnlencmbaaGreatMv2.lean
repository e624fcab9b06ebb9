/- The cells of an entry of a list of Two. is: of equal answers. -/
import Derived.Test.YtfmalpnlencmbaaGreatMv0
import Derived.Test.YtfmalpnlencmbaaGreatMg41
namespace Go.Proofs.YtfmalpnlencmbaaGreat
open Go.RowKit Go.Shelf
theorem cell_al {w : World} {b o : Nat} {v : Value} (h : w.cell? ⟨b, o, none⟩ = some v) (x : Obj) : (w.alloc x).cell? ⟨b, o, none⟩ = some v := ((Ext.refl _).alloc x).keepc h
theorem cell_al2 {w : World} {b o : Nat} {v : Value} (h : w.cell? ⟨b, o, none⟩ = some v) (x y : Obj) : ((w.alloc x).alloc y).cell? ⟨b, o, none⟩ = some v := cell_al (cell_al h x) y
/-- the cells of entry k: its two vectors -/
def Row6 (w : World) (b o : Nat) (a0 a1 a2 b0 b1 b2 : Int) : Prop :=
  w.cell? ⟨b, o, none⟩ = some (.int .i64 a0) ∧ w.cell? ⟨b, o + 1, none⟩ = some (.int .i64 a1) ∧ w.cell? ⟨b, o + 2, none⟩ = some (.int .i64 a2) ∧
  w.cell? ⟨b, o + 3, none⟩ = some (.int .i64 b0) ∧ w.cell? ⟨b, o + 3 + 1, none⟩ = some (.int .i64 b1) ∧ w.cell? ⟨b, o + 3 + 2, none⟩ = some (.int .i64 b2)
theorem Twos3.row {w : World} {b off len : Nat} {Z : Nat → Nat → Int} (h : Twos3 w b off len Z) {k : Nat} (hk : k < len) : Row6 w b (off + k * 16) (Z k 0) (Z k 1) (Z k 2) (Z k 3) (Z k 4) (Z k 5) :=
  ⟨(h k hk 0 (by omega)).1, (h k hk 1 (by omega)).1, (h k hk 2 (by omega)).1, (h k hk 3 (by omega)).1, (h k hk 4 (by omega)).1, (h k hk 5 (by omega)).1⟩
theorem Row6.al {w : World} {b o : Nat} {a0 a1 a2 b0 b1 b2 : Int} (h : Row6 w b o a0 a1 a2 b0 b1 b2) (x : Obj) : Row6 (w.alloc x) b o a0 a1 a2 b0 b1 b2 := by
  obtain ⟨h0, h1, h2, h3, h4, h5⟩ := h
  exact ⟨cell_al h0 x, cell_al h1 x, cell_al h2 x, cell_al h3 x, cell_al h4 x, cell_al h5 x⟩
end Go.Proofs.YtfmalpnlencmbaaGreat

namespace Go.Proofs.YtfmalpnlencmbaaGreat
open Go.RowKit Go.Shelf
theorem vres_is (s0 s1 s2 : Int) : ∃ x y z e : Int, vres s0 s1 s2 = .tuple #[.agg #[.int .i64 x, .int .i64 y, .int .i64 z], .int .i64 e] ∧ (e = 0 ∨ x = 0 ∧ y = 0 ∧ z = 0 ∧ e ≠ 0) := by
  cases h : ok3 s0 s1 s2
  · exact ⟨0, 0, 0, 2, by unfold vres; rw [h]; rfl, .inr ⟨rfl, rfl, rfl, by decide⟩⟩
  · exact ⟨s0, s1, s2, 0, by unfold vres; rw [h]; rfl, .inl rfl⟩
set_option maxHeartbeats 1000000 in
theorem is3_any (x y z e : Int) (w : World) (h : e = 0 ∨ x = 0 ∧ y = 0 ∧ z = 0 ∧ e ≠ 0) :
    Calls Tryz.prog 18 #[.agg #[.int .i64 x, .int .i64 y, .int .i64 z], .int .i64 e, .agg #[.int .i64 x, .int .i64 y, .int .i64 z], .int .i64 e] w fun e' w' => e' = .returned (.bool true) ∧ Ext w w' := by
  rcases h with rfl | ⟨rfl, rfl, rfl, h⟩
  · go_enter Tryz.func18, Tryz.ntmps18
    go_wp2_with (go_at_call 16; refine (num3_any _ _).mono ?_; rintro e wx ⟨rfl, hwx⟩; have hwy := hwx.symm; clear hwx; subst hwy)
    go_ret
    exact ⟨by simp, by repeat (first | with_reducible assumption | with_reducible exact Ext.refl _ | with_reducible refine Ext.drew ?_ | with_reducible refine Ext.drewN ?_ _ | with_reducible refine Ext.alloc ?_ _ | with_reducible refine Ext.set ?_ (by first | exact Nat.le_refl _ | (dsimp only; omega) | (simp; done)) _)⟩
  · have h' : (e != 0) = true := by simpa using h
    clear h
    go_enter Tryz.func18, Tryz.ntmps18
    go_wp2_with (go_at_call 16; refine (num3_any _ _).mono ?_; rintro e wx ⟨rfl, hwx⟩; have hwy := hwx.symm; clear hwx; subst hwy)
    go_ret
    exact ⟨by simp, by repeat (first | with_reducible assumption | with_reducible exact Ext.refl _ | with_reducible refine Ext.drew ?_ | with_reducible refine Ext.drewN ?_ _ | with_reducible refine Ext.alloc ?_ _ | with_reducible refine Ext.set ?_ (by first | exact Nat.le_refl _ | (dsimp only; omega) | (simp; done)) _)⟩
end Go.Proofs.YtfmalpnlencmbaaGreat
