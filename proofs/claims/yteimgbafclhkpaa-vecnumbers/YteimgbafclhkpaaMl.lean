/- What the statements of layer 3 share: a list of Two, May, num, wakes. The cells of an entry of a list of Two. -/
import Derived.Test.YteimgbafclhkpaaV8m
import Derived.Test.YteimgbafclhkpaaMg24
namespace Go.Proofs.Yteimgbafclhkpaa
open Go.RowKit Go.Shelf

/-- a list of Two: cell j of entry i holds the number Z i j -/
def Twos3 (w : World) (b off len : Nat) (Z : Nat → Nat → Int) : Prop :=
  ∀ i, i < len → ∀ j, j < 16 → w.cell? ⟨b, off + i * 16 + j, none⟩ = some (.int .i64 (Z i j)) ∧ -9223372036854775808 ≤ Z i j ∧ Z i j ≤ 9223372036854775807
theorem Twos3.ext {w w' : World} {b off len : Nat} {Z : Nat → Nat → Int} (h : Twos3 w b off len Z) (hx : Ext w w') : Twos3 w' b off len Z := by
  intro i hi j hj
  obtain ⟨h1, h2⟩ := h i hi j hj
  refine ⟨?_, h2⟩
  rw [(hx.lay).1 b _ (cell_lt h1)]
  exact h1

set_option maxHeartbeats 400000 in
theorem num3_any (v : Int) (w : World) :
    Calls Try.prog 14 #[.int .i64 v] w fun e w' => e = .returned (.int .i64 v) ∧ w' = w := by
  go_enter Try.func14, Try.ntmps14
  go_wp2
  go_ret
  exact ⟨rfl, rfl⟩

set_option maxHeartbeats 2000000 in
theorem mayv_any (x y z : Int) (w : World) :
    Calls Try.prog 6 #[.agg #[.int .i64 x, .int .i64 y, .int .i64 z]] w fun e w' => e = .returned (.bool (ok3 x y z)) ∧ Ext w w' := by
  have HM : Hid (∀ v w', Calls Try.prog 18 #[.int .i64 v] w' fun e w'' => e = .returned (.bool (okW v)) ∧ w'' = w') := may_any
  unfold ok3
  cases h0 : okW x
  · go_enter Try.func6, Try.ntmps6
    go_wp2_with (go_at_call 18; refine (HM.out _ _).mono ?_; rintro e wx ⟨rfl, hwx⟩; have hwy := hwx.symm; clear hwx; subst hwy)
    go_ret
    exact ⟨rfl, (Ext.refl _).alloc _⟩
  · cases h1 : okW y
    · go_enter Try.func6, Try.ntmps6
      go_wp2_with (go_at_call 18; refine (HM.out _ _).mono ?_; rintro e wx ⟨rfl, hwx⟩; have hwy := hwx.symm; clear hwx; subst hwy)
      go_ret
      exact ⟨rfl, (Ext.refl _).alloc _⟩
    · go_enter Try.func6, Try.ntmps6
      go_wp2_with (go_at_call 18; refine (HM.out _ _).mono ?_; rintro e wx ⟨rfl, hwx⟩; have hwy := hwx.symm; clear hwx; subst hwy)
      go_ret
      exact ⟨rfl, (Ext.refl _).alloc _⟩

set_option maxHeartbeats 1000000 in
theorem wakes3_any (w : World) :
    Calls Try.prog 9 #[] w fun e w' => e = .returned (.bool true) ∧ Ext w w' := by
  have HN : Hid (∀ w', Calls Try.prog 13 #[.agg #[.int .i64 3, .int .i64 4, .int .i64 0]] w' fun e w'' => e = .returned (.tuple #[.int .i64 5, .int .i64 0]) ∧ Ext w' w'') := fun w' => by
    have h := vNorm_yes 3 4 0 5 w' (by decide) (by unfold RootQ; decide)
    have e : fitR ((5 : Nat) : Int) = (5, 0) := by decide
    rw [e] at h
    exact h
  go_enter Try.func9, Try.ntmps9
  go_wp2_with fail
  refine (HN.out _).mono ?_
  rintro e w1 ⟨rfl, x1⟩
  go_wp2_with (go_at_call 14; refine (num3_any _ _).mono ?_; rintro e wx ⟨rfl, hwx⟩; have hwy := hwx.symm; clear hwx; subst hwy)
  go_ret
  exact ⟨rfl, x1⟩
end Go.Proofs.Yteimgbafclhkpaa

namespace Go.Proofs.Yteimgbafclhkpaa
open Go.RowKit Go.Shelf
theorem cell_al {w : World} {b o : Nat} {v : Value} (h : w.cell? ⟨b, o, none⟩ = some v) (x : Obj) : (w.alloc x).cell? ⟨b, o, none⟩ = some v := ((Ext.refl _).alloc x).keepc h
theorem cell_al2 {w : World} {b o : Nat} {v : Value} (h : w.cell? ⟨b, o, none⟩ = some v) (x y : Obj) : ((w.alloc x).alloc y).cell? ⟨b, o, none⟩ = some v := cell_al (cell_al h x) y
/-- the cells of entry k: its two vectors -/
def Row6 (w : World) (b o : Nat) (a0 a1 a2 b0 b1 b2 : Int) : Prop :=
  w.cell? ⟨b, o, none⟩ = some (.int .i64 a0) ∧ w.cell? ⟨b, o + 1, none⟩ = some (.int .i64 a1) ∧ w.cell? ⟨b, o + 2, none⟩ = some (.int .i64 a2) ∧
  w.cell? ⟨b, o + 3, none⟩ = some (.int .i64 b0) ∧ w.cell? ⟨b, o + 3 + 1, none⟩ = some (.int .i64 b1) ∧ w.cell? ⟨b, o + 3 + 2, none⟩ = some (.int .i64 b2)
theorem Twos3.row {w : World} {b off len : Nat} {Z : Nat → Nat → Int} (h : Twos3 w b off len Z) {k : Nat} (hk : k < len) : Row6 w b (off + k * 16) (Z k 0) (Z k 1) (Z k 2) (Z k 3) (Z k 4) (Z k 5) :=
  ⟨(h k hk 0 (by omega)).1, (h k hk 1 (by omega)).1, (h k hk 2 (by omega)).1, (h k hk 3 (by omega)).1, (h k hk 4 (by omega)).1, (h k hk 5 (by omega)).1⟩
theorem Row6.al {w : World} {b o : Nat} {a0 a1 a2 b0 b1 b2 : Int} (h : Row6 w b o a0 a1 a2 b0 b1 b2) (x : Obj) : Row6 (w.alloc x) b o a0 a1 a2 b0 b1 b2 := by
  obtain ⟨h0, h1, h2, h3, h4, h5⟩ := h
  exact ⟨cell_al h0 x, cell_al h1 x, cell_al h2 x, cell_al h3 x, cell_al h4 x, cell_al h5 x⟩
end Go.Proofs.Yteimgbafclhkpaa
