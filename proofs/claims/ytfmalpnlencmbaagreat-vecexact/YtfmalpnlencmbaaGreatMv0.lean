/- What the statements of layer 3 share: a list of Two, May, num, wakes. -/
import Derived.Test.YtfmalpnlencmbaaGreatMg20
import Derived.Test.YtfmalpnlencmbaaGreatMg2
namespace Go.Proofs.YtfmalpnlencmbaaGreat
open Go.RowKit Go.Shelf

/-- a list of Two: cell j of entry i holds the number Z i j -/
def Twos3 (w : World) (b off len : Nat) (Z : Nat → Nat → Int) : Prop :=
  ∀ i, i < len → ∀ j, j < 16 → w.cell? ⟨b, off + i * 16 + j, none⟩ = some (.int .i64 (Z i j)) ∧ -9223372036854775808 ≤ Z i j ∧ Z i j ≤ 9223372036854775807
theorem Twos3.ext {w w' : World} {b off len : Nat} {Z : Nat → Nat → Int} (h : Twos3 w b off len Z) (hx : Ext w w') : Twos3 w' b off len Z := by
  intro i hi j hj
  obtain ⟨h1, h2⟩ := h i hi j hj
  refine ⟨?_, h2⟩
  rw [(hx.lay).1 b _ (cell_lt h1)]
  exact h1

set_option maxHeartbeats 400000 in
theorem num3_any (v : Int) (w : World) :
    Calls Tryz.prog 16 #[.int .i64 v] w fun e w' => e = .returned (.int .i64 v) ∧ w' = w := by
  go_enter Tryz.func16, Tryz.ntmps16
  go_wp2
  go_ret
  exact ⟨rfl, rfl⟩

set_option maxHeartbeats 2000000 in
theorem mayv_any (x y z : Int) (w : World) :
    Calls Tryz.prog 6 #[.agg #[.int .i64 x, .int .i64 y, .int .i64 z]] w fun e w' => e = .returned (.bool (ok3 x y z)) ∧ Ext w w' := by
  have HM : Hid (∀ v w', Calls Tryz.prog 7 #[.int .i64 v] w' fun e w'' => e = .returned (.bool (okW v)) ∧ w'' = w') := may_any
  unfold ok3
  cases h0 : okW x
  · go_enter Tryz.func6, Tryz.ntmps6
    go_wp2_with (go_at_call 7; refine (HM.out _ _).mono ?_; rintro e wx ⟨rfl, hwx⟩; have hwy := hwx.symm; clear hwx; subst hwy)
    go_ret
    exact ⟨rfl, (Ext.refl _).alloc _⟩
  · cases h1 : okW y
    · go_enter Tryz.func6, Tryz.ntmps6
      go_wp2_with (go_at_call 7; refine (HM.out _ _).mono ?_; rintro e wx ⟨rfl, hwx⟩; have hwy := hwx.symm; clear hwx; subst hwy)
      go_ret
      exact ⟨rfl, (Ext.refl _).alloc _⟩
    · go_enter Tryz.func6, Tryz.ntmps6
      go_wp2_with (go_at_call 7; refine (HM.out _ _).mono ?_; rintro e wx ⟨rfl, hwx⟩; have hwy := hwx.symm; clear hwx; subst hwy)
      go_ret
      exact ⟨rfl, (Ext.refl _).alloc _⟩

set_option maxHeartbeats 1000000 in
theorem wakes3_any (w : World) :
    Calls Tryz.prog 25 #[] w fun e w' => e = .returned (.bool true) ∧ Ext w w' := by
  have HN : Hid (∀ w', Calls Tryz.prog 78 #[.agg #[.int .i64 3, .int .i64 4, .int .i64 0]] w' fun e w'' => e = .returned (.tuple #[.int .i64 5, .int .i64 0]) ∧ Ext w' w'') := fun w' => by
    have h := vNorm_yes 3 4 0 5 w' (by decide) (by unfold RootQ; decide)
    have e : fitR ((5 : Nat) : Int) = (5, 0) := by decide
    rw [e] at h
    exact h
  go_enter Tryz.func25, Tryz.ntmps25
  go_wp2_with fail
  refine (HN.out _).mono ?_
  rintro e w1 ⟨rfl, x1⟩
  go_wp2_with (go_at_call 16; refine (num3_any _ _).mono ?_; rintro e wx ⟨rfl, hwx⟩; have hwy := hwx.symm; clear hwx; subst hwy)
  go_ret
  exact ⟨rfl, x1⟩
end Go.Proofs.YtfmalpnlencmbaaGreat
