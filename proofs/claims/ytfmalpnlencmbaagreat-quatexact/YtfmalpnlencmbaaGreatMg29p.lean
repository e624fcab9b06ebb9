/- What the statements of layer 4 share: a list of Two, num, wakes. What the statements of layer 3 share: a list of Two, May, num, wakes. -/
import Derived.Test.YtfmalpnlencmbaaGreatQ8mp
import Derived.Test.YtfmalpnlencmbaaGreatV1mp
import Derived.Test.YtfmalpnlencmbaaGreatMg16p
import Derived.Test.YtfmalpnlencmbaaGreatW9mp
import Derived.Test.YtfmalpnlencmbaaGreatMg10p
import Derived.Test.YtfmalpnlencmbaaGreatMg2p
namespace Go.Proofs.YtfmalpnlencmbaaGreat
open Go.RowKit Go.Shelf

/-- a list of Two: cell j of entry i holds the number Z i j -/
def Twos4 (w : World) (b off len : Nat) (Z : Nat → Nat → Int) : Prop :=
  ∀ i, i < len → ∀ j, j < 14 → w.cell? ⟨b, off + i * 14 + j, none⟩ = some (.int .i64 (Z i j)) ∧ -9223372036854775808 ≤ Z i j ∧ Z i j ≤ 9223372036854775807
theorem Twos4.ext {w w' : World} {b off len : Nat} {Z : Nat → Nat → Int} (h : Twos4 w b off len Z) (hx : Ext w w') : Twos4 w' b off len Z := by
  intro i hi j hj
  obtain ⟨h1, h2⟩ := h i hi j hj
  refine ⟨?_, h2⟩
  rw [(hx.lay).1 b _ (cell_lt h1)]
  exact h1
/-- fourteen cells, from o on -/
def H14 (w : World) (b o : Nat) (v0 v1 v2 v3 v4 v5 v6 v7 v8 v9 v10 v11 v12 v13 : Int) : Prop :=
  w.cell? ⟨b, o, none⟩ = some (.int .i64 v0) ∧ w.cell? ⟨b, o + 1, none⟩ = some (.int .i64 v1) ∧ w.cell? ⟨b, o + 2, none⟩ = some (.int .i64 v2) ∧ w.cell? ⟨b, o + 3, none⟩ = some (.int .i64 v3) ∧ w.cell? ⟨b, o + 4, none⟩ = some (.int .i64 v4) ∧ w.cell? ⟨b, o + 5, none⟩ = some (.int .i64 v5) ∧ w.cell? ⟨b, o + 6, none⟩ = some (.int .i64 v6) ∧ w.cell? ⟨b, o + 7, none⟩ = some (.int .i64 v7) ∧ w.cell? ⟨b, o + 8, none⟩ = some (.int .i64 v8) ∧ w.cell? ⟨b, o + 9, none⟩ = some (.int .i64 v9) ∧ w.cell? ⟨b, o + 10, none⟩ = some (.int .i64 v10) ∧ w.cell? ⟨b, o + 11, none⟩ = some (.int .i64 v11) ∧ w.cell? ⟨b, o + 12, none⟩ = some (.int .i64 v12) ∧ w.cell? ⟨b, o + 13, none⟩ = some (.int .i64 v13)
theorem Twos4.row {w : World} {b off len : Nat} {Z : Nat → Nat → Int} (h : Twos4 w b off len Z) {k : Nat} (hk : k < len) : H14 w b (off + k * 14) (Z k 0) (Z k 1) (Z k 2) (Z k 3) (Z k 4) (Z k 5) (Z k 6) (Z k 7) (Z k 8) (Z k 9) (Z k 10) (Z k 11) (Z k 12) (Z k 13) :=
  ⟨(h k hk 0 (by omega)).1, (h k hk 1 (by omega)).1, (h k hk 2 (by omega)).1, (h k hk 3 (by omega)).1, (h k hk 4 (by omega)).1, (h k hk 5 (by omega)).1, (h k hk 6 (by omega)).1, (h k hk 7 (by omega)).1, (h k hk 8 (by omega)).1, (h k hk 9 (by omega)).1, (h k hk 10 (by omega)).1, (h k hk 11 (by omega)).1, (h k hk 12 (by omega)).1, (h k hk 13 (by omega)).1⟩
/-- a variable of fourteen cells -/
def P14 (w : World) (b : Nat) (v0 v1 v2 v3 v4 v5 v6 v7 v8 v9 v10 v11 v12 v13 : Int) : Prop :=
  w.cell? ⟨b, 0, none⟩ = some (.int .i64 v0) ∧ w.cell? ⟨b, 1, none⟩ = some (.int .i64 v1) ∧ w.cell? ⟨b, 2, none⟩ = some (.int .i64 v2) ∧ w.cell? ⟨b, 3, none⟩ = some (.int .i64 v3) ∧ w.cell? ⟨b, 4, none⟩ = some (.int .i64 v4) ∧ w.cell? ⟨b, 5, none⟩ = some (.int .i64 v5) ∧ w.cell? ⟨b, 6, none⟩ = some (.int .i64 v6) ∧ w.cell? ⟨b, 7, none⟩ = some (.int .i64 v7) ∧ w.cell? ⟨b, 8, none⟩ = some (.int .i64 v8) ∧ w.cell? ⟨b, 9, none⟩ = some (.int .i64 v9) ∧ w.cell? ⟨b, 10, none⟩ = some (.int .i64 v10) ∧ w.cell? ⟨b, 11, none⟩ = some (.int .i64 v11) ∧ w.cell? ⟨b, 12, none⟩ = some (.int .i64 v12) ∧ w.cell? ⟨b, 13, none⟩ = some (.int .i64 v13) ∧ b < w.heap.size
theorem P14.ext {w w' : World} {b : Nat} {v0 v1 v2 v3 v4 v5 v6 v7 v8 v9 v10 v11 v12 v13 : Int} (h : P14 w b v0 v1 v2 v3 v4 v5 v6 v7 v8 v9 v10 v11 v12 v13) (hx : Ext w w') : P14 w' b v0 v1 v2 v3 v4 v5 v6 v7 v8 v9 v10 v11 v12 v13 := by
  obtain ⟨h0, h1, h2, h3, h4, h5, h6, h7, h8, h9, h10, h11, h12, h13, hb⟩ := h
  exact ⟨hx.keepc h0, hx.keepc h1, hx.keepc h2, hx.keepc h3, hx.keepc h4, hx.keepc h5, hx.keepc h6, hx.keepc h7, hx.keepc h8, hx.keepc h9, hx.keepc h10, hx.keepc h11, hx.keepc h12, hx.keepc h13, Nat.lt_of_lt_of_le hb hx.size⟩
theorem P14.alloc {w : World} {b : Nat} {v0 v1 v2 v3 v4 v5 v6 v7 v8 v9 v10 v11 v12 v13 : Int} (h : P14 w b v0 v1 v2 v3 v4 v5 v6 v7 v8 v9 v10 v11 v12 v13) (x : Obj) : P14 (w.alloc x) b v0 v1 v2 v3 v4 v5 v6 v7 v8 v9 v10 v11 v12 v13 := h.ext ((Ext.refl _).alloc x)
set_option maxHeartbeats 400000 in
theorem num4_any (v : Int) (w : World) :
    Calls Tryz.prog 35 #[.int .i64 v] w fun e w' => e = .returned (.int .i64 v) ∧ w' = w := by
  go_enter Tryz.func35, Tryz.ntmps35
  go_wp2
  go_ret
  exact ⟨rfl, rfl⟩
theorem turn_quarter : turnR 1073741824 0 0 1073741824 1073741824 0 0 = .tuple #[.agg #[.int .i64 0, .int .i64 1073741824, .int .i64 0], .int .i64 0] := by kernel_rfl
set_option maxRecDepth 20000 in
set_option maxHeartbeats 4000000 in
theorem wakes4_any (w : World) :
    Calls Tryz.prog 44 #[] w fun e w' => e = .returned (.bool true) ∧ Ext w w' := by
  have HN : Hid (∀ v w', Calls Tryz.prog 35 #[.int .i64 v] w' fun e w'' => e = .returned (.int .i64 v) ∧ w'' = w') := num4_any
  have HT : Hid (∀ w', Calls Tryz.prog 41 #[.agg #[.int .i64 1073741824, .int .i64 0, .int .i64 0, .int .i64 1073741824], .agg #[.int .i64 1073741824, .int .i64 0, .int .i64 0]] w' fun e w'' => e = .returned (.tuple #[.agg #[.int .i64 0, .int .i64 1073741824, .int .i64 0], .int .i64 0]) ∧ Ext w' w'') := fun w' => by
    have h := qTurn_any 1073741824 0 0 1073741824 1073741824 0 0 w'
    rw [turn_quarter] at h
    exact h
  go_enter Tryz.func44, Tryz.ntmps44
  go_wp2_with fail
  refine (HT.out _).mono ?_
  rintro e w1 ⟨rfl, x1⟩
  go_wp2_with (go_at_call 35; refine (HN.out _ _).mono ?_; rintro e wx ⟨rfl, hwx⟩; have hwy := hwx.symm; clear hwx; subst hwy)
  go_ret
  exact ⟨rfl, x1.alloc _⟩
end Go.Proofs.YtfmalpnlencmbaaGreat

namespace Go.Proofs.YtfmalpnlencmbaaGreat
open Go.RowKit Go.Shelf

/-- a list of Two: cell j of entry i holds the number Z i j -/
def Twos3 (w : World) (b off len : Nat) (Z : Nat → Nat → Int) : Prop :=
  ∀ i, i < len → ∀ j, j < 16 → w.cell? ⟨b, off + i * 16 + j, none⟩ = some (.int .i64 (Z i j)) ∧ -9223372036854775808 ≤ Z i j ∧ Z i j ≤ 9223372036854775807
theorem Twos3.ext {w w' : World} {b off len : Nat} {Z : Nat → Nat → Int} (h : Twos3 w b off len Z) (hx : Ext w w') : Twos3 w' b off len Z := by
  intro i hi j hj
  obtain ⟨h1, h2⟩ := h i hi j hj
  refine ⟨?_, h2⟩
  rw [(hx.lay).1 b _ (cell_lt h1)]
  exact h1

set_option maxHeartbeats 2000000 in
theorem mayv_any (x y z : Int) (w : World) :
    Calls Tryz.prog 6 #[.agg #[.int .i64 x, .int .i64 y, .int .i64 z]] w fun e w' => e = .returned (.bool (ok3 x y z)) ∧ Ext w w' := by
  have HM : Hid (∀ v w', Calls Tryz.prog 7 #[.int .i64 v] w' fun e w'' => e = .returned (.bool (okW v)) ∧ w'' = w') := may_any
  unfold ok3
  cases h0 : okW x
  · go_enter Tryz.func6, Tryz.ntmps6
    go_wp2_with (go_at_call 7; refine (HM.out _ _).mono ?_; rintro e wx ⟨rfl, hwx⟩; have hwy := hwx.symm; clear hwx; subst hwy)
    go_ret
    exact ⟨rfl, (Ext.refl _).alloc _⟩
  · cases h1 : okW y
    · go_enter Tryz.func6, Tryz.ntmps6
      go_wp2_with (go_at_call 7; refine (HM.out _ _).mono ?_; rintro e wx ⟨rfl, hwx⟩; have hwy := hwx.symm; clear hwx; subst hwy)
      go_ret
      exact ⟨rfl, (Ext.refl _).alloc _⟩
    · go_enter Tryz.func6, Tryz.ntmps6
      go_wp2_with (go_at_call 7; refine (HM.out _ _).mono ?_; rintro e wx ⟨rfl, hwx⟩; have hwy := hwx.symm; clear hwx; subst hwy)
      go_ret
      exact ⟨rfl, (Ext.refl _).alloc _⟩

end Go.Proofs.YtfmalpnlencmbaaGreat
