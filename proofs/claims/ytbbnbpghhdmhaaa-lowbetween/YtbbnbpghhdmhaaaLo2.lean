/- What the statements of layer 12 share. -/
import Derived.Test.YtbbnbpghhdmhaaaLo1
import Derived.Test.YtbbnbpghhdmhaaaMay
import Derived.Deep.RegionHeld
namespace Go.Proofs.Ytbbnbpghhdmhaaa
open Go.RowKit Go.Shelf
set_option maxHeartbeats 400000 in
theorem num12_any (v : Int) (w : World) :
    Calls Try.prog 9 #[.int .i64 v] w fun e w' => e = .returned (.int .i64 v) ∧ w' = w := by
  go_enter Try.func9, Try.ntmps9
  go_wp2
  go_ret
  exact ⟨rfl, rfl⟩
set_option maxHeartbeats 2000000 in
theorem mayv_any (x y z : Int) (w : World) :
    Calls Try.prog 14 #[.agg #[.int .i64 x, .int .i64 y, .int .i64 z]] w fun e w' => e = .returned (.bool (ok3 x y z)) ∧ Ext w w' := by
  have HM : Hid (∀ v w', Calls Try.prog 21 #[.int .i64 v] w' fun e w'' => e = .returned (.bool (okW v)) ∧ w'' = w') := may_any
  unfold ok3
  cases h0 : okW x
  · go_enter Try.func14, Try.ntmps14
    go_wp2_with (go_at_call 21; refine (HM.out _ _).mono ?_; rintro e wx ⟨rfl, hwx⟩; have hwy := hwx.symm; clear hwx; subst hwy)
    go_ret
    exact ⟨rfl, (Ext.refl _).alloc _⟩
  · cases h1 : okW y
    · go_enter Try.func14, Try.ntmps14
      go_wp2_with (go_at_call 21; refine (HM.out _ _).mono ?_; rintro e wx ⟨rfl, hwx⟩; have hwy := hwx.symm; clear hwx; subst hwy)
      go_ret
      exact ⟨rfl, (Ext.refl _).alloc _⟩
    · go_enter Try.func14, Try.ntmps14
      go_wp2_with (go_at_call 21; refine (HM.out _ _).mono ?_; rintro e wx ⟨rfl, hwx⟩; have hwy := hwx.symm; clear hwx; subst hwy)
      go_ret
      exact ⟨rfl, (Ext.refl _).alloc _⟩


/-- a bool, or a number that a word of 64 bits may hold -/
def kd (b : Bool) (v : Value) : Prop := if b then ∃ x : Bool, v = .bool x else ∃ m : Int, v = .int .i64 m ∧ -9223372036854775808 ≤ m ∧ m ≤ 9223372036854775807
/-- a list of things of n cells each, of kinds k -/
def ML (n : Nat) (k : Nat → Bool) (w : World) (b off len : Nat) (C : Nat → Nat → Value) : Prop :=
  ∀ i, i < len → ∀ j, j < n → w.cell? ⟨b, off + i * n + j, none⟩ = some (C i j) ∧ kd (k j) (C i j)
theorem ML.ext {n : Nat} {k : Nat → Bool} {w w' : World} {b off len : Nat} {C : Nat → Nat → Value} (h : ML n k w b off len C) (hx : Ext w w') : ML n k w' b off len C := by
  intro i hi j hj
  obtain ⟨h1, h2⟩ := h i hi j hj
  refine ⟨?_, h2⟩
  rw [(hx.lay).1 b _ (cell_lt h1)]
  exact h1
theorem ML.num {n : Nat} {k : Nat → Bool} {w : World} {b off len : Nat} {C : Nat → Nat → Value} (h : ML n k w b off len C) {i : Nat} (hi : i < len) {j : Nat} (hj : j < n) (hk : k j = false) : ∃ m : Int, w.cell? ⟨b, off + i * n + j, none⟩ = some (.int .i64 m) ∧ -9223372036854775808 ≤ m ∧ m ≤ 9223372036854775807 := by
  obtain ⟨h1, h2⟩ := h i hi j hj
  unfold kd at h2
  rw [hk, if_neg (by simp)] at h2
  obtain ⟨m, e, hb⟩ := h2
  exact ⟨m, by rw [h1, e], hb⟩
theorem ML.bool {n : Nat} {k : Nat → Bool} {w : World} {b off len : Nat} {C : Nat → Nat → Value} (h : ML n k w b off len C) {i : Nat} (hi : i < len) {j : Nat} (hj : j < n) (hk : k j = true) : ∃ x : Bool, w.cell? ⟨b, off + i * n + j, none⟩ = some (.bool x) := by
  obtain ⟨h1, h2⟩ := h i hi j hj
  unfold kd at h2
  rw [hk, if_pos rfl] at h2
  obtain ⟨m, e⟩ := h2
  exact ⟨m, by rw [h1, e]⟩
/-- an ask that may be -/
def okA (y0 y1 y2 s v0 v1 v2 : Int) : Bool := okSh s && ok3 y0 y1 y2 && ok3 v0 v1 v2
set_option maxRecDepth 20000 in
set_option maxHeartbeats 4000000 in
theorem may12_any (on : Bool) (y0 y1 y2 s v0 v1 v2 : Int) (w : World) : Calls Try.prog 6 #[.agg #[.bool on, .int .i64 y0, .int .i64 y1, .int .i64 y2, .int .i64 s, .int .i64 v0, .int .i64 v1, .int .i64 v2]] w fun e w' => e = .returned (.bool (okA y0 y1 y2 s v0 v1 v2)) ∧ Ext w w' := by
  have HY : Hid (∀ w, Calls Try.prog 14 #[.agg #[.int .i64 y0, .int .i64 y1, .int .i64 y2]] w fun e w' => e = .returned (.bool (ok3 y0 y1 y2)) ∧ Ext w w') := mayv_any y0 y1 y2
  have HC : Hid (∀ w, Calls Try.prog 14 #[.agg #[.int .i64 v0, .int .i64 v1, .int .i64 v2]] w fun e w' => e = .returned (.bool (ok3 v0 v1 v2)) ∧ Ext w w') := mayv_any v0 v1 v2
  have ex : Hid (okA y0 y1 y2 s v0 v1 v2 = (okSh s && ok3 y0 y1 y2 && ok3 v0 v1 v2)) := rfl
  have B1 : Hid (HV (w.alloc (.cells #[.bool on, .int .i64 y0, .int .i64 y1, .int .i64 y2, .int .i64 s, .int .i64 v0, .int .i64 v1, .int .i64 v2] 28)) w.heap.size [.bool on, .int .i64 y0, .int .i64 y1, .int .i64 y2, .int .i64 s, .int .i64 v0, .int .i64 v1, .int .i64 v2]) := hv_at rfl
  have HX : Hid (Ext w (w.alloc (.cells #[.bool on, .int .i64 y0, .int .i64 y1, .int .i64 y2, .int .i64 s, .int .i64 v0, .int .i64 v1, .int .i64 v2] 28))) := (Ext.refl w).alloc _
  generalize okA y0 y1 y2 s v0 v1 v2 = R at *
  generalize ok3 y0 y1 y2 = p at *
  generalize ok3 v0 v1 v2 = q at *
  cases p
  · have er : R = false := by rw [ex.out]; simp
    subst er
    clear ex
    go_enter Try.func6, Try.ntmps6
    go_upto_region 1 with fail
    generalize (w.alloc (.cells #[.bool on, .int .i64 y0, .int .i64 y1, .int .i64 y2, .int .i64 s, .int .i64 v0, .int .i64 v1, .int .i64 v2] 28)) = wa at *
    have c1 : wa.cell? ⟨w.heap.size, 1, none⟩ = some (.int .i64 y0) := B1.out.c 1 rfl
    have c2 : wa.cell? ⟨w.heap.size, 2, none⟩ = some (.int .i64 y1) := B1.out.c 2 rfl
    have c3 : wa.cell? ⟨w.heap.size, 3, none⟩ = some (.int .i64 y2) := B1.out.c 3 rfl
    go_wp2_with fail
    refine (HY.out _).mono ?_
    rintro e w1 ⟨rfl, x1⟩
    clear c1 c2 c3
    have B1 : Hid (HV w1 w.heap.size [.bool on, .int .i64 y0, .int .i64 y1, .int .i64 y2, .int .i64 s, .int .i64 v0, .int .i64 v1, .int .i64 v2]) := B1.out.ext x1
    have HX : Hid (Ext w w1) := HX.out.trans x1
    clear x1
    have c4 : w1.cell? ⟨w.heap.size, 4, none⟩ = some (.int .i64 s) := B1.out.c 4 rfl
    have c5 : w1.cell? ⟨w.heap.size, 5, none⟩ = some (.int .i64 v0) := B1.out.c 5 rfl
    have c6 : w1.cell? ⟨w.heap.size, 6, none⟩ = some (.int .i64 v1) := B1.out.c 6 rfl
    have c7 : w1.cell? ⟨w.heap.size, 7, none⟩ = some (.int .i64 v2) := B1.out.c 7 rfl
    go_wp2_with fail
    go_ret
    first | exact ⟨rfl, HX.out⟩ | exact ⟨by simp [h2], HX.out⟩
  · cases q
    · have er : R = false := by rw [ex.out]; simp
      subst er
      clear ex
      go_enter Try.func6, Try.ntmps6
      go_upto_region 1 with fail
      generalize (w.alloc (.cells #[.bool on, .int .i64 y0, .int .i64 y1, .int .i64 y2, .int .i64 s, .int .i64 v0, .int .i64 v1, .int .i64 v2] 28)) = wa at *
      have c1 : wa.cell? ⟨w.heap.size, 1, none⟩ = some (.int .i64 y0) := B1.out.c 1 rfl
      have c2 : wa.cell? ⟨w.heap.size, 2, none⟩ = some (.int .i64 y1) := B1.out.c 2 rfl
      have c3 : wa.cell? ⟨w.heap.size, 3, none⟩ = some (.int .i64 y2) := B1.out.c 3 rfl
      go_wp2_with fail
      refine (HY.out _).mono ?_
      rintro e w1 ⟨rfl, x1⟩
      clear c1 c2 c3
      have B1 : Hid (HV w1 w.heap.size [.bool on, .int .i64 y0, .int .i64 y1, .int .i64 y2, .int .i64 s, .int .i64 v0, .int .i64 v1, .int .i64 v2]) := B1.out.ext x1
      have HX : Hid (Ext w w1) := HX.out.trans x1
      clear x1
      have c4 : w1.cell? ⟨w.heap.size, 4, none⟩ = some (.int .i64 s) := B1.out.c 4 rfl
      have c5 : w1.cell? ⟨w.heap.size, 5, none⟩ = some (.int .i64 v0) := B1.out.c 5 rfl
      have c6 : w1.cell? ⟨w.heap.size, 6, none⟩ = some (.int .i64 v1) := B1.out.c 6 rfl
      have c7 : w1.cell? ⟨w.heap.size, 7, none⟩ = some (.int .i64 v2) := B1.out.c 7 rfl
      go_wp2_with fail
      refine (HC.out _).mono ?_
      rintro e w2 ⟨rfl, x2⟩
      clear c4 c5 c6 c7
      have B1 : Hid (HV w2 w.heap.size [.bool on, .int .i64 y0, .int .i64 y1, .int .i64 y2, .int .i64 s, .int .i64 v0, .int .i64 v1, .int .i64 v2]) := B1.out.ext x2
      have HX : Hid (Ext w w2) := HX.out.trans x2
      clear x2
      have c4 : w2.cell? ⟨w.heap.size, 4, none⟩ = some (.int .i64 s) := B1.out.c 4 rfl
      go_wp2_with fail
      go_ret
      first | exact ⟨rfl, HX.out⟩ | exact ⟨by simp [h2], HX.out⟩
    · by_cases h1 : 0 ≤ s
      · by_cases h2 : s ≤ 15
        · have er : R = true := by rw [ex.out, okSh_iff.2 ⟨h1, h2⟩]; rfl
          subst er
          clear ex
          go_enter Try.func6, Try.ntmps6
          go_upto_region 1 with fail
          generalize (w.alloc (.cells #[.bool on, .int .i64 y0, .int .i64 y1, .int .i64 y2, .int .i64 s, .int .i64 v0, .int .i64 v1, .int .i64 v2] 28)) = wa at *
          have c1 : wa.cell? ⟨w.heap.size, 1, none⟩ = some (.int .i64 y0) := B1.out.c 1 rfl
          have c2 : wa.cell? ⟨w.heap.size, 2, none⟩ = some (.int .i64 y1) := B1.out.c 2 rfl
          have c3 : wa.cell? ⟨w.heap.size, 3, none⟩ = some (.int .i64 y2) := B1.out.c 3 rfl
          go_wp2_with fail
          refine (HY.out _).mono ?_
          rintro e w1 ⟨rfl, x1⟩
          clear c1 c2 c3
          have B1 : Hid (HV w1 w.heap.size [.bool on, .int .i64 y0, .int .i64 y1, .int .i64 y2, .int .i64 s, .int .i64 v0, .int .i64 v1, .int .i64 v2]) := B1.out.ext x1
          have HX : Hid (Ext w w1) := HX.out.trans x1
          clear x1
          have c4 : w1.cell? ⟨w.heap.size, 4, none⟩ = some (.int .i64 s) := B1.out.c 4 rfl
          have c5 : w1.cell? ⟨w.heap.size, 5, none⟩ = some (.int .i64 v0) := B1.out.c 5 rfl
          have c6 : w1.cell? ⟨w.heap.size, 6, none⟩ = some (.int .i64 v1) := B1.out.c 6 rfl
          have c7 : w1.cell? ⟨w.heap.size, 7, none⟩ = some (.int .i64 v2) := B1.out.c 7 rfl
          go_wp2_with fail
          refine (HC.out _).mono ?_
          rintro e w2 ⟨rfl, x2⟩
          clear c4 c5 c6 c7
          have B1 : Hid (HV w2 w.heap.size [.bool on, .int .i64 y0, .int .i64 y1, .int .i64 y2, .int .i64 s, .int .i64 v0, .int .i64 v1, .int .i64 v2]) := B1.out.ext x2
          have HX : Hid (Ext w w2) := HX.out.trans x2
          clear x2
          have c4 : w2.cell? ⟨w.heap.size, 4, none⟩ = some (.int .i64 s) := B1.out.c 4 rfl
          go_wp2_with fail
          go_ret
          first | exact ⟨rfl, HX.out⟩ | exact ⟨by simp [h2], HX.out⟩
        · have er : R = false := by rw [ex.out, Bool.eq_false_iff.2 (fun h => h2 (okSh_iff.1 h).2)]; rfl
          subst er
          clear ex
          go_enter Try.func6, Try.ntmps6
          go_upto_region 1 with fail
          generalize (w.alloc (.cells #[.bool on, .int .i64 y0, .int .i64 y1, .int .i64 y2, .int .i64 s, .int .i64 v0, .int .i64 v1, .int .i64 v2] 28)) = wa at *
          have c1 : wa.cell? ⟨w.heap.size, 1, none⟩ = some (.int .i64 y0) := B1.out.c 1 rfl
          have c2 : wa.cell? ⟨w.heap.size, 2, none⟩ = some (.int .i64 y1) := B1.out.c 2 rfl
          have c3 : wa.cell? ⟨w.heap.size, 3, none⟩ = some (.int .i64 y2) := B1.out.c 3 rfl
          go_wp2_with fail
          refine (HY.out _).mono ?_
          rintro e w1 ⟨rfl, x1⟩
          clear c1 c2 c3
          have B1 : Hid (HV w1 w.heap.size [.bool on, .int .i64 y0, .int .i64 y1, .int .i64 y2, .int .i64 s, .int .i64 v0, .int .i64 v1, .int .i64 v2]) := B1.out.ext x1
          have HX : Hid (Ext w w1) := HX.out.trans x1
          clear x1
          have c4 : w1.cell? ⟨w.heap.size, 4, none⟩ = some (.int .i64 s) := B1.out.c 4 rfl
          have c5 : w1.cell? ⟨w.heap.size, 5, none⟩ = some (.int .i64 v0) := B1.out.c 5 rfl
          have c6 : w1.cell? ⟨w.heap.size, 6, none⟩ = some (.int .i64 v1) := B1.out.c 6 rfl
          have c7 : w1.cell? ⟨w.heap.size, 7, none⟩ = some (.int .i64 v2) := B1.out.c 7 rfl
          go_wp2_with fail
          refine (HC.out _).mono ?_
          rintro e w2 ⟨rfl, x2⟩
          clear c4 c5 c6 c7
          have B1 : Hid (HV w2 w.heap.size [.bool on, .int .i64 y0, .int .i64 y1, .int .i64 y2, .int .i64 s, .int .i64 v0, .int .i64 v1, .int .i64 v2]) := B1.out.ext x2
          have HX : Hid (Ext w w2) := HX.out.trans x2
          clear x2
          have c4 : w2.cell? ⟨w.heap.size, 4, none⟩ = some (.int .i64 s) := B1.out.c 4 rfl
          go_wp2_with fail
          go_ret
          first | exact ⟨rfl, HX.out⟩ | exact ⟨by simp [h2], HX.out⟩
      · have er : R = false := by rw [ex.out, Bool.eq_false_iff.2 (fun h => h1 (okSh_iff.1 h).1)]; rfl
        subst er
        clear ex
        go_enter Try.func6, Try.ntmps6
        go_upto_region 1 with fail
        generalize (w.alloc (.cells #[.bool on, .int .i64 y0, .int .i64 y1, .int .i64 y2, .int .i64 s, .int .i64 v0, .int .i64 v1, .int .i64 v2] 28)) = wa at *
        have c1 : wa.cell? ⟨w.heap.size, 1, none⟩ = some (.int .i64 y0) := B1.out.c 1 rfl
        have c2 : wa.cell? ⟨w.heap.size, 2, none⟩ = some (.int .i64 y1) := B1.out.c 2 rfl
        have c3 : wa.cell? ⟨w.heap.size, 3, none⟩ = some (.int .i64 y2) := B1.out.c 3 rfl
        go_wp2_with fail
        refine (HY.out _).mono ?_
        rintro e w1 ⟨rfl, x1⟩
        clear c1 c2 c3
        have B1 : Hid (HV w1 w.heap.size [.bool on, .int .i64 y0, .int .i64 y1, .int .i64 y2, .int .i64 s, .int .i64 v0, .int .i64 v1, .int .i64 v2]) := B1.out.ext x1
        have HX : Hid (Ext w w1) := HX.out.trans x1
        clear x1
        have c4 : w1.cell? ⟨w.heap.size, 4, none⟩ = some (.int .i64 s) := B1.out.c 4 rfl
        have c5 : w1.cell? ⟨w.heap.size, 5, none⟩ = some (.int .i64 v0) := B1.out.c 5 rfl
        have c6 : w1.cell? ⟨w.heap.size, 6, none⟩ = some (.int .i64 v1) := B1.out.c 6 rfl
        have c7 : w1.cell? ⟨w.heap.size, 7, none⟩ = some (.int .i64 v2) := B1.out.c 7 rfl
        go_wp2_with fail
        refine (HC.out _).mono ?_
        rintro e w2 ⟨rfl, x2⟩
        clear c4 c5 c6 c7
        have B1 : Hid (HV w2 w.heap.size [.bool on, .int .i64 y0, .int .i64 y1, .int .i64 y2, .int .i64 s, .int .i64 v0, .int .i64 v1, .int .i64 v2]) := B1.out.ext x2
        have HX : Hid (Ext w w2) := HX.out.trans x2
        clear x2
        have c4 : w2.cell? ⟨w.heap.size, 4, none⟩ = some (.int .i64 s) := B1.out.c 4 rfl
        go_wp2_with fail
        go_ret
        first | exact ⟨rfl, HX.out⟩ | exact ⟨by simp [h2], HX.out⟩
set_option maxRecDepth 20000 in
set_option maxHeartbeats 4000000 in
theorem wakes12_any (w : World) : Calls Try.prog 10 #[] w fun e w' => e = .returned (.bool true) ∧ Ext w w' := by
  have HA : Hid (∀ w, Calls Try.prog 8 #[.agg #[.bool true, .int .i64 0, .int .i64 0, .int .i64 0], .int .i64 1, .agg #[.int .i64 10, .int .i64 0, .int .i64 0]] w fun e w' => e = .returned (.tuple #[.agg #[.bool true, .int .i64 5, .int .i64 0, .int .i64 0], .int .i64 0]) ∧ Ext w w') := fun w => by
    have h := otake_any true 0 0 0 1 10 0 0 w
    have e : takeO true 0 0 0 1 10 0 0 = .tuple #[.agg #[.bool true, .int .i64 5, .int .i64 0, .int .i64 0], .int .i64 0] := by kernel_rfl
    rw [e] at h
    exact h
  go_enter Try.func10, Try.ntmps10
  go_wp2_with fail
  refine (HA.out _).mono ?_
  rintro e w1 ⟨rfl, x1⟩
  have FX : Hid (Ext w (w1.alloc (.cells #[.bool true, .int .i64 5, .int .i64 0, .int .i64 0] 26))) := x1.alloc _
  go_wp2_with (go_at_call 9; refine (num12_any _ _).mono ?_; rintro e wx ⟨rfl, hwx⟩; have hwy := hwx.symm; clear hwx; subst hwy)
  go_ret
  exact ⟨rfl, FX.out⟩
end Go.Proofs.Ytbbnbpghhdmhaaa
