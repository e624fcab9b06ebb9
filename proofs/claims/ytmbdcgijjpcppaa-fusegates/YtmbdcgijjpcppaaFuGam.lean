/- FuseGates. -/
import Derived.Test.YtmbdcgijjpcppaaFl0m
import Derived.Deep.Cut
import Derived.Deep.DeepCutAuto
namespace Go.Proofs.Ytmbdcgijjpcppaa
open Go.RowKit Go.Shelf
set_option maxHeartbeats 1000000 in
theorem brought_17592186044416 (v : Int) (w : World) :
    Calls Try.prog 18 #[.int .i64 v, .int .i64 17592186044416] w fun e w' => e = .returned (.int .i64 (brt 17592186044416 v)) ∧ w' = w := by
  have hb := brt_bounds 17592186044416 v (by omega)
  have hd : Hid (brt 17592186044416 v = v % 18446744073709551616 % 35184372088833 - 17592186044416) := rfl
  obtain ⟨X, hX, hX0, hX1⟩ : ∃ X : Int, IntKind.u64.wrap v = X ∧ 0 ≤ X ∧ X ≤ 18446744073709551615 := ⟨_, rfl, by rw [IntKind.wrap_u64]; omega, by rw [IntKind.wrap_u64]; omega⟩
  have hE : Hid (X % 35184372088833 - 17592186044416 = brt 17592186044416 v) := by
    show _ = _
    rw [hd.out, ← hX, IntKind.wrap_u64]
  have h1 : 0 ≤ X % 35184372088833 := by omega
  have h2 : X % 35184372088833 ≤ 35184372088832 := by omega
  clear hd hb
  go_enter Try.func18, Try.ntmps18
  go_wp2_with fail
  go_ret
  exact ⟨ret_int hE.out, rfl⟩

set_option maxHeartbeats 4000000 in
theorem brvec_17592186044416 (a0 a1 a2 : Int) (w : World) :
    Calls Try.prog 6 #[.agg #[.int .i64 a0, .int .i64 a1, .int .i64 a2], .int .i64 17592186044416] w fun e w' => e = .returned (.agg #[.int .i64 (brt 17592186044416 a0), .int .i64 (brt 17592186044416 a1), .int .i64 (brt 17592186044416 a2)]) ∧ Ext w w' := by
  have B0 : Hid (∀ w', Calls Try.prog 18 #[.int .i64 a0, .int .i64 17592186044416] w' fun e w'' => e = .returned (.int .i64 (brt 17592186044416 a0)) ∧ w'' = w') := fun w' => brought_17592186044416 a0 w'
  have B1 : Hid (∀ w', Calls Try.prog 18 #[.int .i64 a1, .int .i64 17592186044416] w' fun e w'' => e = .returned (.int .i64 (brt 17592186044416 a1)) ∧ w'' = w') := fun w' => brought_17592186044416 a1 w'
  have B2 : Hid (∀ w', Calls Try.prog 18 #[.int .i64 a2, .int .i64 17592186044416] w' fun e w'' => e = .returned (.int .i64 (brt 17592186044416 a2)) ∧ w'' = w') := fun w' => brought_17592186044416 a2 w'
  generalize brt 17592186044416 a0 = r0 at *
  generalize brt 17592186044416 a1 = r1 at *
  generalize brt 17592186044416 a2 = r2 at *
  have ne1 : w.heap.size ≠ w.heap.size + 1 := by omega
  have H0 : H3 ((w.alloc (.cells #[.int .i64 a0, .int .i64 a1, .int .i64 a2] 28)).alloc (.cells #[.int .i64 0, .int .i64 0, .int .i64 0] 28)).drew w.heap.size (.int .i64 a0) (.int .i64 a1) (.int .i64 a2) := H3.drew (H3.alloc (h3_at rfl) _)
  obtain ⟨p0, p1, p2, p3, p4, p5, p6⟩ := H0
  go_enter Try.func6, Try.ntmps6
  go_wp2_with fail
  go_region_held (fun w' => w'.cell? ⟨w.heap.size, 0, none⟩ = some (.int .i64 a0) ∧ w'.cell? ⟨w.heap.size, 1, none⟩ = some (.int .i64 a1) ∧ w'.cell? ⟨w.heap.size, 2, none⟩ = some (.int .i64 a2)) (first | (go_keep; done) | (simp [go_sem]; done)) (first | (go_at_call_of 18 (Value.int IntKind.i64 a0); refine (B0.out _).mono ?_; rintro e wx ⟨rfl, hwx⟩; have hwy := hwx.symm; clear hwx; subst hwy) | (go_at_call_of 18 (Value.int IntKind.i64 a1); refine (B1.out _).mono ?_; rintro e wx ⟨rfl, hwx⟩; have hwy := hwx.symm; clear hwx; subst hwy) | (go_at_call_of 18 (Value.int IntKind.i64 a2); refine (B2.out _).mono ?_; rintro e wx ⟨rfl, hwx⟩; have hwy := hwx.symm; clear hwx; subst hwy))
  all_goals
    go_wp2_with fail
    exact bodyPost_ret (v := .agg #[.int .i64 r0, .int .i64 r1, .int .i64 r2]) (by simp [results, Try.results6, go_sem]) rfl ⟨rfl, by repeat (first | with_reducible assumption | with_reducible exact Ext.refl _ | with_reducible refine Ext.drew ?_ | with_reducible refine Ext.drewN ?_ _ | with_reducible refine Ext.alloc ?_ _ | with_reducible refine Ext.set ?_ (by first | exact Nat.le_refl _ | (dsimp only; omega) | (simp; done)) _)⟩


/-- what lies beyond the gate -/
def farV (k j : Nat) : Int := if k = 0 then 0 else if k = 1 then (if j = 0 then 4903325 else 0) else if k = 2 then (if j = 1 then 19613300 else 0) else if k = 3 then (if j = 2 then -17592186044416 else 0) else 35184372088831
def farK (k : Nat) : Nat := if k = 0 then 0 else if k = 1 then 4903325 else if k = 2 then 19613300 else if k = 3 then 17592186044416 else 60941120090264
theorem far_root {k : Nat} (h : k < 5) : RootQ (sq3 (farV k 0) (farV k 1) (farV k 2)) 1 (farK k) ∧ gat (farK k) = false ∧ ok3 (farV k 0) (farV k 1) (farV k 2) = true := by
  have hk : k = 0 ∨ k = 1 ∨ k = 2 ∨ k = 3 ∨ k = 4 := by omega
  rcases hk with rfl | rfl | rfl | rfl | rfl
  all_goals (refine ⟨?_, by decide +kernel, by decide +kernel⟩; unfold RootQ; decide +kernel)
theorem far_up {a b c d : Int} (h : okO a b c d = true) {k : Nat} (hk : k < 5) (w : World) : Calls Try.prog 11 #[.agg #[.int .i64 a, .int .i64 b, .int .i64 c, .int .i64 d], .agg #[.int .i64 (farV k 0), .int .i64 (farV k 1), .int .i64 (farV k 2)]] w fun e w' => e = .returned (.tuple #[.agg #[.int .i64 a, .int .i64 b, .int .i64 c, .int .i64 d], .int .i64 0]) ∧ Ext w w' := by
  obtain ⟨h1, h2, h3⟩ := far_root hk
  exact up_told w h h3 ⟨farK k, h1, .inl ⟨h2, rfl, rfl, rfl, rfl⟩⟩
theorem far_cells {w : World} {g : Nat} (h : HV w g [.int .i64 0, .int .i64 0, .int .i64 0, .int .i64 4903325, .int .i64 0, .int .i64 0, .int .i64 0, .int .i64 19613300, .int .i64 0, .int .i64 0, .int .i64 0, .int .i64 (-17592186044416), .int .i64 35184372088831, .int .i64 35184372088831, .int .i64 35184372088831]) {k : Nat} (hk : k < 5) :
    w.cell? ⟨g, k * 3, none⟩ = some (.int .i64 (farV k 0)) ∧ w.cell? ⟨g, k * 3 + 1, none⟩ = some (.int .i64 (farV k 1)) ∧ w.cell? ⟨g, k * 3 + 2, none⟩ = some (.int .i64 (farV k 2)) := by
  have hk : k = 0 ∨ k = 1 ∨ k = 2 ∨ k = 3 ∨ k = 4 := by omega
  rcases hk with rfl | rfl | rfl | rfl | rfl
  · exact ⟨h.c 0 rfl, h.c 1 rfl, h.c 2 rfl⟩
  · exact ⟨h.c 3 rfl, h.c 4 rfl, h.c 5 rfl⟩
  · exact ⟨h.c 6 rfl, h.c 7 rfl, h.c 8 rfl⟩
  · exact ⟨h.c 9 rfl, h.c 10 rfl, h.c 11 rfl⟩
  · exact ⟨h.c 12 rfl, h.c 13 rfl, h.c 14 rfl⟩
theorem north_fresh (z : Int) (hz : -17592186044416 ≤ z ∧ z ≤ 17592186044416) (w : World) : Calls Try.prog 16 #[.agg #[.int .i64 1073741824, .int .i64 0, .int .i64 0, .int .i64 0], .agg #[.int .i64 0, .int .i64 0, .int .i64 z]] w fun e w' => e = .returned (.tuple #[.agg #[.int .i64 1073741824, .int .i64 0, .int .i64 0, .int .i64 0], .int .i64 0]) ∧ Ext w w' := by
  have ho : okO 1073741824 0 0 0 = true := by decide
  have e0 : tnx 1073741824 0 0 0 0 0 z = 0 := by rw [tnx_eq]; simp
  have e1 : tny 1073741824 0 0 0 0 0 z = 0 := by rw [tny_eq]; simp
  have n0 : nh0 1073741824 0 0 0 0 0 z = 0 := by unfold nh0; rw [e0]; decide +kernel
  have n1 : nh1 1073741824 0 0 0 0 0 z = 0 := by unfold nh1; rw [e1]; decide +kernel
  have hs := mul_le_of hz.1 hz.2 hz.1 hz.2
  have hb := tn_bound (a := 1073741824) (b := 0) (c := 0) (d := 0) (x := 0) (y := 0) (z := z) (B := 17592186044416) (by decide) (by decide) (by omega)
  refine north_told w ho (ok3_of (by decide) (by decide) (by omega)) ?_ (.inl ⟨n0, n1, rfl, rfl, rfl, rfl⟩)
  unfold nh0 nh1 nh2
  exact ok3_of (by omega) (by omega) (by omega)
set_option maxRecDepth 20000 in
set_option maxHeartbeats 40000000 in
theorem gates_any (b off len cap : Nat) (Z : Nat → Nat → Int) (w : World) (hl : len ≤ maxLen) (hc : NL 8 w b off len Z) :
    Calls Try.prog 4 #[.slice (some ⟨b, off, none⟩) len cap] w fun e w' => e = .returned (.bool true) ∧ Ext w w' := by
  have hl' : len ≤ 9223372036854775807 := by unfold maxLen at hl; omega
  clear hl
  go_enter Try.func4, Try.ntmps4
  go_wp2_with fail
  go_loopw [3] (fun i wr => ∃ k : Nat, k ≤ len ∧ i = .int .i64 k ∧ Hid (Ext w wr)) (fun i _ => len - (intOf i).toNat)
  case atStart => exact ⟨0, Nat.zero_le _, rfl, Ext.refl _⟩
  case round =>
    obtain ⟨k, hk, rfl, FX⟩ := hrel
    by_cases hlt : k < len
    · by_cases h5 : k < 6
      · skip
        have HC : Hid (NL 8 w b off len Z) := hc
        clear hc
        obtain ⟨c0, _⟩ := (HC.out.ext FX.out) k hlt 0 (by omega)
        obtain ⟨c1, _⟩ := (HC.out.ext FX.out) k hlt 1 (by omega)
        obtain ⟨c2, _⟩ := (HC.out.ext FX.out) k hlt 2 (by omega)
        obtain ⟨c3, _⟩ := (HC.out.ext FX.out) k hlt 3 (by omega)
        rw [Nat.add_zero] at c0
        have hlt' : (k : Int) < (len : Int) := by omega
        generalize hZ0 : Z k 0 = y0 at c0
        generalize hZ1 : Z k 1 = y1 at c1
        generalize hZ2 : Z k 2 = y2 at c2
        generalize hZ3 : Z k 3 = y3 at c3
        clear hZ0 hZ1 hZ2 hZ3
        obtain ⟨a0, a1, a2, a3, ok, HU, hok⟩ := lunit_any y0 y1 y2 y3
        have HU : Hid (∀ w, Calls Try.prog 5 #[.agg #[.int .i64 y0, .int .i64 y1, .int .i64 y2, .int .i64 y3]] w fun e w' => e = .returned (.tuple #[.agg #[.int .i64 a0, .int .i64 a1, .int .i64 a2, .int .i64 a3], .bool ok]) ∧ Ext w w') := HU
        have hok : Hid (ok = true → isU a0 a1 a2 a3 ∧ okO a0 a1 a2 a3 = true) := hok
        go_upto_region 5 with (first | (go_at_call 5; refine (HU.out _).mono ?_; rintro e w5 ⟨rfl, x5⟩))
        have FX : Hid (Ext w w5) := FX.out.trans x5
        clear x5 HU c0 c1 c2 c3
        have Lf : Hid (w.heap.size ≤ w5.heap.size) := FX.out.size
        have Ff : Hid (HV (w5.alloc (.cells #[.int .i64 a0, .int .i64 a1, .int .i64 a2, .int .i64 a3] 26)) w5.heap.size [.int .i64 a0, .int .i64 a1, .int .i64 a2, .int .i64 a3]) := hv_at rfl
        have FX : Hid (Ext w (w5.alloc (.cells #[.int .i64 a0, .int .i64 a1, .int .i64 a2, .int .i64 a3] 26))) := FX.out.alloc _
        generalize (w5.alloc (.cells #[.int .i64 a0, .int .i64 a1, .int .i64 a2, .int .i64 a3] 26)) = wx1 at *
        generalize w5.heap.size = nf at *
        cases ok
        · clear hok Ff
          go_wp2_with fail
          go_roundw
          case rel => exact ⟨k + 1, by omega, by go_num, FX⟩
          case measure => simp [intOf]; omega
        · obtain ⟨hU, hO⟩ := hok.out rfl
          clear hok hU
          have HQ : Hid (∀ q : Nat, q < 5 → ∀ w, Calls Try.prog 11 #[.agg #[.int .i64 a0, .int .i64 a1, .int .i64 a2, .int .i64 a3], .agg #[.int .i64 (farV q 0), .int .i64 (farV q 1), .int .i64 (farV q 2)]] w fun e w' => e = .returned (.tuple #[.agg #[.int .i64 a0, .int .i64 a1, .int .i64 a2, .int .i64 a3], .int .i64 0]) ∧ Ext w w') := fun q hq w => far_up hO hq w
          clear hO
          go_upto_region 7 with fail
          have ltfr : nf < wx1.heap.size := Ff.out.1
          have Lr : Hid (w.heap.size ≤ wx1.heap.size) := FX.out.size
          have Ff : Hid (HV (wx1.alloc (.cells #[.int .i64 0, .int .i64 0, .int .i64 0, .int .i64 4903325, .int .i64 0, .int .i64 0, .int .i64 0, .int .i64 19613300, .int .i64 0, .int .i64 0, .int .i64 0, .int .i64 (-17592186044416), .int .i64 35184372088831, .int .i64 35184372088831, .int .i64 35184372088831] 28)) nf [.int .i64 a0, .int .i64 a1, .int .i64 a2, .int .i64 a3]) := Ff.out.alloc _
          have Fr : Hid (HV (wx1.alloc (.cells #[.int .i64 0, .int .i64 0, .int .i64 0, .int .i64 4903325, .int .i64 0, .int .i64 0, .int .i64 0, .int .i64 19613300, .int .i64 0, .int .i64 0, .int .i64 0, .int .i64 (-17592186044416), .int .i64 35184372088831, .int .i64 35184372088831, .int .i64 35184372088831] 28)) wx1.heap.size [.int .i64 0, .int .i64 0, .int .i64 0, .int .i64 4903325, .int .i64 0, .int .i64 0, .int .i64 0, .int .i64 19613300, .int .i64 0, .int .i64 0, .int .i64 0, .int .i64 (-17592186044416), .int .i64 35184372088831, .int .i64 35184372088831, .int .i64 35184372088831]) := hv_at rfl
          have FX : Hid (Ext w (wx1.alloc (.cells #[.int .i64 0, .int .i64 0, .int .i64 0, .int .i64 4903325, .int .i64 0, .int .i64 0, .int .i64 0, .int .i64 19613300, .int .i64 0, .int .i64 0, .int .i64 0, .int .i64 (-17592186044416), .int .i64 35184372088831, .int .i64 35184372088831, .int .i64 35184372088831] 28))) := FX.out.alloc _
          generalize (wx1.alloc (.cells #[.int .i64 0, .int .i64 0, .int .i64 0, .int .i64 4903325, .int .i64 0, .int .i64 0, .int .i64 0, .int .i64 19613300, .int .i64 0, .int .i64 0, .int .i64 0, .int .i64 (-17592186044416), .int .i64 35184372088831, .int .i64 35184372088831, .int .i64 35184372088831] 28)) = wx2 at *
          generalize wx1.heap.size = nr at *
          go_wp2_with fail
          go_loopw [7] (fun q wr => ∃ k1 : Nat, k1 ≤ 5 ∧ q = .int .i64 (k1 : Int) ∧ Hid (Ext w wr) ∧ Hid (HV wr nf [.int .i64 a0, .int .i64 a1, .int .i64 a2, .int .i64 a3]) ∧ Hid (HV wr nr [.int .i64 0, .int .i64 0, .int .i64 0, .int .i64 4903325, .int .i64 0, .int .i64 0, .int .i64 0, .int .i64 19613300, .int .i64 0, .int .i64 0, .int .i64 0, .int .i64 (-17592186044416), .int .i64 35184372088831, .int .i64 35184372088831, .int .i64 35184372088831])) (fun q _ => 5 - (intOf q).toNat)
          case atStart => exact ⟨0, by omega, rfl, FX, Ff, Fr⟩
          case round =>
            clear FX Ff Fr
            obtain ⟨k1, hk1, rfl, FX, Ff, Fr⟩ := hrel
            by_cases hl5 : k1 < 5
            · have hl6 : (k1 : Int) < 5 := by omega
              obtain ⟨cz0, cz1, cz2⟩ := far_cells Fr.out hl5
              have HP : Hid (∀ w, Calls Try.prog 11 #[.agg #[.int .i64 a0, .int .i64 a1, .int .i64 a2, .int .i64 a3], .agg #[.int .i64 (farV k1 0), .int .i64 (farV k1 1), .int .i64 (farV k1 2)]] w fun e w' => e = .returned (.tuple #[.agg #[.int .i64 a0, .int .i64 a1, .int .i64 a2, .int .i64 a3], .int .i64 0]) ∧ Ext w w') := HQ.out k1 hl5
              generalize farV k1 0 = z0 at *
              generalize farV k1 1 = z1 at *
              generalize farV k1 2 = z2 at *
              clear HQ
              go_upto_region 10 with fail
              go_cut [8, 9] from 40 to 62 (fun v8 v9 wx => ∃ g : Nat, v8 = .pointer (some ⟨g, 0, none⟩) ∧ v9 = .int .i64 0 ∧ Hid (wr.heap.size ≤ g) ∧ Hid (HV wx g [.int .i64 a0, .int .i64 a1, .int .i64 a2, .int .i64 a3]) ∧ Hid (Ext wr wx))
              case first =>
                have qf0 : wr.cell? ⟨nf, 0, none⟩ = some (.int .i64 a0) := Ff.out.c 0 rfl
                have qf1 : wr.cell? ⟨nf, 1, none⟩ = some (.int .i64 a1) := Ff.out.c 1 rfl
                have qf2 : wr.cell? ⟨nf, 2, none⟩ = some (.int .i64 a2) := Ff.out.c 2 rfl
                have qf3 : wr.cell? ⟨nf, 3, none⟩ = some (.int .i64 a3) := Ff.out.c 3 rfl
                have bf : nf < wr.heap.size := Ff.out.1
                have mf1 := Nat.ne_of_lt bf
                have mf2 := Nat.ne_of_gt bf
                have lt_cz0 : nr < wr.heap.size := Fr.out.1
                have mcz01 := Nat.ne_of_lt lt_cz0
                have mcz02 := Nat.ne_of_gt lt_cz0
                have lt_cz1 : nr < wr.heap.size := Fr.out.1
                have mcz11 := Nat.ne_of_lt lt_cz1
                have mcz12 := Nat.ne_of_gt lt_cz1
                have lt_cz2 : nr < wr.heap.size := Fr.out.1
                have mcz21 := Nat.ne_of_lt lt_cz2
                have mcz22 := Nat.ne_of_gt lt_cz2
                go_region_held3 (fun w' => w'.cell? ⟨nf, 0, none⟩ = some (.int .i64 a0) ∧ w'.cell? ⟨nf, 1, none⟩ = some (.int .i64 a1) ∧ w'.cell? ⟨nf, 2, none⟩ = some (.int .i64 a2) ∧ w'.cell? ⟨nf, 3, none⟩ = some (.int .i64 a3) ∧ w'.cell? ⟨nr, k1 * 3, none⟩ = some (.int .i64 z0) ∧ w'.cell? ⟨nr, k1 * 3 + 1, none⟩ = some (.int .i64 z1) ∧ w'.cell? ⟨nr, k1 * 3 + 2, none⟩ = some (.int .i64 z2)) (first | (go_keep; done) | (refine ⟨?_, ?_, ?_, ?_, ?_, ?_, ?_⟩ <;> (rw [World.cell?_setCell_far _ _ _ _ (by dsimp only; omega), World.cell?_setCell_far _ _ _ _ (by dsimp only; omega), World.cell?_setCell_far _ _ _ _ (by dsimp only; omega), World.cell?_setCell_far _ _ _ _ (by dsimp only; omega)]; with_reducible assumption)) | skip) (first | (go_at_call 11; refine (HP.out _).mono ?_; rintro e wz0 ⟨rfl, y0⟩; have Y0 : Ext wr wz0 := Ext.trans (by repeat (first | with_reducible assumption | with_reducible exact Ext.refl _ | with_reducible refine Ext.drew ?_ | with_reducible refine Ext.drewN ?_ _ | with_reducible refine Ext.alloc ?_ _ | with_reducible refine Ext.set ?_ (by first | exact Nat.le_refl _ | (dsimp only; omega) | (simp; done)) _)) y0; have qf0u : wz0.cell? ⟨nf, 0, none⟩ = some (.int .i64 a0) := (Ff.out.ext Y0).c 0 rfl; have qf1u : wz0.cell? ⟨nf, 1, none⟩ = some (.int .i64 a1) := (Ff.out.ext Y0).c 1 rfl; have qf2u : wz0.cell? ⟨nf, 2, none⟩ = some (.int .i64 a2) := (Ff.out.ext Y0).c 2 rfl; have qf3u : wz0.cell? ⟨nf, 3, none⟩ = some (.int .i64 a3) := (Ff.out.ext Y0).c 3 rfl; have bfu : nf < wz0.heap.size := (Ff.out.ext Y0).1; have mf1u := Nat.ne_of_lt bfu; have mf2u := Nat.ne_of_gt bfu; have cz0u : wz0.cell? ⟨nr, k1 * 3, none⟩ = some (.int .i64 z0) := Y0.keepc cz0; have ltcz0u : nr < wz0.heap.size := Nat.lt_of_lt_of_le lt_cz0 Y0.size; have mcz01u := Nat.ne_of_lt ltcz0u; have mcz02u := Nat.ne_of_gt ltcz0u; have cz1u : wz0.cell? ⟨nr, k1 * 3 + 1, none⟩ = some (.int .i64 z1) := Y0.keepc cz1; have ltcz1u : nr < wz0.heap.size := Nat.lt_of_lt_of_le lt_cz1 Y0.size; have mcz11u := Nat.ne_of_lt ltcz1u; have mcz12u := Nat.ne_of_gt ltcz1u; have cz2u : wz0.cell? ⟨nr, k1 * 3 + 2, none⟩ = some (.int .i64 z2) := Y0.keepc cz2; have ltcz2u : nr < wz0.heap.size := Nat.lt_of_lt_of_le lt_cz2 Y0.size; have mcz21u := Nat.ne_of_lt ltcz2u; have mcz22u := Nat.ne_of_gt ltcz2u; (first | (have N : Hid (HV wz0 _ [.int .i64 0, .int .i64 0, .int .i64 0, .int .i64 0]) := N.out.ext y0) | (have N : Hid (HV wz0 _ [.int .i64 0, .int .i64 0, .int .i64 0, .int .i64 0]) := (hv_at rfl).ext y0) | (have N : Hid (HV wz0 _ [.int .i64 0, .int .i64 0, .int .i64 0, .int .i64 0]) := (HV.drew (hv_at rfl)).ext y0) | (have N : Hid (HV wz0 _ [.int .i64 0, .int .i64 0, .int .i64 0, .int .i64 0]) := (HV.alloc N.out _).ext y0) | skip); (first | (have n0 := N.out.c 0 rfl; have n1 := N.out.c 1 rfl; have n2 := N.out.c 2 rfl; have n3 := N.out.c 3 rfl; have f0 := N.out.f 0 rfl; have f1 := N.out.f 1 rfl; have f2 := N.out.f 2 rfl; have f3 := N.out.f 3 rfl) | skip)))
                all_goals
                  go_wp2_with fail
                  go_meet
                  first | exact ⟨wz0.heap.size, rfl, rfl, Y0.size, hv_at rfl, Y0.alloc _⟩ | exact (have hg : wr.heap.size ≤ wr.heap.size := Nat.le_refl _; ⟨wr.heap.size, rfl, rfl, Nat.le_refl _, ((((N.out.set 0 (.int .i64 a0)).set 1 (.int .i64 a1)).set 2 (.int .i64 a2)).set 3 (.int .i64 a3)), ((((Y0.set (p := ⟨_, 0, none⟩) hg _).set (p := ⟨_, 1, none⟩) hg _).set (p := ⟨_, 2, none⟩) hg _).set (p := ⟨_, 3, none⟩) hg _)⟩)
              case rest =>
                obtain ⟨ng, rfl, rfl, Lg, Fg, hx⟩ := hcut
                have hx := hx.out
                have ltfg : nf < ng := Nat.lt_of_lt_of_le Ff.out.1 Lg.out
                have ltrg : nr < ng := Nat.lt_of_lt_of_le Fr.out.1 Lg.out
                have Lg : Hid (w.heap.size ≤ ng) := Nat.le_trans FX.out.size Lg.out
                have Ff : Hid (HV wc nf [.int .i64 a0, .int .i64 a1, .int .i64 a2, .int .i64 a3]) := Ff.out.ext hx
                have Fr : Hid (HV wc nr [.int .i64 0, .int .i64 0, .int .i64 0, .int .i64 4903325, .int .i64 0, .int .i64 0, .int .i64 0, .int .i64 19613300, .int .i64 0, .int .i64 0, .int .i64 0, .int .i64 (-17592186044416), .int .i64 35184372088831, .int .i64 35184372088831, .int .i64 35184372088831]) := Fr.out.ext hx
                have FX : Hid (Ext w wc) := FX.out.trans hx
                clear hx
                generalize wc = wx23 at *
                clear HP cz0 cz1 cz2
                have qg0 : wx23.cell? ⟨ng, 0, none⟩ = some (.int .i64 a0) := Fg.out.c 0 rfl
                have qg1 : wx23.cell? ⟨ng, 1, none⟩ = some (.int .i64 a1) := Fg.out.c 1 rfl
                have qg2 : wx23.cell? ⟨ng, 2, none⟩ = some (.int .i64 a2) := Fg.out.c 2 rfl
                have qg3 : wx23.cell? ⟨ng, 3, none⟩ = some (.int .i64 a3) := Fg.out.c 3 rfl
                have qf0 : wx23.cell? ⟨nf, 0, none⟩ = some (.int .i64 a0) := Ff.out.c 0 rfl
                have qf1 : wx23.cell? ⟨nf, 1, none⟩ = some (.int .i64 a1) := Ff.out.c 1 rfl
                have qf2 : wx23.cell? ⟨nf, 2, none⟩ = some (.int .i64 a2) := Ff.out.c 2 rfl
                have qf3 : wx23.cell? ⟨nf, 3, none⟩ = some (.int .i64 a3) := Ff.out.c 3 rfl
                have he := eqF a0 a1 a2 a3 a0 a1 a2 a3
                go_wp2_with (first | (go_at_call 8; refine (num15_any _ _).mono ?_; rintro e wx ⟨rfl, hwx⟩; have hwy := hwx.symm; clear hwx; subst hwy))
                go_roundw
                case rel => exact ⟨k1 + 1, by omega, by go_num, FX, Ff, Fr⟩
                case measure => simp [intOf]; omega
            · have h5k : k1 = 5 := by omega
              subst h5k
              clear HQ hl5 hk1
              obtain ⟨c6, _⟩ := (HC.out.ext FX.out) k hlt 6 (by omega)
              have cl : b < wr.heap.size := cell_lt c6
              have ty := brt_bounds 17592186044416 (Z k 6) (by decide)
              have HB : Hid (∀ w, Calls Try.prog 18 #[.int .i64 (Z k 6), .int .i64 17592186044416] w fun e w' => e = .returned (.int .i64 (brt 17592186044416 (Z k 6))) ∧ w' = w) := brought_17592186044416 _
              generalize Z k 6 = y6 at *
              generalize brt 17592186044416 y6 = t6 at *
              have HF : Hid (∀ w, Calls Try.prog 17 #[] w fun e w' => e = .returned (.agg #[.int .i64 1073741824, .int .i64 0, .int .i64 0, .int .i64 0]) ∧ Ext w w') := fresh_any
              have HO : Hid (∀ w, Calls Try.prog 16 #[.agg #[.int .i64 1073741824, .int .i64 0, .int .i64 0, .int .i64 0], .agg #[.int .i64 0, .int .i64 0, .int .i64 t6]] w fun e w' => e = .returned (.tuple #[.agg #[.int .i64 1073741824, .int .i64 0, .int .i64 0, .int .i64 0], .int .i64 0]) ∧ Ext w w') := north_fresh t6 ty
              clear ty HC
              clear Ff Fr
              go_upto_region 13 with fail
              go_cut [10, 11] from 12 to 83 (fun v10 v11 wx => ∃ g : Nat, v10 = .pointer (some ⟨g, 0, none⟩) ∧ v11 = .int .i64 0 ∧ Hid (wr.heap.size ≤ g) ∧ Hid (HV wx g [.int .i64 1073741824, .int .i64 0, .int .i64 0, .int .i64 0]) ∧ Hid (Ext wr wx))
              case first =>
                have lt_c6 : b < wr.heap.size := cl
                have mc61 := Nat.ne_of_lt lt_c6
                have mc62 := Nat.ne_of_gt lt_c6
                go_region_held3 (fun w' => w'.cell? ⟨b, off + k * 8 + 6, none⟩ = some (.int .i64 y6)) (first | (go_keep; done) | skip | skip) (first | (go_at_call 18; refine (HB.out _).mono ?_; rintro e wx ⟨rfl, hwx⟩; have hwy := hwx.symm; clear hwx; subst hwy) | (go_at_call 17; refine (HF.out _).mono ?_; rintro e wz0 ⟨rfl, y0⟩; have Y0 : Ext wr wz0 := Ext.trans (by repeat (first | with_reducible assumption | with_reducible exact Ext.refl _ | with_reducible refine Ext.drew ?_ | with_reducible refine Ext.drewN ?_ _ | with_reducible refine Ext.alloc ?_ _ | with_reducible refine Ext.set ?_ (by first | exact Nat.le_refl _ | (dsimp only; omega) | (simp; done)) _)) y0; have c6u : wz0.cell? ⟨b, off + k * 8 + 6, none⟩ = some (.int .i64 y6) := Y0.keepc c6; have ltc6u : b < wz0.heap.size := Nat.lt_of_lt_of_le lt_c6 Y0.size; have mc61u := Nat.ne_of_lt ltc6u; have mc62u := Nat.ne_of_gt ltc6u; (first | (have N : Hid (HV wz0 _ [.int .i64 0, .int .i64 0, .int .i64 0, .int .i64 0]) := N.out.ext y0) | (have N : Hid (HV wz0 _ [.int .i64 0, .int .i64 0, .int .i64 0, .int .i64 0]) := (hv_at rfl).ext y0) | (have N : Hid (HV wz0 _ [.int .i64 0, .int .i64 0, .int .i64 0, .int .i64 0]) := (HV.drew (hv_at rfl)).ext y0) | (have N : Hid (HV wz0 _ [.int .i64 0, .int .i64 0, .int .i64 0, .int .i64 0]) := (HV.alloc N.out _).ext y0) | skip)) | (go_at_call 16; refine (HO.out _).mono ?_; rintro e wz1 ⟨rfl, y1⟩; have Y1 : Ext wr wz1 := Ext.trans (by repeat (first | with_reducible assumption | with_reducible exact Ext.refl _ | with_reducible refine Ext.drew ?_ | with_reducible refine Ext.drewN ?_ _ | with_reducible refine Ext.alloc ?_ _ | with_reducible refine Ext.set ?_ (by first | exact Nat.le_refl _ | (dsimp only; omega) | (simp; done)) _)) y1; have c6u : wz1.cell? ⟨b, off + k * 8 + 6, none⟩ = some (.int .i64 y6) := Y1.keepc c6; have ltc6u : b < wz1.heap.size := Nat.lt_of_lt_of_le lt_c6 Y1.size; have mc61u := Nat.ne_of_lt ltc6u; have mc62u := Nat.ne_of_gt ltc6u; (first | (have N : Hid (HV wz1 _ [.int .i64 0, .int .i64 0, .int .i64 0, .int .i64 0]) := N.out.ext y1) | (have N : Hid (HV wz1 _ [.int .i64 0, .int .i64 0, .int .i64 0, .int .i64 0]) := (hv_at rfl).ext y1) | (have N : Hid (HV wz1 _ [.int .i64 0, .int .i64 0, .int .i64 0, .int .i64 0]) := (HV.drew (hv_at rfl)).ext y1) | (have N : Hid (HV wz1 _ [.int .i64 0, .int .i64 0, .int .i64 0, .int .i64 0]) := (HV.alloc N.out _).ext y1) | skip); (first | (have n0 := N.out.c 0 rfl; have n1 := N.out.c 1 rfl; have n2 := N.out.c 2 rfl; have n3 := N.out.c 3 rfl; have f0 := N.out.f 0 rfl; have f1 := N.out.f 1 rfl; have f2 := N.out.f 2 rfl; have f3 := N.out.f 3 rfl) | skip)))
                all_goals
                  go_wp2_with fail
                  go_meet
                  first | exact ⟨wz1.heap.size, rfl, rfl, Y1.size, hv_at rfl, Y1.alloc _⟩ | exact (have hg : wr.heap.size ≤ wr.heap.size := Nat.le_refl _; ⟨wr.heap.size, rfl, rfl, Nat.le_refl _, ((((N.out.set 0 (.int .i64 1073741824)).set 1 (.int .i64 0)).set 2 (.int .i64 0)).set 3 (.int .i64 0)), ((((Y1.set (p := ⟨_, 0, none⟩) hg _).set (p := ⟨_, 1, none⟩) hg _).set (p := ⟨_, 2, none⟩) hg _).set (p := ⟨_, 3, none⟩) hg _)⟩) | exact (have hg : wr.heap.size ≤ wz0.heap.size := Y0.size; ⟨wz0.heap.size, rfl, rfl, hg, ((((N.out.set 0 (.int .i64 1073741824)).set 1 (.int .i64 0)).set 2 (.int .i64 0)).set 3 (.int .i64 0)), ((((Y1.set (p := ⟨_, 0, none⟩) hg _).set (p := ⟨_, 1, none⟩) hg _).set (p := ⟨_, 2, none⟩) hg _).set (p := ⟨_, 3, none⟩) hg _)⟩)
              case rest =>
                obtain ⟨nh, rfl, rfl, Lh, Fh, hx⟩ := hcut
                have hx := hx.out
                have Lh : Hid (w.heap.size ≤ nh) := Nat.le_trans FX.out.size Lh.out
                have FX : Hid (Ext w wc) := FX.out.trans hx
                clear hx
                generalize wc = wx33 at *
                clear HB HO c6 cl
                have he := eqF 1073741824 0 0 0 1073741824 0 0 0
                go_upto_region 14 with fail
                go_cut [83] from 12 to 83 (fun v83 wx => v83 = .bool false ∧ Hid (Ext wx33 wx))
                case first =>
                  have qh0 : wx33.cell? ⟨nh, 0, none⟩ = some (.int .i64 1073741824) := Fh.out.c 0 rfl
                  have qh1 : wx33.cell? ⟨nh, 1, none⟩ = some (.int .i64 0) := Fh.out.c 1 rfl
                  have qh2 : wx33.cell? ⟨nh, 2, none⟩ = some (.int .i64 0) := Fh.out.c 2 rfl
                  have qh3 : wx33.cell? ⟨nh, 3, none⟩ = some (.int .i64 0) := Fh.out.c 3 rfl
                  have bh : nh < wx33.heap.size := Fh.out.1
                  have mh1 := Nat.ne_of_lt bh
                  have mh2 := Nat.ne_of_gt bh
                  go_region_held3 (fun w' => w'.cell? ⟨nh, 0, none⟩ = some (.int .i64 1073741824) ∧ w'.cell? ⟨nh, 1, none⟩ = some (.int .i64 0) ∧ w'.cell? ⟨nh, 2, none⟩ = some (.int .i64 0) ∧ w'.cell? ⟨nh, 3, none⟩ = some (.int .i64 0)) (first | (go_keep; done) | (refine ⟨?_, ?_, ?_, ?_⟩ <;> (rw [World.cell?_setCell_far _ _ _ _ (by dsimp only; omega)]; with_reducible assumption)) | skip) (first | (go_at_call 8; refine (num15_any _ _).mono ?_; rintro e wx ⟨rfl, hwx⟩; have hwy := hwx.symm; clear hwx; subst hwy) | (go_at_call 17; refine (HF.out _).mono ?_; rintro e wz0 ⟨rfl, y0⟩; have Y0 : Ext wx33 wz0 := Ext.trans (by repeat (first | with_reducible assumption | with_reducible exact Ext.refl _ | with_reducible refine Ext.drew ?_ | with_reducible refine Ext.drewN ?_ _ | with_reducible refine Ext.alloc ?_ _ | with_reducible refine Ext.set ?_ (by first | exact Nat.le_refl _ | (dsimp only; omega) | (simp; done)) _)) y0; have qh0u : wz0.cell? ⟨nh, 0, none⟩ = some (.int .i64 1073741824) := (Fh.out.ext Y0).c 0 rfl; have qh1u : wz0.cell? ⟨nh, 1, none⟩ = some (.int .i64 0) := (Fh.out.ext Y0).c 1 rfl; have qh2u : wz0.cell? ⟨nh, 2, none⟩ = some (.int .i64 0) := (Fh.out.ext Y0).c 2 rfl; have qh3u : wz0.cell? ⟨nh, 3, none⟩ = some (.int .i64 0) := (Fh.out.ext Y0).c 3 rfl; have bhu : nh < wz0.heap.size := (Fh.out.ext Y0).1; have mh1u := Nat.ne_of_lt bhu; have mh2u := Nat.ne_of_gt bhu))
                  all_goals
                    go_wp2_with fail
                    go_meet
                    exact ⟨rfl, Y0⟩
                case rest =>
                  obtain ⟨rfl, hx⟩ := hcut
                  have hx := hx.out
                  have Fh : Hid (HV wc nh [.int .i64 1073741824, .int .i64 0, .int .i64 0, .int .i64 0]) := Fh.out.ext hx
                  have FX : Hid (Ext w wc) := FX.out.trans hx
                  clear hx
                  generalize wc = wx34 at *
                  go_wp2_with fail
                  go_roundw
                  case rel => exact ⟨k + 1, by omega, by go_num, FX⟩
                  case measure => simp [intOf]; omega
      · go_wp2_with fail
        refine (wakes15_any _).mono ?_
        rintro e w1 ⟨rfl, x1⟩
        have E1 : Ext w w1 := FX.out.trans x1
        go_wp2_with fail
        go_ret
        exact ⟨rfl, E1⟩
    · have hk' : k = len := by omega
      subst hk'
      go_wp2_with fail
      refine (wakes15_any _).mono ?_
      rintro e w1 ⟨rfl, x1⟩
      have E1 : Ext w w1 := FX.out.trans x1
      go_wp2_with fail
      go_ret
      exact ⟨rfl, E1⟩
set_option maxHeartbeats 4000000 in
theorem gates_none (a : Option Addr) (cap : Nat) (w : World) :
    Calls Try.prog 4 #[.slice a 0 cap] w fun e w' => e = .returned (.bool true) ∧ Ext w w' := by
  go_enter Try.func4, Try.ntmps4
  go_wp2_with fail
  go_loopw [3] (fun i wr => i = .int .i64 0 ∧ Hid (Ext w wr)) (fun _ _ => 0)
  case atStart => exact ⟨rfl, Ext.refl _⟩
  case round =>
    obtain ⟨rfl, FX⟩ := hrel
    go_wp2_with fail
    refine (wakes15_any _).mono ?_
    rintro e w1 ⟨rfl, x1⟩
    have E1 : Ext w w1 := FX.out.trans x1
    go_wp2_with fail
    go_ret
    exact ⟨rfl, E1⟩
end Go.Proofs.Ytmbdcgijjpcppaa
