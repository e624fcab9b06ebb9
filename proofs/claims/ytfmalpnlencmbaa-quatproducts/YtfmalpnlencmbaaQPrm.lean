/- QuatProducts. -/
import Derived.Test.YtfmalpnlencmbaaR3nm
import Derived.Test.YtfmalpnlencmbaaMg29
import Derived.Test.YtfmalpnlencmbaaMg25
import Derived.Deep.Cut
import Derived.Deep.DeepCutAuto
namespace Go.Proofs.Ytfmalpnlencmbaa
open Go.RowKit Go.Shelf
set_option maxHeartbeats 4000000 in
theorem is4_any (x y z u e : Int) (w : World) (h : e = 0 ∨ x = 0 ∧ y = 0 ∧ z = 0 ∧ u = 0 ∧ e ≠ 0) :
    Calls Try.prog 8 #[.agg #[.int .i64 x, .int .i64 y, .int .i64 z, .int .i64 u], .int .i64 e, .agg #[.int .i64 x, .int .i64 y, .int .i64 z, .int .i64 u], .int .i64 e] w fun e' w' => e' = .returned (.bool true) ∧ Ext w w' := by
  rcases h with rfl | ⟨rfl, rfl, rfl, rfl, h⟩
  · go_enter Try.func8, Try.ntmps8
    go_wp2_with (go_at_call 10; refine (num4_any _ _).mono ?_; rintro e wx ⟨rfl, hwx⟩; have hwy := hwx.symm; clear hwx; subst hwy)
    go_ret
    exact ⟨by simp, by repeat (first | with_reducible assumption | with_reducible exact Ext.refl _ | with_reducible refine Ext.drew ?_ | with_reducible refine Ext.drewN ?_ _ | with_reducible refine Ext.alloc ?_ _ | with_reducible refine Ext.set ?_ (by first | exact Nat.le_refl _ | (dsimp only; omega) | (simp; done)) _)⟩
  · have h' : (e != 0) = true := by simpa using h
    clear h
    go_enter Try.func8, Try.ntmps8
    go_wp2_with (go_at_call 10; refine (num4_any _ _).mono ?_; rintro e wx ⟨rfl, hwx⟩; have hwy := hwx.symm; clear hwx; subst hwy)
    go_ret
    exact ⟨by simp, by repeat (first | with_reducible assumption | with_reducible exact Ext.refl _ | with_reducible refine Ext.drew ?_ | with_reducible refine Ext.drewN ?_ _ | with_reducible refine Ext.alloc ?_ _ | with_reducible refine Ext.set ?_ (by first | exact Nat.le_refl _ | (dsimp only; omega) | (simp; done)) _)⟩
theorem mul_both (a b c d x y z t : Int) : ∃ x0 x1 x2 x3 er : Int, (∀ w, Calls Try.prog 5 #[.agg #[.int .i64 a, .int .i64 b, .int .i64 c, .int .i64 d], .agg #[.int .i64 x, .int .i64 y, .int .i64 z, .int .i64 t]] w fun e w' => e = .returned (.tuple #[.agg #[.int .i64 x0, .int .i64 x1, .int .i64 x2, .int .i64 x3], .int .i64 er]) ∧ Ext w w') ∧ (∀ w, Calls Try.prog 8 #[.agg #[.int .i64 x0, .int .i64 x1, .int .i64 x2, .int .i64 x3], .int .i64 er, .agg #[.int .i64 x0, .int .i64 x1, .int .i64 x2, .int .i64 x3], .int .i64 er] w fun e w' => e = .returned (.bool true) ∧ Ext w w') ∧ ((ok4 a b c d && ok4 x y z t) = true ∧ (∀ w, Calls Try.prog 7 #[.agg #[.int .i64 a, .int .i64 b, .int .i64 c, .int .i64 d], .agg #[.int .i64 x, .int .i64 y, .int .i64 z, .int .i64 t]] w fun e w' => e = .returned (.tuple #[.agg #[.int .i64 x0, .int .i64 x1, .int .i64 x2, .int .i64 x3], .int .i64 er]) ∧ Ext w w') ∨ (ok4 a b c d && ok4 x y z t) = false ∧ (x0 = 0 ∧ x1 = 0 ∧ x2 = 0 ∧ x3 = 0 ∧ er = 1)) := by
  have M := fun w => qMul_any a b c d x y z t w
  unfold qmulR at M
  cases h : (ok4 a b c d && ok4 x y z t)
  · rw [h, if_neg (by decide)] at M
    exact ⟨0, 0, 0, 0, 1, M, fun w => is4_any 0 0 0 0 1 w (.inr ⟨rfl, rfl, rfl, rfl, by decide⟩), .inr ⟨rfl, rfl, rfl, rfl, rfl, rfl⟩⟩
  · rw [h, if_pos rfl] at M
    obtain ⟨g1, g2⟩ := Bool.and_eq_true_iff.1 h
    have R := fun w => rproduct_any a b c d x y z t w g1 g2
    obtain ⟨u0, u1, u2, u3, e, hr, hq⟩ := qres_is (nearQ (qw a b c d x y z t)) (nearQ (qx a b c d x y z t)) (nearQ (qy a b c d x y z t)) (nearQ (qz a b c d x y z t))
    rw [hr] at M R
    exact ⟨u0, u1, u2, u3, e, M, fun w => is4_any u0 u1 u2 u3 e w hq, .inl ⟨rfl, R⟩⟩
set_option maxRecDepth 20000 in
set_option maxHeartbeats 40000000 in
theorem products_any (b off len cap : Nat) (Z : Nat → Nat → Int) (w : World) (hl : len ≤ maxLen) (hc : Twos4 w b off len Z) :
    Calls Try.prog 3 #[.slice (some ⟨b, off, none⟩) len cap] w fun e w' => e = .returned (.bool true) ∧ Ext w w' := by
  have hl' : len ≤ 9223372036854775807 := by unfold maxLen at hl; omega
  clear hl
  go_enter Try.func3, Try.ntmps3
  go_wp2_with fail
  go_loopw [3] (fun i wr => ∃ k : Nat, k ≤ len ∧ i = .int .i64 k ∧ Hid (Ext w wr)) (fun i _ => len - (intOf i).toNat)
  case atStart => exact ⟨0, Nat.zero_le _, rfl, Ext.refl _⟩
  case round =>
    obtain ⟨k, hk, rfl, FX⟩ := hrel
    by_cases hlt : k < len
    · by_cases h5 : k < 12
      · skip
        obtain ⟨c0, n0a, n0b⟩ := (hc.ext FX.out) k hlt 0 (by omega)
        obtain ⟨c1, n1a, n1b⟩ := (hc.ext FX.out) k hlt 1 (by omega)
        obtain ⟨c2, n2a, n2b⟩ := (hc.ext FX.out) k hlt 2 (by omega)
        obtain ⟨c3, n3a, n3b⟩ := (hc.ext FX.out) k hlt 3 (by omega)
        obtain ⟨c4, n4a, n4b⟩ := (hc.ext FX.out) k hlt 4 (by omega)
        obtain ⟨c5, n5a, n5b⟩ := (hc.ext FX.out) k hlt 5 (by omega)
        obtain ⟨c6, n6a, n6b⟩ := (hc.ext FX.out) k hlt 6 (by omega)
        obtain ⟨c7, n7a, n7b⟩ := (hc.ext FX.out) k hlt 7 (by omega)
        obtain ⟨c8, n8a, n8b⟩ := (hc.ext FX.out) k hlt 8 (by omega)
        obtain ⟨c9, n9a, n9b⟩ := (hc.ext FX.out) k hlt 9 (by omega)
        obtain ⟨c10, n10a, n10b⟩ := (hc.ext FX.out) k hlt 10 (by omega)
        obtain ⟨c11, n11a, n11b⟩ := (hc.ext FX.out) k hlt 11 (by omega)
        obtain ⟨c12, n12a, n12b⟩ := (hc.ext FX.out) k hlt 12 (by omega)
        obtain ⟨c13, n13a, n13b⟩ := (hc.ext FX.out) k hlt 13 (by omega)
        rw [Nat.add_zero] at c0
        have hlt' : (k : Int) < (len : Int) := by omega
        clear hc n0a n0b n1a n1b n2a n2b n3a n3b n4a n4b n5a n5b n6a n6b n7a n7b n8a n8b n9a n9b n10a n10b n11a n11b n12a n12b n13a n13b
        generalize Z k 0 = y0 at *
        generalize Z k 1 = y1 at *
        generalize Z k 2 = y2 at *
        generalize Z k 3 = y3 at *
        generalize Z k 4 = y4 at *
        generalize Z k 5 = y5 at *
        generalize Z k 6 = y6 at *
        generalize Z k 7 = y7 at *
        generalize Z k 8 = y8 at *
        generalize Z k 9 = y9 at *
        generalize Z k 10 = y10 at *
        generalize Z k 11 = y11 at *
        generalize Z k 12 = y12 at *
        generalize Z k 13 = y13 at *
        go_upto_region 5 with fail
        clear c0 c1 c2 c3 c4 c5 c6 c7 c8 c9 c10 c11 c12 c13
        have Lp : Hid (w.heap.size ≤ wr.heap.size) := FX.out.size
        have Fp : Hid (HV (wr.alloc (.cells #[.int .i64 y0, .int .i64 y1, .int .i64 y2, .int .i64 y3, .int .i64 y4, .int .i64 y5, .int .i64 y6, .int .i64 y7, .int .i64 y8, .int .i64 y9, .int .i64 y10, .int .i64 y11, .int .i64 y12, .int .i64 y13] 28)) wr.heap.size [.int .i64 y0, .int .i64 y1, .int .i64 y2, .int .i64 y3, .int .i64 y4, .int .i64 y5, .int .i64 y6, .int .i64 y7, .int .i64 y8, .int .i64 y9, .int .i64 y10, .int .i64 y11, .int .i64 y12, .int .i64 y13]) := hv_at rfl
        have FX : Hid (Ext w (wr.alloc (.cells #[.int .i64 y0, .int .i64 y1, .int .i64 y2, .int .i64 y3, .int .i64 y4, .int .i64 y5, .int .i64 y6, .int .i64 y7, .int .i64 y8, .int .i64 y9, .int .i64 y10, .int .i64 y11, .int .i64 y12, .int .i64 y13] 28))) := FX.out.alloc _
        generalize (wr.alloc (.cells #[.int .i64 y0, .int .i64 y1, .int .i64 y2, .int .i64 y3, .int .i64 y4, .int .i64 y5, .int .i64 y6, .int .i64 y7, .int .i64 y8, .int .i64 y9, .int .i64 y10, .int .i64 y11, .int .i64 y12, .int .i64 y13] 28)) = wx1 at *
        generalize wr.heap.size = np at *
        cases g1 : ok4 y0 y1 y2 y3
        · cases g2 : ok4 y4 y5 y6 y7
          · have HA := fun w => mayq_any y0 y1 y2 y3 w
            rw [g1] at HA
            have HB := fun w => mayq_any y4 y5 y6 y7 w
            rw [g2] at HB
            have HA : Hid (∀ w, Calls Try.prog 6 #[.agg #[.int .i64 y0, .int .i64 y1, .int .i64 y2, .int .i64 y3]] w fun e w' => e = .returned (.bool false) ∧ Ext w w') := HA
            have HB : Hid (∀ w, Calls Try.prog 6 #[.agg #[.int .i64 y4, .int .i64 y5, .int .i64 y6, .int .i64 y7]] w fun e w' => e = .returned (.bool false) ∧ Ext w w') := HB
            obtain ⟨x0, x1, x2, x3, er, PM, IM, RM⟩ := mul_both y0 y1 y2 y3 y4 y5 y6 y7
            rw [g1, g2] at RM
            obtain ⟨rfl, rfl, rfl, rfl, rfl⟩ := (RM.resolve_left (fun h => absurd h.1 (by decide))).2
            have PM : Hid (∀ w, Calls Try.prog 5 #[.agg #[.int .i64 y0, .int .i64 y1, .int .i64 y2, .int .i64 y3], .agg #[.int .i64 y4, .int .i64 y5, .int .i64 y6, .int .i64 y7]] w fun e w' => e = .returned (.tuple #[.agg #[.int .i64 0, .int .i64 0, .int .i64 0, .int .i64 0], .int .i64 1]) ∧ Ext w w') := PM
            have IM : Hid (∀ w, Calls Try.prog 8 #[.agg #[.int .i64 0, .int .i64 0, .int .i64 0, .int .i64 0], .int .i64 1, .agg #[.int .i64 0, .int .i64 0, .int .i64 0, .int .i64 0], .int .i64 1] w fun e w' => e = .returned (.bool true) ∧ Ext w w') := IM
            have PC := fun w => qConj_any y0 y1 y2 y3 w
            unfold conjR at PC
            rw [g1] at PC
            rw [if_neg (by decide)] at PC
            have PC : Hid (∀ w, Calls Try.prog 9 #[.agg #[.int .i64 y0, .int .i64 y1, .int .i64 y2, .int .i64 y3]] w fun e w' => e = .returned (.tuple #[.agg #[.int .i64 0, .int .i64 0, .int .i64 0, .int .i64 0], .int .i64 1]) ∧ Ext w w') := PC
            clear g1 g2
            have qp0 : wx1.cell? ⟨np, 0, none⟩ = some (.int .i64 y0) := Fp.out.c 0 rfl
            have qp1 : wx1.cell? ⟨np, 1, none⟩ = some (.int .i64 y1) := Fp.out.c 1 rfl
            have qp2 : wx1.cell? ⟨np, 2, none⟩ = some (.int .i64 y2) := Fp.out.c 2 rfl
            have qp3 : wx1.cell? ⟨np, 3, none⟩ = some (.int .i64 y3) := Fp.out.c 3 rfl
            have qp4 : wx1.cell? ⟨np, 4, none⟩ = some (.int .i64 y4) := Fp.out.c 4 rfl
            have qp5 : wx1.cell? ⟨np, 5, none⟩ = some (.int .i64 y5) := Fp.out.c 5 rfl
            have qp6 : wx1.cell? ⟨np, 6, none⟩ = some (.int .i64 y6) := Fp.out.c 6 rfl
            have qp7 : wx1.cell? ⟨np, 7, none⟩ = some (.int .i64 y7) := Fp.out.c 7 rfl
            go_upto_region 6 with (first | (go_at_call 5; refine (PM.out _).mono ?_; rintro e wa ⟨rfl, xa⟩))
            have Fp : Hid (HV wa np [.int .i64 y0, .int .i64 y1, .int .i64 y2, .int .i64 y3, .int .i64 y4, .int .i64 y5, .int .i64 y6, .int .i64 y7, .int .i64 y8, .int .i64 y9, .int .i64 y10, .int .i64 y11, .int .i64 y12, .int .i64 y13]) := Fp.out.ext xa
            have FX : Hid (Ext w wa) := FX.out.trans xa
            clear qp0 qp1 qp2 qp3 qp4 qp5 qp6 qp7 xa PM
            have ltpx : np < wa.heap.size := Fp.out.1
            have Lx : Hid (w.heap.size ≤ wa.heap.size) := FX.out.size
            have Fp : Hid (HV (wa.alloc (.cells #[.int .i64 0, .int .i64 0, .int .i64 0, .int .i64 0] 24)) np [.int .i64 y0, .int .i64 y1, .int .i64 y2, .int .i64 y3, .int .i64 y4, .int .i64 y5, .int .i64 y6, .int .i64 y7, .int .i64 y8, .int .i64 y9, .int .i64 y10, .int .i64 y11, .int .i64 y12, .int .i64 y13]) := Fp.out.alloc _
            have Fx : Hid (HV (wa.alloc (.cells #[.int .i64 0, .int .i64 0, .int .i64 0, .int .i64 0] 24)) wa.heap.size [.int .i64 0, .int .i64 0, .int .i64 0, .int .i64 0]) := hv_at rfl
            have FX : Hid (Ext w (wa.alloc (.cells #[.int .i64 0, .int .i64 0, .int .i64 0, .int .i64 0] 24))) := FX.out.alloc _
            generalize (wa.alloc (.cells #[.int .i64 0, .int .i64 0, .int .i64 0, .int .i64 0] 24)) = wx12 at *
            generalize wa.heap.size = nx at *
            go_upto_region 7 with fail
            have ltps : np < wx12.heap.size := Fp.out.1
            have ltxs : nx < wx12.heap.size := Fx.out.1
            have Ls : Hid (w.heap.size ≤ wx12.heap.size) := FX.out.size
            have Fp : Hid (HV (wx12.alloc (.cells #[.int .i64 0, .int .i64 0, .int .i64 0, .int .i64 0] 24)) np [.int .i64 y0, .int .i64 y1, .int .i64 y2, .int .i64 y3, .int .i64 y4, .int .i64 y5, .int .i64 y6, .int .i64 y7, .int .i64 y8, .int .i64 y9, .int .i64 y10, .int .i64 y11, .int .i64 y12, .int .i64 y13]) := Fp.out.alloc _
            have Fx : Hid (HV (wx12.alloc (.cells #[.int .i64 0, .int .i64 0, .int .i64 0, .int .i64 0] 24)) nx [.int .i64 0, .int .i64 0, .int .i64 0, .int .i64 0]) := Fx.out.alloc _
            have Fs : Hid (HV (wx12.alloc (.cells #[.int .i64 0, .int .i64 0, .int .i64 0, .int .i64 0] 24)) wx12.heap.size [.int .i64 0, .int .i64 0, .int .i64 0, .int .i64 0]) := hv_at rfl
            have FX : Hid (Ext w (wx12.alloc (.cells #[.int .i64 0, .int .i64 0, .int .i64 0, .int .i64 0] 24))) := FX.out.alloc _
            generalize (wx12.alloc (.cells #[.int .i64 0, .int .i64 0, .int .i64 0, .int .i64 0] 24)) = wx13 at *
            generalize wx12.heap.size = ns at *
            have qp0 : wx13.cell? ⟨np, 0, none⟩ = some (.int .i64 y0) := Fp.out.c 0 rfl
            have qp1 : wx13.cell? ⟨np, 1, none⟩ = some (.int .i64 y1) := Fp.out.c 1 rfl
            have qp2 : wx13.cell? ⟨np, 2, none⟩ = some (.int .i64 y2) := Fp.out.c 2 rfl
            have qp3 : wx13.cell? ⟨np, 3, none⟩ = some (.int .i64 y3) := Fp.out.c 3 rfl
            have qp4 : wx13.cell? ⟨np, 4, none⟩ = some (.int .i64 y4) := Fp.out.c 4 rfl
            have qp5 : wx13.cell? ⟨np, 5, none⟩ = some (.int .i64 y5) := Fp.out.c 5 rfl
            have qp6 : wx13.cell? ⟨np, 6, none⟩ = some (.int .i64 y6) := Fp.out.c 6 rfl
            have qp7 : wx13.cell? ⟨np, 7, none⟩ = some (.int .i64 y7) := Fp.out.c 7 rfl
            go_upto_region 9 with (first | (go_at_call_of 6 (Value.agg #[Value.int IntKind.i64 y0, Value.int IntKind.i64 y1, Value.int IntKind.i64 y2, Value.int IntKind.i64 y3]); refine (HA.out _).mono ?_; rintro e wb ⟨rfl, xb⟩; have kp0 : wb.cell? ⟨np, 0, none⟩ = some (.int .i64 y0) := (Fp.out.ext xb).c 0 rfl; have kp1 : wb.cell? ⟨np, 1, none⟩ = some (.int .i64 y1) := (Fp.out.ext xb).c 1 rfl; have kp2 : wb.cell? ⟨np, 2, none⟩ = some (.int .i64 y2) := (Fp.out.ext xb).c 2 rfl; have kp3 : wb.cell? ⟨np, 3, none⟩ = some (.int .i64 y3) := (Fp.out.ext xb).c 3 rfl; have kp4 : wb.cell? ⟨np, 4, none⟩ = some (.int .i64 y4) := (Fp.out.ext xb).c 4 rfl; have kp5 : wb.cell? ⟨np, 5, none⟩ = some (.int .i64 y5) := (Fp.out.ext xb).c 5 rfl; have kp6 : wb.cell? ⟨np, 6, none⟩ = some (.int .i64 y6) := (Fp.out.ext xb).c 6 rfl; have kp7 : wb.cell? ⟨np, 7, none⟩ = some (.int .i64 y7) := (Fp.out.ext xb).c 7 rfl))
            have Fp : Hid (HV wb np [.int .i64 y0, .int .i64 y1, .int .i64 y2, .int .i64 y3, .int .i64 y4, .int .i64 y5, .int .i64 y6, .int .i64 y7, .int .i64 y8, .int .i64 y9, .int .i64 y10, .int .i64 y11, .int .i64 y12, .int .i64 y13]) := Fp.out.ext xb
            have Fx : Hid (HV wb nx [.int .i64 0, .int .i64 0, .int .i64 0, .int .i64 0]) := Fx.out.ext xb
            have Fs : Hid (HV wb ns [.int .i64 0, .int .i64 0, .int .i64 0, .int .i64 0]) := Fs.out.ext xb
            have FX : Hid (Ext w wb) := FX.out.trans xb
            clear qp0 qp1 qp2 qp3 qp4 qp5 qp6 qp7 xb kp0 kp1 kp2 kp3 kp4 kp5 kp6 kp7
            have qx0 : wb.cell? ⟨nx, 0, none⟩ = some (.int .i64 0) := Fx.out.c 0 rfl
            have qx1 : wb.cell? ⟨nx, 1, none⟩ = some (.int .i64 0) := Fx.out.c 1 rfl
            have qx2 : wb.cell? ⟨nx, 2, none⟩ = some (.int .i64 0) := Fx.out.c 2 rfl
            have qx3 : wb.cell? ⟨nx, 3, none⟩ = some (.int .i64 0) := Fx.out.c 3 rfl
            have qs0 : wb.cell? ⟨ns, 0, none⟩ = some (.int .i64 0) := Fs.out.c 0 rfl
            have qs1 : wb.cell? ⟨ns, 1, none⟩ = some (.int .i64 0) := Fs.out.c 1 rfl
            have qs2 : wb.cell? ⟨ns, 2, none⟩ = some (.int .i64 0) := Fs.out.c 2 rfl
            have qs3 : wb.cell? ⟨ns, 3, none⟩ = some (.int .i64 0) := Fs.out.c 3 rfl
            go_upto_region 11 with (first | (go_at_call 8; refine (IM.out _).mono ?_; rintro e we ⟨rfl, xe⟩))
            have Fp : Hid (HV we np [.int .i64 y0, .int .i64 y1, .int .i64 y2, .int .i64 y3, .int .i64 y4, .int .i64 y5, .int .i64 y6, .int .i64 y7, .int .i64 y8, .int .i64 y9, .int .i64 y10, .int .i64 y11, .int .i64 y12, .int .i64 y13]) := Fp.out.ext xe
            have Fx : Hid (HV we nx [.int .i64 0, .int .i64 0, .int .i64 0, .int .i64 0]) := Fx.out.ext xe
            have Fs : Hid (HV we ns [.int .i64 0, .int .i64 0, .int .i64 0, .int .i64 0]) := Fs.out.ext xe
            have FX : Hid (Ext w we) := FX.out.trans xe
            clear qx0 qx1 qx2 qx3 qs0 qs1 qs2 qs3 xe IM
            have qp0 : we.cell? ⟨np, 0, none⟩ = some (.int .i64 y0) := Fp.out.c 0 rfl
            have qp1 : we.cell? ⟨np, 1, none⟩ = some (.int .i64 y1) := Fp.out.c 1 rfl
            have qp2 : we.cell? ⟨np, 2, none⟩ = some (.int .i64 y2) := Fp.out.c 2 rfl
            have qp3 : we.cell? ⟨np, 3, none⟩ = some (.int .i64 y3) := Fp.out.c 3 rfl
            go_upto_region 12 with (first | (go_at_call 9; refine (PC.out _).mono ?_; rintro e wf ⟨rfl, xf⟩))
            have Fp : Hid (HV wf np [.int .i64 y0, .int .i64 y1, .int .i64 y2, .int .i64 y3, .int .i64 y4, .int .i64 y5, .int .i64 y6, .int .i64 y7, .int .i64 y8, .int .i64 y9, .int .i64 y10, .int .i64 y11, .int .i64 y12, .int .i64 y13]) := Fp.out.ext xf
            have Fx : Hid (HV wf nx [.int .i64 0, .int .i64 0, .int .i64 0, .int .i64 0]) := Fx.out.ext xf
            have Fs : Hid (HV wf ns [.int .i64 0, .int .i64 0, .int .i64 0, .int .i64 0]) := Fs.out.ext xf
            have FX : Hid (Ext w wf) := FX.out.trans xf
            clear qp0 qp1 qp2 qp3 xf PC
            have ltpc : np < wf.heap.size := Fp.out.1
            have ltxc : nx < wf.heap.size := Fx.out.1
            have ltsc : ns < wf.heap.size := Fs.out.1
            have Lc : Hid (w.heap.size ≤ wf.heap.size) := FX.out.size
            have Fp : Hid (HV (wf.alloc (.cells #[.int .i64 0, .int .i64 0, .int .i64 0, .int .i64 0] 24)) np [.int .i64 y0, .int .i64 y1, .int .i64 y2, .int .i64 y3, .int .i64 y4, .int .i64 y5, .int .i64 y6, .int .i64 y7, .int .i64 y8, .int .i64 y9, .int .i64 y10, .int .i64 y11, .int .i64 y12, .int .i64 y13]) := Fp.out.alloc _
            have Fx : Hid (HV (wf.alloc (.cells #[.int .i64 0, .int .i64 0, .int .i64 0, .int .i64 0] 24)) nx [.int .i64 0, .int .i64 0, .int .i64 0, .int .i64 0]) := Fx.out.alloc _
            have Fs : Hid (HV (wf.alloc (.cells #[.int .i64 0, .int .i64 0, .int .i64 0, .int .i64 0] 24)) ns [.int .i64 0, .int .i64 0, .int .i64 0, .int .i64 0]) := Fs.out.alloc _
            have Fc : Hid (HV (wf.alloc (.cells #[.int .i64 0, .int .i64 0, .int .i64 0, .int .i64 0] 24)) wf.heap.size [.int .i64 0, .int .i64 0, .int .i64 0, .int .i64 0]) := hv_at rfl
            have FX : Hid (Ext w (wf.alloc (.cells #[.int .i64 0, .int .i64 0, .int .i64 0, .int .i64 0] 24))) := FX.out.alloc _
            generalize (wf.alloc (.cells #[.int .i64 0, .int .i64 0, .int .i64 0, .int .i64 0] 24)) = wx14 at *
            generalize wf.heap.size = nc at *
            have qp0 : wx14.cell? ⟨np, 0, none⟩ = some (.int .i64 y0) := Fp.out.c 0 rfl
            have qp1 : wx14.cell? ⟨np, 1, none⟩ = some (.int .i64 y1) := Fp.out.c 1 rfl
            have qp2 : wx14.cell? ⟨np, 2, none⟩ = some (.int .i64 y2) := Fp.out.c 2 rfl
            have qp3 : wx14.cell? ⟨np, 3, none⟩ = some (.int .i64 y3) := Fp.out.c 3 rfl
            go_upto_region 13 with (first | (go_at_call 6; refine (HA.out _).mono ?_; rintro e wg ⟨rfl, xg⟩))
            have Fp : Hid (HV wg np [.int .i64 y0, .int .i64 y1, .int .i64 y2, .int .i64 y3, .int .i64 y4, .int .i64 y5, .int .i64 y6, .int .i64 y7, .int .i64 y8, .int .i64 y9, .int .i64 y10, .int .i64 y11, .int .i64 y12, .int .i64 y13]) := Fp.out.ext xg
            have Fx : Hid (HV wg nx [.int .i64 0, .int .i64 0, .int .i64 0, .int .i64 0]) := Fx.out.ext xg
            have Fs : Hid (HV wg ns [.int .i64 0, .int .i64 0, .int .i64 0, .int .i64 0]) := Fs.out.ext xg
            have Fc : Hid (HV wg nc [.int .i64 0, .int .i64 0, .int .i64 0, .int .i64 0]) := Fc.out.ext xg
            have FX : Hid (Ext w wg) := FX.out.trans xg
            clear qp0 qp1 qp2 qp3 xg HA
            have qc0 : wg.cell? ⟨nc, 0, none⟩ = some (.int .i64 0) := Fc.out.c 0 rfl
            have qc1 : wg.cell? ⟨nc, 1, none⟩ = some (.int .i64 0) := Fc.out.c 1 rfl
            have qc2 : wg.cell? ⟨nc, 2, none⟩ = some (.int .i64 0) := Fc.out.c 2 rfl
            have qc3 : wg.cell? ⟨nc, 3, none⟩ = some (.int .i64 0) := Fc.out.c 3 rfl
            have qp0 : wg.cell? ⟨np, 0, none⟩ = some (.int .i64 y0) := Fp.out.c 0 rfl
            have qp1 : wg.cell? ⟨np, 1, none⟩ = some (.int .i64 y1) := Fp.out.c 1 rfl
            have qp2 : wg.cell? ⟨np, 2, none⟩ = some (.int .i64 y2) := Fp.out.c 2 rfl
            have qp3 : wg.cell? ⟨np, 3, none⟩ = some (.int .i64 y3) := Fp.out.c 3 rfl
            have he := eqQ (0) (0) (0) (0) (0) (0) (0) (0)
            simp only [beq_self_eq_true, Bool.and_self] at he
            go_wp2_with (go_at_call 10; refine (num4_any _ _).mono ?_; rintro e wx ⟨rfl, hwx⟩; have hwy := hwx.symm; clear hwx; subst hwy)
            go_roundw
            case rel => exact ⟨k + 1, by omega, by go_num, FX⟩
            case measure => simp [intOf]; omega
          · have HA := fun w => mayq_any y0 y1 y2 y3 w
            rw [g1] at HA
            have HB := fun w => mayq_any y4 y5 y6 y7 w
            rw [g2] at HB
            have HA : Hid (∀ w, Calls Try.prog 6 #[.agg #[.int .i64 y0, .int .i64 y1, .int .i64 y2, .int .i64 y3]] w fun e w' => e = .returned (.bool false) ∧ Ext w w') := HA
            have HB : Hid (∀ w, Calls Try.prog 6 #[.agg #[.int .i64 y4, .int .i64 y5, .int .i64 y6, .int .i64 y7]] w fun e w' => e = .returned (.bool true) ∧ Ext w w') := HB
            obtain ⟨x0, x1, x2, x3, er, PM, IM, RM⟩ := mul_both y0 y1 y2 y3 y4 y5 y6 y7
            rw [g1, g2] at RM
            obtain ⟨rfl, rfl, rfl, rfl, rfl⟩ := (RM.resolve_left (fun h => absurd h.1 (by decide))).2
            have PM : Hid (∀ w, Calls Try.prog 5 #[.agg #[.int .i64 y0, .int .i64 y1, .int .i64 y2, .int .i64 y3], .agg #[.int .i64 y4, .int .i64 y5, .int .i64 y6, .int .i64 y7]] w fun e w' => e = .returned (.tuple #[.agg #[.int .i64 0, .int .i64 0, .int .i64 0, .int .i64 0], .int .i64 1]) ∧ Ext w w') := PM
            have IM : Hid (∀ w, Calls Try.prog 8 #[.agg #[.int .i64 0, .int .i64 0, .int .i64 0, .int .i64 0], .int .i64 1, .agg #[.int .i64 0, .int .i64 0, .int .i64 0, .int .i64 0], .int .i64 1] w fun e w' => e = .returned (.bool true) ∧ Ext w w') := IM
            have PC := fun w => qConj_any y0 y1 y2 y3 w
            unfold conjR at PC
            rw [g1] at PC
            rw [if_neg (by decide)] at PC
            have PC : Hid (∀ w, Calls Try.prog 9 #[.agg #[.int .i64 y0, .int .i64 y1, .int .i64 y2, .int .i64 y3]] w fun e w' => e = .returned (.tuple #[.agg #[.int .i64 0, .int .i64 0, .int .i64 0, .int .i64 0], .int .i64 1]) ∧ Ext w w') := PC
            clear g1 g2
            have qp0 : wx1.cell? ⟨np, 0, none⟩ = some (.int .i64 y0) := Fp.out.c 0 rfl
            have qp1 : wx1.cell? ⟨np, 1, none⟩ = some (.int .i64 y1) := Fp.out.c 1 rfl
            have qp2 : wx1.cell? ⟨np, 2, none⟩ = some (.int .i64 y2) := Fp.out.c 2 rfl
            have qp3 : wx1.cell? ⟨np, 3, none⟩ = some (.int .i64 y3) := Fp.out.c 3 rfl
            have qp4 : wx1.cell? ⟨np, 4, none⟩ = some (.int .i64 y4) := Fp.out.c 4 rfl
            have qp5 : wx1.cell? ⟨np, 5, none⟩ = some (.int .i64 y5) := Fp.out.c 5 rfl
            have qp6 : wx1.cell? ⟨np, 6, none⟩ = some (.int .i64 y6) := Fp.out.c 6 rfl
            have qp7 : wx1.cell? ⟨np, 7, none⟩ = some (.int .i64 y7) := Fp.out.c 7 rfl
            go_upto_region 6 with (first | (go_at_call 5; refine (PM.out _).mono ?_; rintro e wa ⟨rfl, xa⟩))
            have Fp : Hid (HV wa np [.int .i64 y0, .int .i64 y1, .int .i64 y2, .int .i64 y3, .int .i64 y4, .int .i64 y5, .int .i64 y6, .int .i64 y7, .int .i64 y8, .int .i64 y9, .int .i64 y10, .int .i64 y11, .int .i64 y12, .int .i64 y13]) := Fp.out.ext xa
            have FX : Hid (Ext w wa) := FX.out.trans xa
            clear qp0 qp1 qp2 qp3 qp4 qp5 qp6 qp7 xa PM
            have ltpx : np < wa.heap.size := Fp.out.1
            have Lx : Hid (w.heap.size ≤ wa.heap.size) := FX.out.size
            have Fp : Hid (HV (wa.alloc (.cells #[.int .i64 0, .int .i64 0, .int .i64 0, .int .i64 0] 24)) np [.int .i64 y0, .int .i64 y1, .int .i64 y2, .int .i64 y3, .int .i64 y4, .int .i64 y5, .int .i64 y6, .int .i64 y7, .int .i64 y8, .int .i64 y9, .int .i64 y10, .int .i64 y11, .int .i64 y12, .int .i64 y13]) := Fp.out.alloc _
            have Fx : Hid (HV (wa.alloc (.cells #[.int .i64 0, .int .i64 0, .int .i64 0, .int .i64 0] 24)) wa.heap.size [.int .i64 0, .int .i64 0, .int .i64 0, .int .i64 0]) := hv_at rfl
            have FX : Hid (Ext w (wa.alloc (.cells #[.int .i64 0, .int .i64 0, .int .i64 0, .int .i64 0] 24))) := FX.out.alloc _
            generalize (wa.alloc (.cells #[.int .i64 0, .int .i64 0, .int .i64 0, .int .i64 0] 24)) = wx22 at *
            generalize wa.heap.size = nx at *
            go_upto_region 7 with fail
            have ltps : np < wx22.heap.size := Fp.out.1
            have ltxs : nx < wx22.heap.size := Fx.out.1
            have Ls : Hid (w.heap.size ≤ wx22.heap.size) := FX.out.size
            have Fp : Hid (HV (wx22.alloc (.cells #[.int .i64 0, .int .i64 0, .int .i64 0, .int .i64 0] 24)) np [.int .i64 y0, .int .i64 y1, .int .i64 y2, .int .i64 y3, .int .i64 y4, .int .i64 y5, .int .i64 y6, .int .i64 y7, .int .i64 y8, .int .i64 y9, .int .i64 y10, .int .i64 y11, .int .i64 y12, .int .i64 y13]) := Fp.out.alloc _
            have Fx : Hid (HV (wx22.alloc (.cells #[.int .i64 0, .int .i64 0, .int .i64 0, .int .i64 0] 24)) nx [.int .i64 0, .int .i64 0, .int .i64 0, .int .i64 0]) := Fx.out.alloc _
            have Fs : Hid (HV (wx22.alloc (.cells #[.int .i64 0, .int .i64 0, .int .i64 0, .int .i64 0] 24)) wx22.heap.size [.int .i64 0, .int .i64 0, .int .i64 0, .int .i64 0]) := hv_at rfl
            have FX : Hid (Ext w (wx22.alloc (.cells #[.int .i64 0, .int .i64 0, .int .i64 0, .int .i64 0] 24))) := FX.out.alloc _
            generalize (wx22.alloc (.cells #[.int .i64 0, .int .i64 0, .int .i64 0, .int .i64 0] 24)) = wx23 at *
            generalize wx22.heap.size = ns at *
            have qp0 : wx23.cell? ⟨np, 0, none⟩ = some (.int .i64 y0) := Fp.out.c 0 rfl
            have qp1 : wx23.cell? ⟨np, 1, none⟩ = some (.int .i64 y1) := Fp.out.c 1 rfl
            have qp2 : wx23.cell? ⟨np, 2, none⟩ = some (.int .i64 y2) := Fp.out.c 2 rfl
            have qp3 : wx23.cell? ⟨np, 3, none⟩ = some (.int .i64 y3) := Fp.out.c 3 rfl
            have qp4 : wx23.cell? ⟨np, 4, none⟩ = some (.int .i64 y4) := Fp.out.c 4 rfl
            have qp5 : wx23.cell? ⟨np, 5, none⟩ = some (.int .i64 y5) := Fp.out.c 5 rfl
            have qp6 : wx23.cell? ⟨np, 6, none⟩ = some (.int .i64 y6) := Fp.out.c 6 rfl
            have qp7 : wx23.cell? ⟨np, 7, none⟩ = some (.int .i64 y7) := Fp.out.c 7 rfl
            go_upto_region 9 with (first | (go_at_call_of 6 (Value.agg #[Value.int IntKind.i64 y0, Value.int IntKind.i64 y1, Value.int IntKind.i64 y2, Value.int IntKind.i64 y3]); refine (HA.out _).mono ?_; rintro e wb ⟨rfl, xb⟩; have kp0 : wb.cell? ⟨np, 0, none⟩ = some (.int .i64 y0) := (Fp.out.ext xb).c 0 rfl; have kp1 : wb.cell? ⟨np, 1, none⟩ = some (.int .i64 y1) := (Fp.out.ext xb).c 1 rfl; have kp2 : wb.cell? ⟨np, 2, none⟩ = some (.int .i64 y2) := (Fp.out.ext xb).c 2 rfl; have kp3 : wb.cell? ⟨np, 3, none⟩ = some (.int .i64 y3) := (Fp.out.ext xb).c 3 rfl; have kp4 : wb.cell? ⟨np, 4, none⟩ = some (.int .i64 y4) := (Fp.out.ext xb).c 4 rfl; have kp5 : wb.cell? ⟨np, 5, none⟩ = some (.int .i64 y5) := (Fp.out.ext xb).c 5 rfl; have kp6 : wb.cell? ⟨np, 6, none⟩ = some (.int .i64 y6) := (Fp.out.ext xb).c 6 rfl; have kp7 : wb.cell? ⟨np, 7, none⟩ = some (.int .i64 y7) := (Fp.out.ext xb).c 7 rfl))
            have Fp : Hid (HV wb np [.int .i64 y0, .int .i64 y1, .int .i64 y2, .int .i64 y3, .int .i64 y4, .int .i64 y5, .int .i64 y6, .int .i64 y7, .int .i64 y8, .int .i64 y9, .int .i64 y10, .int .i64 y11, .int .i64 y12, .int .i64 y13]) := Fp.out.ext xb
            have Fx : Hid (HV wb nx [.int .i64 0, .int .i64 0, .int .i64 0, .int .i64 0]) := Fx.out.ext xb
            have Fs : Hid (HV wb ns [.int .i64 0, .int .i64 0, .int .i64 0, .int .i64 0]) := Fs.out.ext xb
            have FX : Hid (Ext w wb) := FX.out.trans xb
            clear qp0 qp1 qp2 qp3 qp4 qp5 qp6 qp7 xb kp0 kp1 kp2 kp3 kp4 kp5 kp6 kp7
            have qx0 : wb.cell? ⟨nx, 0, none⟩ = some (.int .i64 0) := Fx.out.c 0 rfl
            have qx1 : wb.cell? ⟨nx, 1, none⟩ = some (.int .i64 0) := Fx.out.c 1 rfl
            have qx2 : wb.cell? ⟨nx, 2, none⟩ = some (.int .i64 0) := Fx.out.c 2 rfl
            have qx3 : wb.cell? ⟨nx, 3, none⟩ = some (.int .i64 0) := Fx.out.c 3 rfl
            have qs0 : wb.cell? ⟨ns, 0, none⟩ = some (.int .i64 0) := Fs.out.c 0 rfl
            have qs1 : wb.cell? ⟨ns, 1, none⟩ = some (.int .i64 0) := Fs.out.c 1 rfl
            have qs2 : wb.cell? ⟨ns, 2, none⟩ = some (.int .i64 0) := Fs.out.c 2 rfl
            have qs3 : wb.cell? ⟨ns, 3, none⟩ = some (.int .i64 0) := Fs.out.c 3 rfl
            go_upto_region 11 with (first | (go_at_call 8; refine (IM.out _).mono ?_; rintro e we ⟨rfl, xe⟩))
            have Fp : Hid (HV we np [.int .i64 y0, .int .i64 y1, .int .i64 y2, .int .i64 y3, .int .i64 y4, .int .i64 y5, .int .i64 y6, .int .i64 y7, .int .i64 y8, .int .i64 y9, .int .i64 y10, .int .i64 y11, .int .i64 y12, .int .i64 y13]) := Fp.out.ext xe
            have Fx : Hid (HV we nx [.int .i64 0, .int .i64 0, .int .i64 0, .int .i64 0]) := Fx.out.ext xe
            have Fs : Hid (HV we ns [.int .i64 0, .int .i64 0, .int .i64 0, .int .i64 0]) := Fs.out.ext xe
            have FX : Hid (Ext w we) := FX.out.trans xe
            clear qx0 qx1 qx2 qx3 qs0 qs1 qs2 qs3 xe IM
            have qp0 : we.cell? ⟨np, 0, none⟩ = some (.int .i64 y0) := Fp.out.c 0 rfl
            have qp1 : we.cell? ⟨np, 1, none⟩ = some (.int .i64 y1) := Fp.out.c 1 rfl
            have qp2 : we.cell? ⟨np, 2, none⟩ = some (.int .i64 y2) := Fp.out.c 2 rfl
            have qp3 : we.cell? ⟨np, 3, none⟩ = some (.int .i64 y3) := Fp.out.c 3 rfl
            go_upto_region 12 with (first | (go_at_call 9; refine (PC.out _).mono ?_; rintro e wf ⟨rfl, xf⟩))
            have Fp : Hid (HV wf np [.int .i64 y0, .int .i64 y1, .int .i64 y2, .int .i64 y3, .int .i64 y4, .int .i64 y5, .int .i64 y6, .int .i64 y7, .int .i64 y8, .int .i64 y9, .int .i64 y10, .int .i64 y11, .int .i64 y12, .int .i64 y13]) := Fp.out.ext xf
            have Fx : Hid (HV wf nx [.int .i64 0, .int .i64 0, .int .i64 0, .int .i64 0]) := Fx.out.ext xf
            have Fs : Hid (HV wf ns [.int .i64 0, .int .i64 0, .int .i64 0, .int .i64 0]) := Fs.out.ext xf
            have FX : Hid (Ext w wf) := FX.out.trans xf
            clear qp0 qp1 qp2 qp3 xf PC
            have ltpc : np < wf.heap.size := Fp.out.1
            have ltxc : nx < wf.heap.size := Fx.out.1
            have ltsc : ns < wf.heap.size := Fs.out.1
            have Lc : Hid (w.heap.size ≤ wf.heap.size) := FX.out.size
            have Fp : Hid (HV (wf.alloc (.cells #[.int .i64 0, .int .i64 0, .int .i64 0, .int .i64 0] 24)) np [.int .i64 y0, .int .i64 y1, .int .i64 y2, .int .i64 y3, .int .i64 y4, .int .i64 y5, .int .i64 y6, .int .i64 y7, .int .i64 y8, .int .i64 y9, .int .i64 y10, .int .i64 y11, .int .i64 y12, .int .i64 y13]) := Fp.out.alloc _
            have Fx : Hid (HV (wf.alloc (.cells #[.int .i64 0, .int .i64 0, .int .i64 0, .int .i64 0] 24)) nx [.int .i64 0, .int .i64 0, .int .i64 0, .int .i64 0]) := Fx.out.alloc _
            have Fs : Hid (HV (wf.alloc (.cells #[.int .i64 0, .int .i64 0, .int .i64 0, .int .i64 0] 24)) ns [.int .i64 0, .int .i64 0, .int .i64 0, .int .i64 0]) := Fs.out.alloc _
            have Fc : Hid (HV (wf.alloc (.cells #[.int .i64 0, .int .i64 0, .int .i64 0, .int .i64 0] 24)) wf.heap.size [.int .i64 0, .int .i64 0, .int .i64 0, .int .i64 0]) := hv_at rfl
            have FX : Hid (Ext w (wf.alloc (.cells #[.int .i64 0, .int .i64 0, .int .i64 0, .int .i64 0] 24))) := FX.out.alloc _
            generalize (wf.alloc (.cells #[.int .i64 0, .int .i64 0, .int .i64 0, .int .i64 0] 24)) = wx24 at *
            generalize wf.heap.size = nc at *
            have qp0 : wx24.cell? ⟨np, 0, none⟩ = some (.int .i64 y0) := Fp.out.c 0 rfl
            have qp1 : wx24.cell? ⟨np, 1, none⟩ = some (.int .i64 y1) := Fp.out.c 1 rfl
            have qp2 : wx24.cell? ⟨np, 2, none⟩ = some (.int .i64 y2) := Fp.out.c 2 rfl
            have qp3 : wx24.cell? ⟨np, 3, none⟩ = some (.int .i64 y3) := Fp.out.c 3 rfl
            go_upto_region 13 with (first | (go_at_call 6; refine (HA.out _).mono ?_; rintro e wg ⟨rfl, xg⟩))
            have Fp : Hid (HV wg np [.int .i64 y0, .int .i64 y1, .int .i64 y2, .int .i64 y3, .int .i64 y4, .int .i64 y5, .int .i64 y6, .int .i64 y7, .int .i64 y8, .int .i64 y9, .int .i64 y10, .int .i64 y11, .int .i64 y12, .int .i64 y13]) := Fp.out.ext xg
            have Fx : Hid (HV wg nx [.int .i64 0, .int .i64 0, .int .i64 0, .int .i64 0]) := Fx.out.ext xg
            have Fs : Hid (HV wg ns [.int .i64 0, .int .i64 0, .int .i64 0, .int .i64 0]) := Fs.out.ext xg
            have Fc : Hid (HV wg nc [.int .i64 0, .int .i64 0, .int .i64 0, .int .i64 0]) := Fc.out.ext xg
            have FX : Hid (Ext w wg) := FX.out.trans xg
            clear qp0 qp1 qp2 qp3 xg HA
            have qc0 : wg.cell? ⟨nc, 0, none⟩ = some (.int .i64 0) := Fc.out.c 0 rfl
            have qc1 : wg.cell? ⟨nc, 1, none⟩ = some (.int .i64 0) := Fc.out.c 1 rfl
            have qc2 : wg.cell? ⟨nc, 2, none⟩ = some (.int .i64 0) := Fc.out.c 2 rfl
            have qc3 : wg.cell? ⟨nc, 3, none⟩ = some (.int .i64 0) := Fc.out.c 3 rfl
            have qp0 : wg.cell? ⟨np, 0, none⟩ = some (.int .i64 y0) := Fp.out.c 0 rfl
            have qp1 : wg.cell? ⟨np, 1, none⟩ = some (.int .i64 y1) := Fp.out.c 1 rfl
            have qp2 : wg.cell? ⟨np, 2, none⟩ = some (.int .i64 y2) := Fp.out.c 2 rfl
            have qp3 : wg.cell? ⟨np, 3, none⟩ = some (.int .i64 y3) := Fp.out.c 3 rfl
            have he := eqQ (0) (0) (0) (0) (0) (0) (0) (0)
            simp only [beq_self_eq_true, Bool.and_self] at he
            go_wp2_with (go_at_call 10; refine (num4_any _ _).mono ?_; rintro e wx ⟨rfl, hwx⟩; have hwy := hwx.symm; clear hwx; subst hwy)
            go_roundw
            case rel => exact ⟨k + 1, by omega, by go_num, FX⟩
            case measure => simp [intOf]; omega
        · cases g2 : ok4 y4 y5 y6 y7
          · have HA := fun w => mayq_any y0 y1 y2 y3 w
            rw [g1] at HA
            have HB := fun w => mayq_any y4 y5 y6 y7 w
            rw [g2] at HB
            have HA : Hid (∀ w, Calls Try.prog 6 #[.agg #[.int .i64 y0, .int .i64 y1, .int .i64 y2, .int .i64 y3]] w fun e w' => e = .returned (.bool true) ∧ Ext w w') := HA
            have HB : Hid (∀ w, Calls Try.prog 6 #[.agg #[.int .i64 y4, .int .i64 y5, .int .i64 y6, .int .i64 y7]] w fun e w' => e = .returned (.bool false) ∧ Ext w w') := HB
            obtain ⟨x0, x1, x2, x3, er, PM, IM, RM⟩ := mul_both y0 y1 y2 y3 y4 y5 y6 y7
            rw [g1, g2] at RM
            obtain ⟨rfl, rfl, rfl, rfl, rfl⟩ := (RM.resolve_left (fun h => absurd h.1 (by decide))).2
            have PM : Hid (∀ w, Calls Try.prog 5 #[.agg #[.int .i64 y0, .int .i64 y1, .int .i64 y2, .int .i64 y3], .agg #[.int .i64 y4, .int .i64 y5, .int .i64 y6, .int .i64 y7]] w fun e w' => e = .returned (.tuple #[.agg #[.int .i64 0, .int .i64 0, .int .i64 0, .int .i64 0], .int .i64 1]) ∧ Ext w w') := PM
            have IM : Hid (∀ w, Calls Try.prog 8 #[.agg #[.int .i64 0, .int .i64 0, .int .i64 0, .int .i64 0], .int .i64 1, .agg #[.int .i64 0, .int .i64 0, .int .i64 0, .int .i64 0], .int .i64 1] w fun e w' => e = .returned (.bool true) ∧ Ext w w') := IM
            have PC := fun w => qConj_any y0 y1 y2 y3 w
            unfold conjR at PC
            rw [g1] at PC
            rw [if_pos rfl] at PC
            have PC : Hid (∀ w, Calls Try.prog 9 #[.agg #[.int .i64 y0, .int .i64 y1, .int .i64 y2, .int .i64 y3]] w fun e w' => e = .returned (.tuple #[.agg #[.int .i64 y0, .int .i64 (-y1), .int .i64 (-y2), .int .i64 (-y3)], .int .i64 0]) ∧ Ext w w') := PC
            have g1p := ok4_parts g1
            obtain ⟨ha, hb, hc4, hd⟩ := g1p
            obtain ⟨b1l, b1h⟩ := okW_bounds hb
            obtain ⟨b2l, b2h⟩ := okW_bounds hc4
            obtain ⟨b3l, b3h⟩ := okW_bounds hd
            clear ha hb hc4 hd
            clear g1 g2
            have qp0 : wx1.cell? ⟨np, 0, none⟩ = some (.int .i64 y0) := Fp.out.c 0 rfl
            have qp1 : wx1.cell? ⟨np, 1, none⟩ = some (.int .i64 y1) := Fp.out.c 1 rfl
            have qp2 : wx1.cell? ⟨np, 2, none⟩ = some (.int .i64 y2) := Fp.out.c 2 rfl
            have qp3 : wx1.cell? ⟨np, 3, none⟩ = some (.int .i64 y3) := Fp.out.c 3 rfl
            have qp4 : wx1.cell? ⟨np, 4, none⟩ = some (.int .i64 y4) := Fp.out.c 4 rfl
            have qp5 : wx1.cell? ⟨np, 5, none⟩ = some (.int .i64 y5) := Fp.out.c 5 rfl
            have qp6 : wx1.cell? ⟨np, 6, none⟩ = some (.int .i64 y6) := Fp.out.c 6 rfl
            have qp7 : wx1.cell? ⟨np, 7, none⟩ = some (.int .i64 y7) := Fp.out.c 7 rfl
            go_upto_region 6 with (first | (go_at_call 5; refine (PM.out _).mono ?_; rintro e wa ⟨rfl, xa⟩))
            have Fp : Hid (HV wa np [.int .i64 y0, .int .i64 y1, .int .i64 y2, .int .i64 y3, .int .i64 y4, .int .i64 y5, .int .i64 y6, .int .i64 y7, .int .i64 y8, .int .i64 y9, .int .i64 y10, .int .i64 y11, .int .i64 y12, .int .i64 y13]) := Fp.out.ext xa
            have FX : Hid (Ext w wa) := FX.out.trans xa
            clear qp0 qp1 qp2 qp3 qp4 qp5 qp6 qp7 xa PM
            have ltpx : np < wa.heap.size := Fp.out.1
            have Lx : Hid (w.heap.size ≤ wa.heap.size) := FX.out.size
            have Fp : Hid (HV (wa.alloc (.cells #[.int .i64 0, .int .i64 0, .int .i64 0, .int .i64 0] 24)) np [.int .i64 y0, .int .i64 y1, .int .i64 y2, .int .i64 y3, .int .i64 y4, .int .i64 y5, .int .i64 y6, .int .i64 y7, .int .i64 y8, .int .i64 y9, .int .i64 y10, .int .i64 y11, .int .i64 y12, .int .i64 y13]) := Fp.out.alloc _
            have Fx : Hid (HV (wa.alloc (.cells #[.int .i64 0, .int .i64 0, .int .i64 0, .int .i64 0] 24)) wa.heap.size [.int .i64 0, .int .i64 0, .int .i64 0, .int .i64 0]) := hv_at rfl
            have FX : Hid (Ext w (wa.alloc (.cells #[.int .i64 0, .int .i64 0, .int .i64 0, .int .i64 0] 24))) := FX.out.alloc _
            generalize (wa.alloc (.cells #[.int .i64 0, .int .i64 0, .int .i64 0, .int .i64 0] 24)) = wx32 at *
            generalize wa.heap.size = nx at *
            go_upto_region 7 with fail
            have ltps : np < wx32.heap.size := Fp.out.1
            have ltxs : nx < wx32.heap.size := Fx.out.1
            have Ls : Hid (w.heap.size ≤ wx32.heap.size) := FX.out.size
            have Fp : Hid (HV (wx32.alloc (.cells #[.int .i64 0, .int .i64 0, .int .i64 0, .int .i64 0] 24)) np [.int .i64 y0, .int .i64 y1, .int .i64 y2, .int .i64 y3, .int .i64 y4, .int .i64 y5, .int .i64 y6, .int .i64 y7, .int .i64 y8, .int .i64 y9, .int .i64 y10, .int .i64 y11, .int .i64 y12, .int .i64 y13]) := Fp.out.alloc _
            have Fx : Hid (HV (wx32.alloc (.cells #[.int .i64 0, .int .i64 0, .int .i64 0, .int .i64 0] 24)) nx [.int .i64 0, .int .i64 0, .int .i64 0, .int .i64 0]) := Fx.out.alloc _
            have Fs : Hid (HV (wx32.alloc (.cells #[.int .i64 0, .int .i64 0, .int .i64 0, .int .i64 0] 24)) wx32.heap.size [.int .i64 0, .int .i64 0, .int .i64 0, .int .i64 0]) := hv_at rfl
            have FX : Hid (Ext w (wx32.alloc (.cells #[.int .i64 0, .int .i64 0, .int .i64 0, .int .i64 0] 24))) := FX.out.alloc _
            generalize (wx32.alloc (.cells #[.int .i64 0, .int .i64 0, .int .i64 0, .int .i64 0] 24)) = wx33 at *
            generalize wx32.heap.size = ns at *
            have qp0 : wx33.cell? ⟨np, 0, none⟩ = some (.int .i64 y0) := Fp.out.c 0 rfl
            have qp1 : wx33.cell? ⟨np, 1, none⟩ = some (.int .i64 y1) := Fp.out.c 1 rfl
            have qp2 : wx33.cell? ⟨np, 2, none⟩ = some (.int .i64 y2) := Fp.out.c 2 rfl
            have qp3 : wx33.cell? ⟨np, 3, none⟩ = some (.int .i64 y3) := Fp.out.c 3 rfl
            have qp4 : wx33.cell? ⟨np, 4, none⟩ = some (.int .i64 y4) := Fp.out.c 4 rfl
            have qp5 : wx33.cell? ⟨np, 5, none⟩ = some (.int .i64 y5) := Fp.out.c 5 rfl
            have qp6 : wx33.cell? ⟨np, 6, none⟩ = some (.int .i64 y6) := Fp.out.c 6 rfl
            have qp7 : wx33.cell? ⟨np, 7, none⟩ = some (.int .i64 y7) := Fp.out.c 7 rfl
            go_upto_region 9 with (first | (go_at_call_of 6 (Value.agg #[Value.int IntKind.i64 y0, Value.int IntKind.i64 y1, Value.int IntKind.i64 y2, Value.int IntKind.i64 y3]); refine (HA.out _).mono ?_; rintro e wb ⟨rfl, xb⟩; have kp0 : wb.cell? ⟨np, 0, none⟩ = some (.int .i64 y0) := (Fp.out.ext xb).c 0 rfl; have kp1 : wb.cell? ⟨np, 1, none⟩ = some (.int .i64 y1) := (Fp.out.ext xb).c 1 rfl; have kp2 : wb.cell? ⟨np, 2, none⟩ = some (.int .i64 y2) := (Fp.out.ext xb).c 2 rfl; have kp3 : wb.cell? ⟨np, 3, none⟩ = some (.int .i64 y3) := (Fp.out.ext xb).c 3 rfl; have kp4 : wb.cell? ⟨np, 4, none⟩ = some (.int .i64 y4) := (Fp.out.ext xb).c 4 rfl; have kp5 : wb.cell? ⟨np, 5, none⟩ = some (.int .i64 y5) := (Fp.out.ext xb).c 5 rfl; have kp6 : wb.cell? ⟨np, 6, none⟩ = some (.int .i64 y6) := (Fp.out.ext xb).c 6 rfl; have kp7 : wb.cell? ⟨np, 7, none⟩ = some (.int .i64 y7) := (Fp.out.ext xb).c 7 rfl) | (go_at_call_of 6 (Value.agg #[Value.int IntKind.i64 y4, Value.int IntKind.i64 y5, Value.int IntKind.i64 y6, Value.int IntKind.i64 y7]); refine (HB.out _).mono ?_; rintro e wc ⟨rfl, xc⟩))
            have xm := xb.trans xc
            have Fp : Hid (HV wc np [.int .i64 y0, .int .i64 y1, .int .i64 y2, .int .i64 y3, .int .i64 y4, .int .i64 y5, .int .i64 y6, .int .i64 y7, .int .i64 y8, .int .i64 y9, .int .i64 y10, .int .i64 y11, .int .i64 y12, .int .i64 y13]) := Fp.out.ext xm
            have Fx : Hid (HV wc nx [.int .i64 0, .int .i64 0, .int .i64 0, .int .i64 0]) := Fx.out.ext xm
            have Fs : Hid (HV wc ns [.int .i64 0, .int .i64 0, .int .i64 0, .int .i64 0]) := Fs.out.ext xm
            have FX : Hid (Ext w wc) := FX.out.trans xm
            clear qp0 qp1 qp2 qp3 qp4 qp5 qp6 qp7 xm xb xc HB kp0 kp1 kp2 kp3 kp4 kp5 kp6 kp7
            have qx0 : wc.cell? ⟨nx, 0, none⟩ = some (.int .i64 0) := Fx.out.c 0 rfl
            have qx1 : wc.cell? ⟨nx, 1, none⟩ = some (.int .i64 0) := Fx.out.c 1 rfl
            have qx2 : wc.cell? ⟨nx, 2, none⟩ = some (.int .i64 0) := Fx.out.c 2 rfl
            have qx3 : wc.cell? ⟨nx, 3, none⟩ = some (.int .i64 0) := Fx.out.c 3 rfl
            have qs0 : wc.cell? ⟨ns, 0, none⟩ = some (.int .i64 0) := Fs.out.c 0 rfl
            have qs1 : wc.cell? ⟨ns, 1, none⟩ = some (.int .i64 0) := Fs.out.c 1 rfl
            have qs2 : wc.cell? ⟨ns, 2, none⟩ = some (.int .i64 0) := Fs.out.c 2 rfl
            have qs3 : wc.cell? ⟨ns, 3, none⟩ = some (.int .i64 0) := Fs.out.c 3 rfl
            go_upto_region 11 with (first | (go_at_call 8; refine (IM.out _).mono ?_; rintro e we ⟨rfl, xe⟩))
            have Fp : Hid (HV we np [.int .i64 y0, .int .i64 y1, .int .i64 y2, .int .i64 y3, .int .i64 y4, .int .i64 y5, .int .i64 y6, .int .i64 y7, .int .i64 y8, .int .i64 y9, .int .i64 y10, .int .i64 y11, .int .i64 y12, .int .i64 y13]) := Fp.out.ext xe
            have Fx : Hid (HV we nx [.int .i64 0, .int .i64 0, .int .i64 0, .int .i64 0]) := Fx.out.ext xe
            have Fs : Hid (HV we ns [.int .i64 0, .int .i64 0, .int .i64 0, .int .i64 0]) := Fs.out.ext xe
            have FX : Hid (Ext w we) := FX.out.trans xe
            clear qx0 qx1 qx2 qx3 qs0 qs1 qs2 qs3 xe IM
            have qp0 : we.cell? ⟨np, 0, none⟩ = some (.int .i64 y0) := Fp.out.c 0 rfl
            have qp1 : we.cell? ⟨np, 1, none⟩ = some (.int .i64 y1) := Fp.out.c 1 rfl
            have qp2 : we.cell? ⟨np, 2, none⟩ = some (.int .i64 y2) := Fp.out.c 2 rfl
            have qp3 : we.cell? ⟨np, 3, none⟩ = some (.int .i64 y3) := Fp.out.c 3 rfl
            go_upto_region 12 with (first | (go_at_call 9; refine (PC.out _).mono ?_; rintro e wf ⟨rfl, xf⟩))
            have Fp : Hid (HV wf np [.int .i64 y0, .int .i64 y1, .int .i64 y2, .int .i64 y3, .int .i64 y4, .int .i64 y5, .int .i64 y6, .int .i64 y7, .int .i64 y8, .int .i64 y9, .int .i64 y10, .int .i64 y11, .int .i64 y12, .int .i64 y13]) := Fp.out.ext xf
            have Fx : Hid (HV wf nx [.int .i64 0, .int .i64 0, .int .i64 0, .int .i64 0]) := Fx.out.ext xf
            have Fs : Hid (HV wf ns [.int .i64 0, .int .i64 0, .int .i64 0, .int .i64 0]) := Fs.out.ext xf
            have FX : Hid (Ext w wf) := FX.out.trans xf
            clear qp0 qp1 qp2 qp3 xf PC
            have ltpc : np < wf.heap.size := Fp.out.1
            have ltxc : nx < wf.heap.size := Fx.out.1
            have ltsc : ns < wf.heap.size := Fs.out.1
            have Lc : Hid (w.heap.size ≤ wf.heap.size) := FX.out.size
            have Fp : Hid (HV (wf.alloc (.cells #[.int .i64 y0, .int .i64 (-y1), .int .i64 (-y2), .int .i64 (-y3)] 24)) np [.int .i64 y0, .int .i64 y1, .int .i64 y2, .int .i64 y3, .int .i64 y4, .int .i64 y5, .int .i64 y6, .int .i64 y7, .int .i64 y8, .int .i64 y9, .int .i64 y10, .int .i64 y11, .int .i64 y12, .int .i64 y13]) := Fp.out.alloc _
            have Fx : Hid (HV (wf.alloc (.cells #[.int .i64 y0, .int .i64 (-y1), .int .i64 (-y2), .int .i64 (-y3)] 24)) nx [.int .i64 0, .int .i64 0, .int .i64 0, .int .i64 0]) := Fx.out.alloc _
            have Fs : Hid (HV (wf.alloc (.cells #[.int .i64 y0, .int .i64 (-y1), .int .i64 (-y2), .int .i64 (-y3)] 24)) ns [.int .i64 0, .int .i64 0, .int .i64 0, .int .i64 0]) := Fs.out.alloc _
            have Fc : Hid (HV (wf.alloc (.cells #[.int .i64 y0, .int .i64 (-y1), .int .i64 (-y2), .int .i64 (-y3)] 24)) wf.heap.size [.int .i64 y0, .int .i64 (-y1), .int .i64 (-y2), .int .i64 (-y3)]) := hv_at rfl
            have FX : Hid (Ext w (wf.alloc (.cells #[.int .i64 y0, .int .i64 (-y1), .int .i64 (-y2), .int .i64 (-y3)] 24))) := FX.out.alloc _
            generalize (wf.alloc (.cells #[.int .i64 y0, .int .i64 (-y1), .int .i64 (-y2), .int .i64 (-y3)] 24)) = wx34 at *
            generalize wf.heap.size = nc at *
            have qp0 : wx34.cell? ⟨np, 0, none⟩ = some (.int .i64 y0) := Fp.out.c 0 rfl
            have qp1 : wx34.cell? ⟨np, 1, none⟩ = some (.int .i64 y1) := Fp.out.c 1 rfl
            have qp2 : wx34.cell? ⟨np, 2, none⟩ = some (.int .i64 y2) := Fp.out.c 2 rfl
            have qp3 : wx34.cell? ⟨np, 3, none⟩ = some (.int .i64 y3) := Fp.out.c 3 rfl
            go_upto_region 15 with (first | (go_at_call 6; refine (HA.out _).mono ?_; rintro e wg ⟨rfl, xg⟩))
            have Fp : Hid (HV wg np [.int .i64 y0, .int .i64 y1, .int .i64 y2, .int .i64 y3, .int .i64 y4, .int .i64 y5, .int .i64 y6, .int .i64 y7, .int .i64 y8, .int .i64 y9, .int .i64 y10, .int .i64 y11, .int .i64 y12, .int .i64 y13]) := Fp.out.ext xg
            have Fx : Hid (HV wg nx [.int .i64 0, .int .i64 0, .int .i64 0, .int .i64 0]) := Fx.out.ext xg
            have Fs : Hid (HV wg ns [.int .i64 0, .int .i64 0, .int .i64 0, .int .i64 0]) := Fs.out.ext xg
            have Fc : Hid (HV wg nc [.int .i64 y0, .int .i64 (-y1), .int .i64 (-y2), .int .i64 (-y3)]) := Fc.out.ext xg
            have FX : Hid (Ext w wg) := FX.out.trans xg
            clear qp0 qp1 qp2 qp3 xg HA
            have qc0 : wg.cell? ⟨nc, 0, none⟩ = some (.int .i64 y0) := Fc.out.c 0 rfl
            have qc1 : wg.cell? ⟨nc, 1, none⟩ = some (.int .i64 (-y1)) := Fc.out.c 1 rfl
            have qc2 : wg.cell? ⟨nc, 2, none⟩ = some (.int .i64 (-y2)) := Fc.out.c 2 rfl
            have qc3 : wg.cell? ⟨nc, 3, none⟩ = some (.int .i64 (-y3)) := Fc.out.c 3 rfl
            have qp0 : wg.cell? ⟨np, 0, none⟩ = some (.int .i64 y0) := Fp.out.c 0 rfl
            have qp1 : wg.cell? ⟨np, 1, none⟩ = some (.int .i64 y1) := Fp.out.c 1 rfl
            have qp2 : wg.cell? ⟨np, 2, none⟩ = some (.int .i64 y2) := Fp.out.c 2 rfl
            have qp3 : wg.cell? ⟨np, 3, none⟩ = some (.int .i64 y3) := Fp.out.c 3 rfl
            have he := eqQ (y0) (-y1) (-y2) (-y3) (y0) (-y1) (-y2) (-y3)
            simp only [beq_self_eq_true, Bool.and_self] at he
            go_wp2_with (go_at_call 10; refine (num4_any _ _).mono ?_; rintro e wx ⟨rfl, hwx⟩; have hwy := hwx.symm; clear hwx; subst hwy)
            go_roundw
            case rel => exact ⟨k + 1, by omega, by go_num, FX⟩
            case measure => simp [intOf]; omega
          · have HA := fun w => mayq_any y0 y1 y2 y3 w
            rw [g1] at HA
            have HB := fun w => mayq_any y4 y5 y6 y7 w
            rw [g2] at HB
            have HA : Hid (∀ w, Calls Try.prog 6 #[.agg #[.int .i64 y0, .int .i64 y1, .int .i64 y2, .int .i64 y3]] w fun e w' => e = .returned (.bool true) ∧ Ext w w') := HA
            have HB : Hid (∀ w, Calls Try.prog 6 #[.agg #[.int .i64 y4, .int .i64 y5, .int .i64 y6, .int .i64 y7]] w fun e w' => e = .returned (.bool true) ∧ Ext w w') := HB
            obtain ⟨x0, x1, x2, x3, er, PM, IM, RM⟩ := mul_both y0 y1 y2 y3 y4 y5 y6 y7
            rw [g1, g2] at RM
            have RM : Hid (∀ w, Calls Try.prog 7 #[.agg #[.int .i64 y0, .int .i64 y1, .int .i64 y2, .int .i64 y3], .agg #[.int .i64 y4, .int .i64 y5, .int .i64 y6, .int .i64 y7]] w fun e w' => e = .returned (.tuple #[.agg #[.int .i64 x0, .int .i64 x1, .int .i64 x2, .int .i64 x3], .int .i64 er]) ∧ Ext w w') := (RM.resolve_right (fun h => absurd h.1 (by decide))).2
            have PM : Hid (∀ w, Calls Try.prog 5 #[.agg #[.int .i64 y0, .int .i64 y1, .int .i64 y2, .int .i64 y3], .agg #[.int .i64 y4, .int .i64 y5, .int .i64 y6, .int .i64 y7]] w fun e w' => e = .returned (.tuple #[.agg #[.int .i64 x0, .int .i64 x1, .int .i64 x2, .int .i64 x3], .int .i64 er]) ∧ Ext w w') := PM
            have IM : Hid (∀ w, Calls Try.prog 8 #[.agg #[.int .i64 x0, .int .i64 x1, .int .i64 x2, .int .i64 x3], .int .i64 er, .agg #[.int .i64 x0, .int .i64 x1, .int .i64 x2, .int .i64 x3], .int .i64 er] w fun e w' => e = .returned (.bool true) ∧ Ext w w') := IM
            have PC := fun w => qConj_any y0 y1 y2 y3 w
            unfold conjR at PC
            rw [g1] at PC
            rw [if_pos rfl] at PC
            have PC : Hid (∀ w, Calls Try.prog 9 #[.agg #[.int .i64 y0, .int .i64 y1, .int .i64 y2, .int .i64 y3]] w fun e w' => e = .returned (.tuple #[.agg #[.int .i64 y0, .int .i64 (-y1), .int .i64 (-y2), .int .i64 (-y3)], .int .i64 0]) ∧ Ext w w') := PC
            have g1p := ok4_parts g1
            obtain ⟨ha, hb, hc4, hd⟩ := g1p
            obtain ⟨b1l, b1h⟩ := okW_bounds hb
            obtain ⟨b2l, b2h⟩ := okW_bounds hc4
            obtain ⟨b3l, b3h⟩ := okW_bounds hd
            clear ha hb hc4 hd
            clear g1 g2
            have qp0 : wx1.cell? ⟨np, 0, none⟩ = some (.int .i64 y0) := Fp.out.c 0 rfl
            have qp1 : wx1.cell? ⟨np, 1, none⟩ = some (.int .i64 y1) := Fp.out.c 1 rfl
            have qp2 : wx1.cell? ⟨np, 2, none⟩ = some (.int .i64 y2) := Fp.out.c 2 rfl
            have qp3 : wx1.cell? ⟨np, 3, none⟩ = some (.int .i64 y3) := Fp.out.c 3 rfl
            have qp4 : wx1.cell? ⟨np, 4, none⟩ = some (.int .i64 y4) := Fp.out.c 4 rfl
            have qp5 : wx1.cell? ⟨np, 5, none⟩ = some (.int .i64 y5) := Fp.out.c 5 rfl
            have qp6 : wx1.cell? ⟨np, 6, none⟩ = some (.int .i64 y6) := Fp.out.c 6 rfl
            have qp7 : wx1.cell? ⟨np, 7, none⟩ = some (.int .i64 y7) := Fp.out.c 7 rfl
            go_upto_region 6 with (first | (go_at_call 5; refine (PM.out _).mono ?_; rintro e wa ⟨rfl, xa⟩))
            have Fp : Hid (HV wa np [.int .i64 y0, .int .i64 y1, .int .i64 y2, .int .i64 y3, .int .i64 y4, .int .i64 y5, .int .i64 y6, .int .i64 y7, .int .i64 y8, .int .i64 y9, .int .i64 y10, .int .i64 y11, .int .i64 y12, .int .i64 y13]) := Fp.out.ext xa
            have FX : Hid (Ext w wa) := FX.out.trans xa
            clear qp0 qp1 qp2 qp3 qp4 qp5 qp6 qp7 xa PM
            have ltpx : np < wa.heap.size := Fp.out.1
            have Lx : Hid (w.heap.size ≤ wa.heap.size) := FX.out.size
            have Fp : Hid (HV (wa.alloc (.cells #[.int .i64 x0, .int .i64 x1, .int .i64 x2, .int .i64 x3] 24)) np [.int .i64 y0, .int .i64 y1, .int .i64 y2, .int .i64 y3, .int .i64 y4, .int .i64 y5, .int .i64 y6, .int .i64 y7, .int .i64 y8, .int .i64 y9, .int .i64 y10, .int .i64 y11, .int .i64 y12, .int .i64 y13]) := Fp.out.alloc _
            have Fx : Hid (HV (wa.alloc (.cells #[.int .i64 x0, .int .i64 x1, .int .i64 x2, .int .i64 x3] 24)) wa.heap.size [.int .i64 x0, .int .i64 x1, .int .i64 x2, .int .i64 x3]) := hv_at rfl
            have FX : Hid (Ext w (wa.alloc (.cells #[.int .i64 x0, .int .i64 x1, .int .i64 x2, .int .i64 x3] 24))) := FX.out.alloc _
            generalize (wa.alloc (.cells #[.int .i64 x0, .int .i64 x1, .int .i64 x2, .int .i64 x3] 24)) = wx42 at *
            generalize wa.heap.size = nx at *
            go_upto_region 7 with fail
            have ltps : np < wx42.heap.size := Fp.out.1
            have ltxs : nx < wx42.heap.size := Fx.out.1
            have Ls : Hid (w.heap.size ≤ wx42.heap.size) := FX.out.size
            have Fp : Hid (HV (wx42.alloc (.cells #[.int .i64 0, .int .i64 0, .int .i64 0, .int .i64 0] 24)) np [.int .i64 y0, .int .i64 y1, .int .i64 y2, .int .i64 y3, .int .i64 y4, .int .i64 y5, .int .i64 y6, .int .i64 y7, .int .i64 y8, .int .i64 y9, .int .i64 y10, .int .i64 y11, .int .i64 y12, .int .i64 y13]) := Fp.out.alloc _
            have Fx : Hid (HV (wx42.alloc (.cells #[.int .i64 0, .int .i64 0, .int .i64 0, .int .i64 0] 24)) nx [.int .i64 x0, .int .i64 x1, .int .i64 x2, .int .i64 x3]) := Fx.out.alloc _
            have Fs : Hid (HV (wx42.alloc (.cells #[.int .i64 0, .int .i64 0, .int .i64 0, .int .i64 0] 24)) wx42.heap.size [.int .i64 0, .int .i64 0, .int .i64 0, .int .i64 0]) := hv_at rfl
            have FX : Hid (Ext w (wx42.alloc (.cells #[.int .i64 0, .int .i64 0, .int .i64 0, .int .i64 0] 24))) := FX.out.alloc _
            generalize (wx42.alloc (.cells #[.int .i64 0, .int .i64 0, .int .i64 0, .int .i64 0] 24)) = wx43 at *
            generalize wx42.heap.size = ns at *
            have qp0 : wx43.cell? ⟨np, 0, none⟩ = some (.int .i64 y0) := Fp.out.c 0 rfl
            have qp1 : wx43.cell? ⟨np, 1, none⟩ = some (.int .i64 y1) := Fp.out.c 1 rfl
            have qp2 : wx43.cell? ⟨np, 2, none⟩ = some (.int .i64 y2) := Fp.out.c 2 rfl
            have qp3 : wx43.cell? ⟨np, 3, none⟩ = some (.int .i64 y3) := Fp.out.c 3 rfl
            have qp4 : wx43.cell? ⟨np, 4, none⟩ = some (.int .i64 y4) := Fp.out.c 4 rfl
            have qp5 : wx43.cell? ⟨np, 5, none⟩ = some (.int .i64 y5) := Fp.out.c 5 rfl
            have qp6 : wx43.cell? ⟨np, 6, none⟩ = some (.int .i64 y6) := Fp.out.c 6 rfl
            have qp7 : wx43.cell? ⟨np, 7, none⟩ = some (.int .i64 y7) := Fp.out.c 7 rfl
            go_upto_region 8 with (first | (go_at_call_of 6 (Value.agg #[Value.int IntKind.i64 y0, Value.int IntKind.i64 y1, Value.int IntKind.i64 y2, Value.int IntKind.i64 y3]); refine (HA.out _).mono ?_; rintro e wb ⟨rfl, xb⟩; have kp0 : wb.cell? ⟨np, 0, none⟩ = some (.int .i64 y0) := (Fp.out.ext xb).c 0 rfl; have kp1 : wb.cell? ⟨np, 1, none⟩ = some (.int .i64 y1) := (Fp.out.ext xb).c 1 rfl; have kp2 : wb.cell? ⟨np, 2, none⟩ = some (.int .i64 y2) := (Fp.out.ext xb).c 2 rfl; have kp3 : wb.cell? ⟨np, 3, none⟩ = some (.int .i64 y3) := (Fp.out.ext xb).c 3 rfl; have kp4 : wb.cell? ⟨np, 4, none⟩ = some (.int .i64 y4) := (Fp.out.ext xb).c 4 rfl; have kp5 : wb.cell? ⟨np, 5, none⟩ = some (.int .i64 y5) := (Fp.out.ext xb).c 5 rfl; have kp6 : wb.cell? ⟨np, 6, none⟩ = some (.int .i64 y6) := (Fp.out.ext xb).c 6 rfl; have kp7 : wb.cell? ⟨np, 7, none⟩ = some (.int .i64 y7) := (Fp.out.ext xb).c 7 rfl) | (go_at_call_of 6 (Value.agg #[Value.int IntKind.i64 y4, Value.int IntKind.i64 y5, Value.int IntKind.i64 y6, Value.int IntKind.i64 y7]); refine (HB.out _).mono ?_; rintro e wc ⟨rfl, xc⟩))
            have xm := xb.trans xc
            have Fp : Hid (HV wc np [.int .i64 y0, .int .i64 y1, .int .i64 y2, .int .i64 y3, .int .i64 y4, .int .i64 y5, .int .i64 y6, .int .i64 y7, .int .i64 y8, .int .i64 y9, .int .i64 y10, .int .i64 y11, .int .i64 y12, .int .i64 y13]) := Fp.out.ext xm
            have Fx : Hid (HV wc nx [.int .i64 x0, .int .i64 x1, .int .i64 x2, .int .i64 x3]) := Fx.out.ext xm
            have Fs : Hid (HV wc ns [.int .i64 0, .int .i64 0, .int .i64 0, .int .i64 0]) := Fs.out.ext xm
            have FX : Hid (Ext w wc) := FX.out.trans xm
            clear qp0 qp1 qp2 qp3 qp4 qp5 qp6 qp7 xm xb xc HB kp0 kp1 kp2 kp3 kp4 kp5 kp6 kp7
            have qp0 : wc.cell? ⟨np, 0, none⟩ = some (.int .i64 y0) := Fp.out.c 0 rfl
            have qp1 : wc.cell? ⟨np, 1, none⟩ = some (.int .i64 y1) := Fp.out.c 1 rfl
            have qp2 : wc.cell? ⟨np, 2, none⟩ = some (.int .i64 y2) := Fp.out.c 2 rfl
            have qp3 : wc.cell? ⟨np, 3, none⟩ = some (.int .i64 y3) := Fp.out.c 3 rfl
            have qp4 : wc.cell? ⟨np, 4, none⟩ = some (.int .i64 y4) := Fp.out.c 4 rfl
            have qp5 : wc.cell? ⟨np, 5, none⟩ = some (.int .i64 y5) := Fp.out.c 5 rfl
            have qp6 : wc.cell? ⟨np, 6, none⟩ = some (.int .i64 y6) := Fp.out.c 6 rfl
            have qp7 : wc.cell? ⟨np, 7, none⟩ = some (.int .i64 y7) := Fp.out.c 7 rfl
            have qs0 : wc.cell? ⟨ns, 0, none⟩ = some (.int .i64 0) := Fs.out.c 0 rfl
            have zs0 : wc.frozen? ⟨ns, 0, none⟩ = false := Fs.out.f 0 rfl
            have qs1 : wc.cell? ⟨ns, 1, none⟩ = some (.int .i64 0) := Fs.out.c 1 rfl
            have zs1 : wc.frozen? ⟨ns, 1, none⟩ = false := Fs.out.f 1 rfl
            have qs2 : wc.cell? ⟨ns, 2, none⟩ = some (.int .i64 0) := Fs.out.c 2 rfl
            have zs2 : wc.frozen? ⟨ns, 2, none⟩ = false := Fs.out.f 2 rfl
            have qs3 : wc.cell? ⟨ns, 3, none⟩ = some (.int .i64 0) := Fs.out.c 3 rfl
            have zs3 : wc.frozen? ⟨ns, 3, none⟩ = false := Fs.out.f 3 rfl
            go_upto_region 9 with (first | (go_at_call 7; refine (RM.out _).mono ?_; rintro e wd ⟨rfl, xd⟩; have ks0 : wd.cell? ⟨ns, 0, none⟩ = some (.int .i64 0) := (Fs.out.ext xd).c 0 rfl; have zs0 : wd.frozen? ⟨ns, 0, none⟩ = false := (Fs.out.ext xd).f 0 rfl; have ks1 : wd.cell? ⟨ns, 1, none⟩ = some (.int .i64 0) := (Fs.out.ext xd).c 1 rfl; have zs1 : wd.frozen? ⟨ns, 1, none⟩ = false := (Fs.out.ext xd).f 1 rfl; have ks2 : wd.cell? ⟨ns, 2, none⟩ = some (.int .i64 0) := (Fs.out.ext xd).c 2 rfl; have zs2 : wd.frozen? ⟨ns, 2, none⟩ = false := (Fs.out.ext xd).f 2 rfl; have ks3 : wd.cell? ⟨ns, 3, none⟩ = some (.int .i64 0) := (Fs.out.ext xd).c 3 rfl; have zs3 : wd.frozen? ⟨ns, 3, none⟩ = false := (Fs.out.ext xd).f 3 rfl))
            have Fp : Hid (HV wd np [.int .i64 y0, .int .i64 y1, .int .i64 y2, .int .i64 y3, .int .i64 y4, .int .i64 y5, .int .i64 y6, .int .i64 y7, .int .i64 y8, .int .i64 y9, .int .i64 y10, .int .i64 y11, .int .i64 y12, .int .i64 y13]) := Fp.out.ext xd
            have Fx : Hid (HV wd nx [.int .i64 x0, .int .i64 x1, .int .i64 x2, .int .i64 x3]) := Fx.out.ext xd
            have Fs : Hid (HV wd ns [.int .i64 0, .int .i64 0, .int .i64 0, .int .i64 0]) := Fs.out.ext xd
            have FX : Hid (Ext w wd) := FX.out.trans xd
            clear qp0 qp1 qp2 qp3 qp4 qp5 qp6 qp7 xd RM qs0 qs1 qs2 qs3 ks0 ks1 ks2 ks3 zs0 zs1 zs2 zs3
            have Fp : Hid (HV ((((wd.setCell ⟨ns, 0, none⟩ (.int .i64 x0)).setCell ⟨ns, 1, none⟩ (.int .i64 x1)).setCell ⟨ns, 2, none⟩ (.int .i64 x2)).setCell ⟨ns, 3, none⟩ (.int .i64 x3)) np [.int .i64 y0, .int .i64 y1, .int .i64 y2, .int .i64 y3, .int .i64 y4, .int .i64 y5, .int .i64 y6, .int .i64 y7, .int .i64 y8, .int .i64 y9, .int .i64 y10, .int .i64 y11, .int .i64 y12, .int .i64 y13]) := ((((Fp.out.far (by omega)).far (by omega)).far (by omega)).far (by omega))
            have Fx : Hid (HV ((((wd.setCell ⟨ns, 0, none⟩ (.int .i64 x0)).setCell ⟨ns, 1, none⟩ (.int .i64 x1)).setCell ⟨ns, 2, none⟩ (.int .i64 x2)).setCell ⟨ns, 3, none⟩ (.int .i64 x3)) nx [.int .i64 x0, .int .i64 x1, .int .i64 x2, .int .i64 x3]) := ((((Fx.out.far (by omega)).far (by omega)).far (by omega)).far (by omega))
            have Fs : Hid (HV ((((wd.setCell ⟨ns, 0, none⟩ (.int .i64 x0)).setCell ⟨ns, 1, none⟩ (.int .i64 x1)).setCell ⟨ns, 2, none⟩ (.int .i64 x2)).setCell ⟨ns, 3, none⟩ (.int .i64 x3)) ns [.int .i64 x0, .int .i64 x1, .int .i64 x2, .int .i64 x3]) := ((((Fs.out.set 0 (.int .i64 x0)).set 1 (.int .i64 x1)).set 2 (.int .i64 x2)).set 3 (.int .i64 x3))
            have FX : Hid (Ext w ((((wd.setCell ⟨ns, 0, none⟩ (.int .i64 x0)).setCell ⟨ns, 1, none⟩ (.int .i64 x1)).setCell ⟨ns, 2, none⟩ (.int .i64 x2)).setCell ⟨ns, 3, none⟩ (.int .i64 x3))) := ((((FX.out.set (p := ⟨ns, 0, none⟩) Ls.out (.int .i64 x0)).set (p := ⟨ns, 1, none⟩) Ls.out (.int .i64 x1)).set (p := ⟨ns, 2, none⟩) Ls.out (.int .i64 x2)).set (p := ⟨ns, 3, none⟩) Ls.out (.int .i64 x3))
            generalize ((((wd.setCell ⟨ns, 0, none⟩ (.int .i64 x0)).setCell ⟨ns, 1, none⟩ (.int .i64 x1)).setCell ⟨ns, 2, none⟩ (.int .i64 x2)).setCell ⟨ns, 3, none⟩ (.int .i64 x3)) = wx44 at *
            have qx0 : wx44.cell? ⟨nx, 0, none⟩ = some (.int .i64 x0) := Fx.out.c 0 rfl
            have qx1 : wx44.cell? ⟨nx, 1, none⟩ = some (.int .i64 x1) := Fx.out.c 1 rfl
            have qx2 : wx44.cell? ⟨nx, 2, none⟩ = some (.int .i64 x2) := Fx.out.c 2 rfl
            have qx3 : wx44.cell? ⟨nx, 3, none⟩ = some (.int .i64 x3) := Fx.out.c 3 rfl
            have qs0 : wx44.cell? ⟨ns, 0, none⟩ = some (.int .i64 x0) := Fs.out.c 0 rfl
            have qs1 : wx44.cell? ⟨ns, 1, none⟩ = some (.int .i64 x1) := Fs.out.c 1 rfl
            have qs2 : wx44.cell? ⟨ns, 2, none⟩ = some (.int .i64 x2) := Fs.out.c 2 rfl
            have qs3 : wx44.cell? ⟨ns, 3, none⟩ = some (.int .i64 x3) := Fs.out.c 3 rfl
            go_upto_region 11 with (first | (go_at_call 8; refine (IM.out _).mono ?_; rintro e we ⟨rfl, xe⟩))
            have Fp : Hid (HV we np [.int .i64 y0, .int .i64 y1, .int .i64 y2, .int .i64 y3, .int .i64 y4, .int .i64 y5, .int .i64 y6, .int .i64 y7, .int .i64 y8, .int .i64 y9, .int .i64 y10, .int .i64 y11, .int .i64 y12, .int .i64 y13]) := Fp.out.ext xe
            have Fx : Hid (HV we nx [.int .i64 x0, .int .i64 x1, .int .i64 x2, .int .i64 x3]) := Fx.out.ext xe
            have Fs : Hid (HV we ns [.int .i64 x0, .int .i64 x1, .int .i64 x2, .int .i64 x3]) := Fs.out.ext xe
            have FX : Hid (Ext w we) := FX.out.trans xe
            clear qx0 qx1 qx2 qx3 qs0 qs1 qs2 qs3 xe IM
            have qp0 : we.cell? ⟨np, 0, none⟩ = some (.int .i64 y0) := Fp.out.c 0 rfl
            have qp1 : we.cell? ⟨np, 1, none⟩ = some (.int .i64 y1) := Fp.out.c 1 rfl
            have qp2 : we.cell? ⟨np, 2, none⟩ = some (.int .i64 y2) := Fp.out.c 2 rfl
            have qp3 : we.cell? ⟨np, 3, none⟩ = some (.int .i64 y3) := Fp.out.c 3 rfl
            go_upto_region 12 with (first | (go_at_call 9; refine (PC.out _).mono ?_; rintro e wf ⟨rfl, xf⟩))
            have Fp : Hid (HV wf np [.int .i64 y0, .int .i64 y1, .int .i64 y2, .int .i64 y3, .int .i64 y4, .int .i64 y5, .int .i64 y6, .int .i64 y7, .int .i64 y8, .int .i64 y9, .int .i64 y10, .int .i64 y11, .int .i64 y12, .int .i64 y13]) := Fp.out.ext xf
            have Fx : Hid (HV wf nx [.int .i64 x0, .int .i64 x1, .int .i64 x2, .int .i64 x3]) := Fx.out.ext xf
            have Fs : Hid (HV wf ns [.int .i64 x0, .int .i64 x1, .int .i64 x2, .int .i64 x3]) := Fs.out.ext xf
            have FX : Hid (Ext w wf) := FX.out.trans xf
            clear qp0 qp1 qp2 qp3 xf PC
            have ltpc : np < wf.heap.size := Fp.out.1
            have ltxc : nx < wf.heap.size := Fx.out.1
            have ltsc : ns < wf.heap.size := Fs.out.1
            have Lc : Hid (w.heap.size ≤ wf.heap.size) := FX.out.size
            have Fp : Hid (HV (wf.alloc (.cells #[.int .i64 y0, .int .i64 (-y1), .int .i64 (-y2), .int .i64 (-y3)] 24)) np [.int .i64 y0, .int .i64 y1, .int .i64 y2, .int .i64 y3, .int .i64 y4, .int .i64 y5, .int .i64 y6, .int .i64 y7, .int .i64 y8, .int .i64 y9, .int .i64 y10, .int .i64 y11, .int .i64 y12, .int .i64 y13]) := Fp.out.alloc _
            have Fx : Hid (HV (wf.alloc (.cells #[.int .i64 y0, .int .i64 (-y1), .int .i64 (-y2), .int .i64 (-y3)] 24)) nx [.int .i64 x0, .int .i64 x1, .int .i64 x2, .int .i64 x3]) := Fx.out.alloc _
            have Fs : Hid (HV (wf.alloc (.cells #[.int .i64 y0, .int .i64 (-y1), .int .i64 (-y2), .int .i64 (-y3)] 24)) ns [.int .i64 x0, .int .i64 x1, .int .i64 x2, .int .i64 x3]) := Fs.out.alloc _
            have Fc : Hid (HV (wf.alloc (.cells #[.int .i64 y0, .int .i64 (-y1), .int .i64 (-y2), .int .i64 (-y3)] 24)) wf.heap.size [.int .i64 y0, .int .i64 (-y1), .int .i64 (-y2), .int .i64 (-y3)]) := hv_at rfl
            have FX : Hid (Ext w (wf.alloc (.cells #[.int .i64 y0, .int .i64 (-y1), .int .i64 (-y2), .int .i64 (-y3)] 24))) := FX.out.alloc _
            generalize (wf.alloc (.cells #[.int .i64 y0, .int .i64 (-y1), .int .i64 (-y2), .int .i64 (-y3)] 24)) = wx45 at *
            generalize wf.heap.size = nc at *
            have qp0 : wx45.cell? ⟨np, 0, none⟩ = some (.int .i64 y0) := Fp.out.c 0 rfl
            have qp1 : wx45.cell? ⟨np, 1, none⟩ = some (.int .i64 y1) := Fp.out.c 1 rfl
            have qp2 : wx45.cell? ⟨np, 2, none⟩ = some (.int .i64 y2) := Fp.out.c 2 rfl
            have qp3 : wx45.cell? ⟨np, 3, none⟩ = some (.int .i64 y3) := Fp.out.c 3 rfl
            go_upto_region 15 with (first | (go_at_call 6; refine (HA.out _).mono ?_; rintro e wg ⟨rfl, xg⟩))
            have Fp : Hid (HV wg np [.int .i64 y0, .int .i64 y1, .int .i64 y2, .int .i64 y3, .int .i64 y4, .int .i64 y5, .int .i64 y6, .int .i64 y7, .int .i64 y8, .int .i64 y9, .int .i64 y10, .int .i64 y11, .int .i64 y12, .int .i64 y13]) := Fp.out.ext xg
            have Fx : Hid (HV wg nx [.int .i64 x0, .int .i64 x1, .int .i64 x2, .int .i64 x3]) := Fx.out.ext xg
            have Fs : Hid (HV wg ns [.int .i64 x0, .int .i64 x1, .int .i64 x2, .int .i64 x3]) := Fs.out.ext xg
            have Fc : Hid (HV wg nc [.int .i64 y0, .int .i64 (-y1), .int .i64 (-y2), .int .i64 (-y3)]) := Fc.out.ext xg
            have FX : Hid (Ext w wg) := FX.out.trans xg
            clear qp0 qp1 qp2 qp3 xg HA
            have qc0 : wg.cell? ⟨nc, 0, none⟩ = some (.int .i64 y0) := Fc.out.c 0 rfl
            have qc1 : wg.cell? ⟨nc, 1, none⟩ = some (.int .i64 (-y1)) := Fc.out.c 1 rfl
            have qc2 : wg.cell? ⟨nc, 2, none⟩ = some (.int .i64 (-y2)) := Fc.out.c 2 rfl
            have qc3 : wg.cell? ⟨nc, 3, none⟩ = some (.int .i64 (-y3)) := Fc.out.c 3 rfl
            have qp0 : wg.cell? ⟨np, 0, none⟩ = some (.int .i64 y0) := Fp.out.c 0 rfl
            have qp1 : wg.cell? ⟨np, 1, none⟩ = some (.int .i64 y1) := Fp.out.c 1 rfl
            have qp2 : wg.cell? ⟨np, 2, none⟩ = some (.int .i64 y2) := Fp.out.c 2 rfl
            have qp3 : wg.cell? ⟨np, 3, none⟩ = some (.int .i64 y3) := Fp.out.c 3 rfl
            have he := eqQ (y0) (-y1) (-y2) (-y3) (y0) (-y1) (-y2) (-y3)
            simp only [beq_self_eq_true, Bool.and_self] at he
            go_wp2_with (go_at_call 10; refine (num4_any _ _).mono ?_; rintro e wx ⟨rfl, hwx⟩; have hwy := hwx.symm; clear hwx; subst hwy)
            go_roundw
            case rel => exact ⟨k + 1, by omega, by go_num, FX⟩
            case measure => simp [intOf]; omega
      · go_wp2_with fail
        refine (wakes4_any _).mono ?_
        rintro e w1 ⟨rfl, x1⟩
        have E1 : Ext w w1 := FX.out.trans x1
        go_wp2_with fail
        go_ret
        exact ⟨rfl, E1⟩
    · have hk' : k = len := by omega
      subst hk'
      go_wp2_with fail
      refine (wakes4_any _).mono ?_
      rintro e w1 ⟨rfl, x1⟩
      have E1 : Ext w w1 := FX.out.trans x1
      go_wp2_with fail
      go_ret
      exact ⟨rfl, E1⟩
set_option maxRecDepth 20000 in
set_option maxHeartbeats 4000000 in
theorem products_none (a : Option Addr) (cap : Nat) (w : World) :
    Calls Try.prog 3 #[.slice a 0 cap] w fun e w' => e = .returned (.bool true) ∧ Ext w w' := by
  go_enter Try.func3, Try.ntmps3
  go_wp2_with fail
  go_loopw [3] (fun i wr => i = .int .i64 0 ∧ Hid (Ext w wr)) (fun _ _ => 0)
  case atStart => exact ⟨rfl, Ext.refl _⟩
  case round =>
    obtain ⟨rfl, FX⟩ := hrel
    go_wp2_with fail
    refine (wakes4_any _).mono ?_
    rintro e w1 ⟨rfl, x1⟩
    have E1 : Ext w w1 := FX.out.trans x1
    go_wp2_with fail
    go_ret
    exact ⟨rfl, E1⟩
end Go.Proofs.Ytfmalpnlencmbaa
