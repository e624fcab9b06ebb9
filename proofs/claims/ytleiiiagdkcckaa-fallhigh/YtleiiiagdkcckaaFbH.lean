/- FallHigh. -/
import Derived.Test.YtleiiiagdkcckaaFb2
namespace Go.Proofs.Ytleiiiagdkcckaa
open Go.RowKit
theorem high_step {N x : Int} (hN : 0 ≤ N ∧ N ≤ 200000) (hx : 0 ≤ x ∧ x ≤ 9806649) :
    takeF false false 0 (2451662 + x) N = .tuple #[.agg #[.bool false, .bool false, .int .i64 0], .bool false, .int .i64 0] ∧ takeF false false 0 0 N = .tuple #[.agg #[.bool true, .bool false, .int .i64 N], .bool false, .int .i64 0] ∧ takeF true false N 9806650 N = .tuple #[.agg #[.bool false, .bool false, .int .i64 0], .bool false, .int .i64 0] := by
  have o1 : okF false false 0 = true := by decide
  have o3 : okTm N = true := okTm_iff.2 ⟨hN.1, by omega⟩
  have o4 : okF true false N = true := o3
  have o2 : ∀ m : Int, 0 ≤ m → m ≤ 30000000 → okMg m = true := fun m h1 h2 => by unfold okMg okW; simp; omega
  refine ⟨?_, ?_, ?_⟩
  · rw [takeF_good o1 (o2 _ (by omega) (by omega)) o3 hN.1]
    by_cases b : 4903325 < 2451662 + x
    · rw [if_pos b]
    · rw [if_neg b, if_neg (by omega)]
  · rw [takeF_good o1 (o2 _ (by omega) (by omega)) o3 hN.1, if_neg (by omega), if_pos (by omega), if_pos rfl]
  · rw [takeF_good o4 (o2 _ (by omega) (by omega)) o3 (Int.le_refl _), if_pos (by omega)]
set_option maxRecDepth 20000 in
set_option maxHeartbeats 40000000 in
theorem fallhigh_any (b off len cap : Nat) (C : Nat → Nat → Value) (w : World) (hl : len ≤ maxLen) (hc : ML 5 (fun j => j == 0 || j == 1) w b off len C) :
    Calls Try.prog 5 #[.slice (some ⟨b, off, none⟩) len cap] w fun e w' => e = .returned (.bool true) ∧ Ext w w' := by
  have hl' : len ≤ 9223372036854775807 := by unfold maxLen at hl; omega
  clear hl
  have A0 : Hid ((0 : Nat) ≤ 80 ∧ (0 : Int) ≤ 0 ∧ (0 : Int) ≤ 98 * ((0 : Nat) : Int)) := ⟨by omega, by omega, by omega⟩
  have Fa : Hid (HV ((w.alloc (.cells #[.bool false, .bool false, .int .i64 0] 24)).alloc (.cells #[.bool false, .bool false, .int .i64 0] 24)) w.heap.size [.bool false, .bool false, .int .i64 0]) := (hv_at rfl).alloc _
  have Fb : Hid (HV ((w.alloc (.cells #[.bool false, .bool false, .int .i64 0] 24)).alloc (.cells #[.bool false, .bool false, .int .i64 0] 24)) (w.heap.size + 1) [.bool false, .bool false, .int .i64 0]) := hv_at (by simp)
  have FX : Hid (Ext w ((w.alloc (.cells #[.bool false, .bool false, .int .i64 0] 24)).alloc (.cells #[.bool false, .bool false, .int .i64 0] 24))) := ((Ext.refl _).alloc _).alloc _
  have La : Hid (w.heap.size ≤ w.heap.size) := Nat.le_refl _
  have Lb : Hid (w.heap.size ≤ w.heap.size + 1) := Nat.le_add_right _ _
  go_enter Try.func5, Try.ntmps5
  go_upto_region 2 with fail
  generalize ((w.alloc (.cells #[.bool false, .bool false, .int .i64 0] 24)).alloc (.cells #[.bool false, .bool false, .int .i64 0] 24)) = wa at *
  go_wp2_with fail
  go_loopw [5, 6] (fun vN vi wr => ∃ (k : Nat) (N : Int), k ≤ len ∧ vi = .int .i64 k ∧ vN = .int .i64 N ∧ Hid (k ≤ 80 ∧ 0 ≤ N ∧ N ≤ 98 * k) ∧ Hid (HV wr w.heap.size [.bool false, .bool false, .int .i64 0]) ∧ Hid (HV wr (w.heap.size + 1) [.bool false, .bool false, .int .i64 0]) ∧ Hid (Ext w wr)) (fun _ i _ => len - (intOf i).toNat)
  case atStart => exact ⟨0, 0, Nat.zero_le _, rfl, rfl, A0, Fa, Fb, FX⟩
  case round =>
    clear A0 Fa Fb FX
    obtain ⟨k, N, hk, rfl, rfl, HA, Fa, Fb, FX⟩ := hrel
    by_cases hlt : k < len
    · by_cases h5 : k < 80
      · skip
        obtain ⟨zm, c3, _⟩ := (hc.ext FX.out).num hlt (j := 3) (by omega) rfl
        obtain ⟨zn, c4, _⟩ := (hc.ext FX.out).num hlt (j := 4) (by omega) rfl
        have hlt' : (k : Int) < (len : Int) := by omega
        clear hc
        have HD : Hid (∀ w, Calls Try.prog 13 #[.int .i64 zn, .int .i64 99] w fun e w' => e = .returned (.int .i64 (zn % 18446744073709551616 % 99)) ∧ w' = w) := within_99 zn
        have Bd : Hid (0 ≤ zn % 18446744073709551616 % 99 ∧ zn % 18446744073709551616 % 99 ≤ 98) := ⟨by omega, by omega⟩
        generalize zn % 18446744073709551616 % 99 = d at *
        have HB : Hid (∀ w, Calls Try.prog 13 #[.int .i64 zm, .int .i64 9806650] w fun e w' => e = .returned (.int .i64 (zm % 18446744073709551616 % 9806650)) ∧ w' = w) := within_9806650 zm
        have Bx : Hid (0 ≤ zm % 18446744073709551616 % 9806650 ∧ zm % 18446744073709551616 % 9806650 ≤ 9806649) := ⟨by omega, by omega⟩
        generalize zm % 18446744073709551616 % 9806650 = x at *
        have HN : Hid (k + 1 ≤ 80 ∧ 0 ≤ N + d ∧ N + d ≤ 98 * ((k + 1 : Nat) : Int)) := by
          have h := HA.out
          have hd := Bd.out
          exact ⟨by omega, by omega, by omega⟩
        obtain ⟨e1, e2, e3⟩ := high_step (N := N + d) (x := x) (by have := HN.out; omega) Bx.out
        have ed : IntKind.i64.wrap (N + d) = N + d := by
          have h := HN.out
          rw [IntKind.wrap_i64]
          omega
        have ea : wrap64 (N + d) = N + d := by
          have h := HN.out
          exact wrap_le _ (by omega) (by omega)
        have eh : wrap64 (2451662 + x) = 2451662 + x := by
          have h := Bx.out
          exact wrap_le _ (by omega) (by omega)
        have ei : IntKind.i64.wrap (2451662 + x) = 2451662 + x := by
          have h := Bx.out
          rw [IntKind.wrap_i64]
          omega
        have k1 := ftake_any false false 0 (2451662 + x) (N + d)
        rw [e1] at k1
        have k2 := ftake_any false false 0 0 (N + d)
        rw [e2] at k2
        have k3 := ftake_any true false (N + d) 9806650 (N + d)
        rw [e3] at k3
        have HT : Hid (∀ w, Calls Try.prog 10 #[.agg #[.bool false, .bool false, .int .i64 0], .int .i64 (2451662 + x), .int .i64 (N + d)] w fun e w' => e = .returned (.tuple #[.agg #[.bool false, .bool false, .int .i64 0], .bool false, .int .i64 0]) ∧ Ext w w') := k1
        have HU : Hid (∀ w, Calls Try.prog 10 #[.agg #[.bool false, .bool false, .int .i64 0], .int .i64 0, .int .i64 (N + d)] w fun e w' => e = .returned (.tuple #[.agg #[.bool true, .bool false, .int .i64 ((N + d))], .bool false, .int .i64 0]) ∧ Ext w w') := k2
        have HV3 : Hid (∀ w, Calls Try.prog 10 #[.agg #[.bool true, .bool false, .int .i64 ((N + d))], .int .i64 9806650, .int .i64 (N + d)] w fun e w' => e = .returned (.tuple #[.agg #[.bool false, .bool false, .int .i64 0], .bool false, .int .i64 0]) ∧ Ext w w') := k3
        clear k1 k2 k3 e1 e2 e3 HA Bd Bx
        go_upto_region 7 with (first | (go_at_call_of 13 (Value.int IntKind.i64 zn); refine (HD.out _).mono ?_; rintro e wx ⟨rfl, hwx⟩; have hwy := hwx.symm; clear hwx; subst hwy))
        clear ed HD c4
        generalize N + d = M at *
        clear ea
        go_upto_region 8 with (first | (go_at_call_of 13 (Value.int IntKind.i64 zm); refine (HB.out _).mono ?_; rintro e wx ⟨rfl, hwx⟩; have hwy := hwx.symm; clear hwx; subst hwy))
        clear HB c3
        try rw [eh]
        clear eh ei
        generalize 2451662 + x = y at *
        have qa0 : wr.cell? ⟨w.heap.size, 0, none⟩ = some (.bool false) := Fa.out.c 0 rfl
        have qa1 : wr.cell? ⟨w.heap.size, 1, none⟩ = some (.bool false) := Fa.out.c 1 rfl
        have qa2 : wr.cell? ⟨w.heap.size, 2, none⟩ = some (.int .i64 0) := Fa.out.c 2 rfl
        go_upto_region 9 with (first | (go_at_call 10; refine (HT.out _).mono ?_; rintro e wq1 ⟨rfl, xq1⟩))
        have Fa : Hid (HV wq1 w.heap.size [.bool false, .bool false, .int .i64 0]) := Fa.out.ext xq1
        have Fb : Hid (HV wq1 (w.heap.size + 1) [.bool false, .bool false, .int .i64 0]) := Fb.out.ext xq1
        have FX : Hid (Ext w wq1) := FX.out.trans xq1
        clear qa0 qa1 qa2 xq1 HT
        have ltax : w.heap.size < wq1.heap.size := Fa.out.1
        have ltbx : (w.heap.size + 1) < wq1.heap.size := Fb.out.1
        have Lx : Hid (w.heap.size ≤ wq1.heap.size) := FX.out.size
        have Fa : Hid (HV (wq1.alloc (.cells #[.bool false, .bool false, .int .i64 0] 24)) w.heap.size [.bool false, .bool false, .int .i64 0]) := Fa.out.alloc _
        have Fb : Hid (HV (wq1.alloc (.cells #[.bool false, .bool false, .int .i64 0] 24)) (w.heap.size + 1) [.bool false, .bool false, .int .i64 0]) := Fb.out.alloc _
        have Fx : Hid (HV (wq1.alloc (.cells #[.bool false, .bool false, .int .i64 0] 24)) wq1.heap.size [.bool false, .bool false, .int .i64 0]) := hv_at rfl
        have FX : Hid (Ext w (wq1.alloc (.cells #[.bool false, .bool false, .int .i64 0] 24))) := FX.out.alloc _
        generalize (wq1.alloc (.cells #[.bool false, .bool false, .int .i64 0] 24)) = wx1 at *
        generalize wq1.heap.size = nx at *
        have qb0 : wx1.cell? ⟨(w.heap.size + 1), 0, none⟩ = some (.bool false) := Fb.out.c 0 rfl
        have qb1 : wx1.cell? ⟨(w.heap.size + 1), 1, none⟩ = some (.bool false) := Fb.out.c 1 rfl
        have qb2 : wx1.cell? ⟨(w.heap.size + 1), 2, none⟩ = some (.int .i64 0) := Fb.out.c 2 rfl
        go_upto_region 10 with (first | (go_at_call 10; refine (HU.out _).mono ?_; rintro e wq2 ⟨rfl, xq2⟩))
        have Fa : Hid (HV wq2 w.heap.size [.bool false, .bool false, .int .i64 0]) := Fa.out.ext xq2
        have Fb : Hid (HV wq2 (w.heap.size + 1) [.bool false, .bool false, .int .i64 0]) := Fb.out.ext xq2
        have Fx : Hid (HV wq2 nx [.bool false, .bool false, .int .i64 0]) := Fx.out.ext xq2
        have FX : Hid (Ext w wq2) := FX.out.trans xq2
        clear qb0 qb1 qb2 xq2 HU
        have ltay : w.heap.size < wq2.heap.size := Fa.out.1
        have ltby : (w.heap.size + 1) < wq2.heap.size := Fb.out.1
        have ltxy : nx < wq2.heap.size := Fx.out.1
        have Ly : Hid (w.heap.size ≤ wq2.heap.size) := FX.out.size
        have Fa : Hid (HV (wq2.alloc (.cells #[.bool true, .bool false, .int .i64 M] 24)) w.heap.size [.bool false, .bool false, .int .i64 0]) := Fa.out.alloc _
        have Fb : Hid (HV (wq2.alloc (.cells #[.bool true, .bool false, .int .i64 M] 24)) (w.heap.size + 1) [.bool false, .bool false, .int .i64 0]) := Fb.out.alloc _
        have Fx : Hid (HV (wq2.alloc (.cells #[.bool true, .bool false, .int .i64 M] 24)) nx [.bool false, .bool false, .int .i64 0]) := Fx.out.alloc _
        have Fy : Hid (HV (wq2.alloc (.cells #[.bool true, .bool false, .int .i64 M] 24)) wq2.heap.size [.bool true, .bool false, .int .i64 M]) := hv_at rfl
        have FX : Hid (Ext w (wq2.alloc (.cells #[.bool true, .bool false, .int .i64 M] 24))) := FX.out.alloc _
        generalize (wq2.alloc (.cells #[.bool true, .bool false, .int .i64 M] 24)) = wx2 at *
        generalize wq2.heap.size = ny at *
        have qy0 : wx2.cell? ⟨ny, 0, none⟩ = some (.bool true) := Fy.out.c 0 rfl
        have qy1 : wx2.cell? ⟨ny, 1, none⟩ = some (.bool false) := Fy.out.c 1 rfl
        have qy2 : wx2.cell? ⟨ny, 2, none⟩ = some (.int .i64 M) := Fy.out.c 2 rfl
        go_upto_region 11 with (first | (go_at_call 10; refine (HV3.out _).mono ?_; rintro e wq3 ⟨rfl, xq3⟩))
        have Fa : Hid (HV wq3 w.heap.size [.bool false, .bool false, .int .i64 0]) := Fa.out.ext xq3
        have Fb : Hid (HV wq3 (w.heap.size + 1) [.bool false, .bool false, .int .i64 0]) := Fb.out.ext xq3
        have Fx : Hid (HV wq3 nx [.bool false, .bool false, .int .i64 0]) := Fx.out.ext xq3
        have Fy : Hid (HV wq3 ny [.bool true, .bool false, .int .i64 M]) := Fy.out.ext xq3
        have FX : Hid (Ext w wq3) := FX.out.trans xq3
        clear qy0 qy1 qy2 xq3 HV3
        have ltav : w.heap.size < wq3.heap.size := Fa.out.1
        have ltbv : (w.heap.size + 1) < wq3.heap.size := Fb.out.1
        have ltxv : nx < wq3.heap.size := Fx.out.1
        have ltyv : ny < wq3.heap.size := Fy.out.1
        have Lv : Hid (w.heap.size ≤ wq3.heap.size) := FX.out.size
        have Fa : Hid (HV (wq3.alloc (.cells #[.bool false, .bool false, .int .i64 0] 24)) w.heap.size [.bool false, .bool false, .int .i64 0]) := Fa.out.alloc _
        have Fb : Hid (HV (wq3.alloc (.cells #[.bool false, .bool false, .int .i64 0] 24)) (w.heap.size + 1) [.bool false, .bool false, .int .i64 0]) := Fb.out.alloc _
        have Fx : Hid (HV (wq3.alloc (.cells #[.bool false, .bool false, .int .i64 0] 24)) nx [.bool false, .bool false, .int .i64 0]) := Fx.out.alloc _
        have Fy : Hid (HV (wq3.alloc (.cells #[.bool false, .bool false, .int .i64 0] 24)) ny [.bool true, .bool false, .int .i64 M]) := Fy.out.alloc _
        have Fv : Hid (HV (wq3.alloc (.cells #[.bool false, .bool false, .int .i64 0] 24)) wq3.heap.size [.bool false, .bool false, .int .i64 0]) := hv_at rfl
        have FX : Hid (Ext w (wq3.alloc (.cells #[.bool false, .bool false, .int .i64 0] 24))) := FX.out.alloc _
        generalize (wq3.alloc (.cells #[.bool false, .bool false, .int .i64 0] 24)) = wx3 at *
        generalize wq3.heap.size = nv at *
        have qv0 : wx3.cell? ⟨nv, 0, none⟩ = some (.bool false) := Fv.out.c 0 rfl
        have qv1 : wx3.cell? ⟨nv, 1, none⟩ = some (.bool false) := Fv.out.c 1 rfl
        have qv2 : wx3.cell? ⟨nv, 2, none⟩ = some (.int .i64 0) := Fv.out.c 2 rfl
        go_upto_region 13 with (first | (go_at_call 11; refine (num20_any _ _).mono ?_; rintro e wx ⟨rfl, hwx⟩; have hwy := hwx.symm; clear hwx; subst hwy))
        clear qv0 qv1 qv2
        have ya0 : wx3.cell? ⟨w.heap.size, 0, none⟩ = some (.bool false) := Fa.out.c 0 rfl
        have gya0 : wx3.frozen? ⟨w.heap.size, 0, none⟩ = false := Fa.out.f 0 rfl
        have ya1 : wx3.cell? ⟨w.heap.size, 1, none⟩ = some (.bool false) := Fa.out.c 1 rfl
        have gya1 : wx3.frozen? ⟨w.heap.size, 1, none⟩ = false := Fa.out.f 1 rfl
        have ya2 : wx3.cell? ⟨w.heap.size, 2, none⟩ = some (.int .i64 0) := Fa.out.c 2 rfl
        have gya2 : wx3.frozen? ⟨w.heap.size, 2, none⟩ = false := Fa.out.f 2 rfl
        have yb0 : wx3.cell? ⟨(w.heap.size + 1), 0, none⟩ = some (.bool false) := Fb.out.c 0 rfl
        have gyb0 : wx3.frozen? ⟨(w.heap.size + 1), 0, none⟩ = false := Fb.out.f 0 rfl
        have yb1 : wx3.cell? ⟨(w.heap.size + 1), 1, none⟩ = some (.bool false) := Fb.out.c 1 rfl
        have gyb1 : wx3.frozen? ⟨(w.heap.size + 1), 1, none⟩ = false := Fb.out.f 1 rfl
        have yb2 : wx3.cell? ⟨(w.heap.size + 1), 2, none⟩ = some (.int .i64 0) := Fb.out.c 2 rfl
        have gyb2 : wx3.frozen? ⟨(w.heap.size + 1), 2, none⟩ = false := Fb.out.f 2 rfl
        have qx0 : wx3.cell? ⟨nx, 0, none⟩ = some (.bool false) := Fx.out.c 0 rfl
        have qx1 : wx3.cell? ⟨nx, 1, none⟩ = some (.bool false) := Fx.out.c 1 rfl
        have qx2 : wx3.cell? ⟨nx, 2, none⟩ = some (.int .i64 0) := Fx.out.c 2 rfl
        have qv0 : wx3.cell? ⟨nv, 0, none⟩ = some (.bool false) := Fv.out.c 0 rfl
        have qv1 : wx3.cell? ⟨nv, 1, none⟩ = some (.bool false) := Fv.out.c 1 rfl
        have qv2 : wx3.cell? ⟨nv, 2, none⟩ = some (.int .i64 0) := Fv.out.c 2 rfl
        obtain ⟨nea, neb⟩ : w.heap.size ≠ w.heap.size + 1 ∧ w.heap.size + 1 ≠ w.heap.size := ⟨by omega, by omega⟩
        go_region
        all_goals
          go_wp2_with fail
          go_roundw
          case measure => simp [intOf]; omega
          case rel => first | exact ⟨k + 1, M, by omega, by go_num, rfl, HN, ((((((Fa.out.set 0 (.bool false)).set 1 (.bool false)).set 2 (.int .i64 0)).far (by omega)).far (by omega)).far (by omega)).drew, ((((((Fb.out.far (by omega)).far (by omega)).far (by omega)).set 0 (.bool false)).set 1 (.bool false)).set 2 (.int .i64 0)).drew, ((((((FX.out.set (p := ⟨w.heap.size, 0, none⟩) La.out _).set (p := ⟨w.heap.size, 1, none⟩) La.out _).set (p := ⟨w.heap.size, 2, none⟩) La.out _).set (p := ⟨(w.heap.size + 1), 0, none⟩) Lb.out _).set (p := ⟨(w.heap.size + 1), 1, none⟩) Lb.out _).set (p := ⟨(w.heap.size + 1), 2, none⟩) Lb.out _).drew⟩ | exact ⟨k + 1, M, by omega, by go_num, rfl, HN, ((((((Fa.out.far (by omega)).far (by omega)).far (by omega)).set 0 (.bool false)).set 1 (.bool false)).set 2 (.int .i64 0)).drew, ((((((Fb.out.set 0 (.bool false)).set 1 (.bool false)).set 2 (.int .i64 0)).far (by omega)).far (by omega)).far (by omega)).drew, ((((((FX.out.set (p := ⟨(w.heap.size + 1), 0, none⟩) Lb.out _).set (p := ⟨(w.heap.size + 1), 1, none⟩) Lb.out _).set (p := ⟨(w.heap.size + 1), 2, none⟩) Lb.out _).set (p := ⟨w.heap.size, 0, none⟩) La.out _).set (p := ⟨w.heap.size, 1, none⟩) La.out _).set (p := ⟨w.heap.size, 2, none⟩) La.out _).drew⟩
      · go_wp2_with fail
        refine (wakes20_any _).mono ?_
        rintro e w1 ⟨rfl, x1⟩
        have E1 : Ext w w1 := FX.out.trans x1
        go_wp2_with fail
        go_ret
        exact ⟨rfl, E1⟩
    · have hk' : k = len := by omega
      subst hk'
      go_wp2_with fail
      refine (wakes20_any _).mono ?_
      rintro e w1 ⟨rfl, x1⟩
      have E1 : Ext w w1 := FX.out.trans x1
      go_wp2_with fail
      go_ret
      exact ⟨rfl, E1⟩
set_option maxRecDepth 20000 in
set_option maxHeartbeats 4000000 in
theorem fallhigh_none (a : Option Addr) (cap : Nat) (w : World) :
    Calls Try.prog 5 #[.slice a 0 cap] w fun e w' => e = .returned (.bool true) ∧ Ext w w' := by
  go_enter Try.func5, Try.ntmps5
  go_wp2_with fail
  go_loopw [6] (fun i wr => i = .int .i64 0 ∧ Hid (Ext w wr)) (fun _ _ => 0)
  case atStart => exact ⟨rfl, ((Ext.refl _).alloc _).alloc _⟩
  case round =>
    obtain ⟨rfl, FX⟩ := hrel
    go_wp2_with fail
    refine (wakes20_any _).mono ?_
    rintro e w1 ⟨rfl, x1⟩
    have E1 : Ext w w1 := FX.out.trans x1
    go_wp2_with fail
    go_ret
    exact ⟨rfl, E1⟩
end Go.Proofs.Ytleiiiagdkcckaa
