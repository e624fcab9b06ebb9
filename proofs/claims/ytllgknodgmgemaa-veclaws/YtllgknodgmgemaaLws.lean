/- VecLaws. -/
import Derived.Test.YtllgknodgmgemaaLW1
namespace Go.Proofs.Ytllgknodgmgemaa
open Go.RowKit Go.Shelf

set_option maxHeartbeats 80000000 in
set_option maxRecDepth 20000 in
theorem laws_any (b off len cap : Nat) (Z : Nat → Nat → Int) (w : World) (hl : len ≤ maxLen) (hc : Twos3 w b off len Z) :
    Calls Try.prog 3 #[.slice (some ⟨b, off, none⟩) len cap] w fun e w' => e = .returned (.bool true) ∧ Ext w w' := by
  have hl' : len ≤ 9223372036854775807 := by unfold maxLen at hl; omega
  clear hl
  go_enter Try.func3, Try.ntmps3
  go_wp2_with fail
  go_loopw [3] (fun i wr => ∃ k : Nat, k ≤ len ∧ i = .int .i64 k ∧ Ext w wr) (fun i _ => len - (intOf i).toNat)
  case atStart => exact ⟨0, Nat.zero_le _, rfl, Ext.refl _⟩
  case round =>
    obtain ⟨k, hk, rfl, hx⟩ := hrel
    by_cases hlt : k < len
    · by_cases h20 : k < 20
      · have RW := (hc.ext hx).row16 hlt
        have hlt' : (k : Int) < (len : Int) := by omega
        generalize Z k 0 = a0 at *
        generalize Z k 1 = a1 at *
        generalize Z k 2 = a2 at *
        generalize Z k 3 = b0 at *
        generalize Z k 4 = b1 at *
        generalize Z k 5 = b2 at *
        generalize Z k 6 = kk at *
        generalize Z k 7 = m0 at *
        generalize Z k 8 = m1 at *
        generalize Z k 9 = m2 at *
        generalize Z k 10 = m3 at *
        generalize Z k 11 = m4 at *
        generalize Z k 12 = m5 at *
        generalize Z k 13 = m6 at *
        generalize Z k 14 = m7 at *
        generalize Z k 15 = m8 at *
        obtain ⟨z0, z1, z2, z3, z4, z5, z6, z7, z8, z9, z10, z11, z12, z13, z14, z15⟩ := RW
        go_wp2_with fail
        clear z0 z1 z2 z3 z4 z5 z6 z7 z8 z9 z10 z11 z12 z13 z14 z15
        have ba := fun v => brt_bounds 4294967296 v (by omega)
        have HVa : Hid (∀ w', Calls Try.prog 5 #[.agg #[.int .i64 a0, .int .i64 a1, .int .i64 a2], .int .i64 4294967296] w' fun e w'' => e = .returned (.agg #[.int .i64 (brt 4294967296 a0), .int .i64 (brt 4294967296 a1), .int .i64 (brt 4294967296 a2)]) ∧ Ext w' w'') := fun w' => brvec_4294967296 a0 a1 a2 w'
        have HVb : Hid (∀ w', Calls Try.prog 5 #[.agg #[.int .i64 b0, .int .i64 b1, .int .i64 b2], .int .i64 4294967296] w' fun e w'' => e = .returned (.agg #[.int .i64 (brt 4294967296 b0), .int .i64 (brt 4294967296 b1), .int .i64 (brt 4294967296 b2)]) ∧ Ext w' w'') := fun w' => brvec_4294967296 b0 b1 b2 w'
        have t0 : (brt 4294967296 a0).natAbs ≤ 4294967296 := by have := ba a0; omega
        have t1 : (brt 4294967296 a1).natAbs ≤ 4294967296 := by have := ba a1; omega
        have t2 : (brt 4294967296 a2).natAbs ≤ 4294967296 := by have := ba a2; omega
        have t3 : (brt 4294967296 b0).natAbs ≤ 4294967296 := by have := ba b0; omega
        have t4 : (brt 4294967296 b1).natAbs ≤ 4294967296 := by have := ba b1; omega
        have t5 : (brt 4294967296 b2).natAbs ≤ 4294967296 := by have := ba b2; omega
        clear ba
        generalize brt 4294967296 a0 = p0 at *
        generalize brt 4294967296 a1 = p1 at *
        generalize brt 4294967296 a2 = p2 at *
        generalize brt 4294967296 b0 = r0 at *
        generalize brt 4294967296 b1 = r1 at *
        generalize brt 4294967296 b2 = r2 at *
        obtain ⟨x, c0, c1, c2, d0, d1, d2, o, o1, o2, HX, HY, HC, HD, HZ, HN, HO, HI⟩ := laws_facts p0 p1 p2 r0 r1 r2 t0 t1 t2 t3 t4 t5
        have o1' : ¬ o < -16 := by omega
        have o2' : ¬ 16 < o := by omega
        have okp : ok3 p0 p1 p2 = true := ok3_small (by omega) (by omega) (by omega)
        clear t0 t1 t2 t3 t4 t5 o1 o2
        by_cases h0 : p0 = 0
        · subst h0
          by_cases h1 : p1 = 0
          · subst h1
            by_cases h2 : p2 = 0
            · subst h2
              clear okp
              go_wp2_with fail
              refine (HVa.out _).mono ?_
              rintro e w1 ⟨rfl, xw1⟩
              have FP_1 : Hid (P16 w1 wr.heap.size a0 a1 a2 b0 b1 b2 kk m0 m1 m2 m3 m4 m5 m6 m7 m8) := (p16_at rfl).ext xw1
              have E1 : Ext w w1 := Ext.trans (Ext.alloc hx _) xw1
              clear xw1
              have dp0 := fun p0 => (P16.alloc (FP_1.out) p0).1
              have dp1 := fun p0 => (P16.alloc (FP_1.out) p0).2.1
              have dp2 := fun p0 => (P16.alloc (FP_1.out) p0).2.2.1
              have dp3 := fun p0 => (P16.alloc (FP_1.out) p0).2.2.2.1
              have dp4 := fun p0 => (P16.alloc (FP_1.out) p0).2.2.2.2.1
              have dp5 := fun p0 => (P16.alloc (FP_1.out) p0).2.2.2.2.2.1
              have dp6 := fun p0 => (P16.alloc (FP_1.out) p0).2.2.2.2.2.2.1
              have dp7 := fun p0 => (P16.alloc (FP_1.out) p0).2.2.2.2.2.2.2.1
              have dp8 := fun p0 => (P16.alloc (FP_1.out) p0).2.2.2.2.2.2.2.2.1
              have dp9 := fun p0 => (P16.alloc (FP_1.out) p0).2.2.2.2.2.2.2.2.2.1
              have dp10 := fun p0 => (P16.alloc (FP_1.out) p0).2.2.2.2.2.2.2.2.2.2.1
              have dp11 := fun p0 => (P16.alloc (FP_1.out) p0).2.2.2.2.2.2.2.2.2.2.2.1
              have dp12 := fun p0 => (P16.alloc (FP_1.out) p0).2.2.2.2.2.2.2.2.2.2.2.2.1
              have dp13 := fun p0 => (P16.alloc (FP_1.out) p0).2.2.2.2.2.2.2.2.2.2.2.2.2.1
              have dp14 := fun p0 => (P16.alloc (FP_1.out) p0).2.2.2.2.2.2.2.2.2.2.2.2.2.2.1
              have dp15 := fun p0 => (P16.alloc (FP_1.out) p0).2.2.2.2.2.2.2.2.2.2.2.2.2.2.2.1
              go_wp2_with fail
              refine (HVb.out _).mono ?_
              rintro e w2 ⟨rfl, xw2⟩
              have Fa_2 : Hid (H3 w2 (w1.heap.size) (.int .i64 0) (.int .i64 0) (.int .i64 0)) := (h3_at rfl).ext xw2
              have FP_2 : Hid (P16 w2 wr.heap.size a0 a1 a2 b0 b1 b2 kk m0 m1 m2 m3 m4 m5 m6 m7 m8) := (P16.alloc (FP_1.out) _).ext xw2
              have E2 : Ext w w2 := Ext.trans (Ext.alloc (E1) _) xw2
              clear xw2 E1 FP_1 dp0 dp1 dp2 dp3 dp4 dp5 dp6 dp7 dp8 dp9 dp10 dp11 dp12 dp13 dp14 dp15
              have da0 := fun p0 => (H3.alloc (Fa_2.out) p0).1
              have da1 := fun p0 => (H3.alloc (Fa_2.out) p0).2.1
              have da2 := fun p0 => (H3.alloc (Fa_2.out) p0).2.2.1
              go_wp2_with fail
              refine (HX.out _).mono ?_
              rintro e w3 ⟨rfl, xw3⟩
              have Fa_3 : Hid (H3 w3 (w1.heap.size) (.int .i64 0) (.int .i64 0) (.int .i64 0)) := (H3.alloc (Fa_2.out) _).ext xw3
              have Fb_3 : Hid (H3 w3 (w2.heap.size) (.int .i64 r0) (.int .i64 r1) (.int .i64 r2)) := (h3_at rfl).ext xw3
              have FP_3 : Hid (P16 w3 wr.heap.size a0 a1 a2 b0 b1 b2 kk m0 m1 m2 m3 m4 m5 m6 m7 m8) := (P16.alloc (FP_2.out) _).ext xw3
              have E3 : Ext w w3 := Ext.trans (Ext.alloc (E2) _) xw3
              clear xw3 E2 FP_2 Fa_2 da0 da1 da2
              obtain ⟨ca0, ca1, ca2, ca3, ca4, ca5, ca6⟩ := Fa_3.out
              obtain ⟨cb0, cb1, cb2, cb3, cb4, cb5, cb6⟩ := Fb_3.out
              go_wp2_with fail
              refine (HY.out _).mono ?_
              rintro e w4 ⟨rfl, xw4⟩
              have Fa_4 : Hid (H3 w4 (w1.heap.size) (.int .i64 0) (.int .i64 0) (.int .i64 0)) := (Fa_3.out).ext xw4
              have Fb_4 : Hid (H3 w4 (w2.heap.size) (.int .i64 r0) (.int .i64 r1) (.int .i64 r2)) := (Fb_3.out).ext xw4
              have FP_4 : Hid (P16 w4 wr.heap.size a0 a1 a2 b0 b1 b2 kk m0 m1 m2 m3 m4 m5 m6 m7 m8) := (FP_3.out).ext xw4
              have E4 : Ext w w4 := Ext.trans (E3) xw4
              clear xw4 E3 FP_3 Fa_3 Fb_3 ca0 ca1 ca2 ca3 ca4 ca5 ca6 cb0 cb1 cb2 cb3 cb4 cb5 cb6
              obtain ⟨ca0, ca1, ca2, ca3, ca4, ca5, ca6⟩ := Fa_4.out
              obtain ⟨cb0, cb1, cb2, cb3, cb4, cb5, cb6⟩ := Fb_4.out
              go_wp2_with fail
              refine (HC.out _).mono ?_
              rintro e w5 ⟨rfl, xw5⟩
              have Fa_5 : Hid (H3 w5 (w1.heap.size) (.int .i64 0) (.int .i64 0) (.int .i64 0)) := (Fa_4.out).ext xw5
              have Fb_5 : Hid (H3 w5 (w2.heap.size) (.int .i64 r0) (.int .i64 r1) (.int .i64 r2)) := (Fb_4.out).ext xw5
              have FP_5 : Hid (P16 w5 wr.heap.size a0 a1 a2 b0 b1 b2 kk m0 m1 m2 m3 m4 m5 m6 m7 m8) := (FP_4.out).ext xw5
              have E5 : Ext w w5 := Ext.trans (E4) xw5
              clear xw5 E4 FP_4 Fa_4 Fb_4 ca0 ca1 ca2 ca3 ca4 ca5 ca6 cb0 cb1 cb2 cb3 cb4 cb5 cb6
              have da0 := fun p0 => (H3.alloc (Fa_5.out) p0).1
              have da1 := fun p0 => (H3.alloc (Fa_5.out) p0).2.1
              have da2 := fun p0 => (H3.alloc (Fa_5.out) p0).2.2.1
              have db0 := fun p0 => (H3.alloc (Fb_5.out) p0).1
              have db1 := fun p0 => (H3.alloc (Fb_5.out) p0).2.1
              have db2 := fun p0 => (H3.alloc (Fb_5.out) p0).2.2.1
              go_wp2_with fail
              refine (HD.out _).mono ?_
              rintro e w6 ⟨rfl, xw6⟩
              have Fa_6 : Hid (H3 w6 (w1.heap.size) (.int .i64 0) (.int .i64 0) (.int .i64 0)) := (H3.alloc (Fa_5.out) _).ext xw6
              have Fb_6 : Hid (H3 w6 (w2.heap.size) (.int .i64 r0) (.int .i64 r1) (.int .i64 r2)) := (H3.alloc (Fb_5.out) _).ext xw6
              have Fc_6 : Hid (H3 w6 (w5.heap.size) (.int .i64 c0) (.int .i64 c1) (.int .i64 c2)) := (h3_at rfl).ext xw6
              have FP_6 : Hid (P16 w6 wr.heap.size a0 a1 a2 b0 b1 b2 kk m0 m1 m2 m3 m4 m5 m6 m7 m8) := (P16.alloc (FP_5.out) _).ext xw6
              have E6 : Ext w w6 := Ext.trans (Ext.alloc (E5) _) xw6
              clear xw6 E5 FP_5 Fa_5 Fb_5 da0 da1 da2 db0 db1 db2
              have da0 := fun p0 => (H3.alloc (Fa_6.out) p0).1
              have da1 := fun p0 => (H3.alloc (Fa_6.out) p0).2.1
              have da2 := fun p0 => (H3.alloc (Fa_6.out) p0).2.2.1
              go_wp2_with fail
              refine (HZ.out _).mono ?_
              rintro e w7 ⟨rfl, xw7⟩
              have Fa_7 : Hid (H3 w7 (w1.heap.size) (.int .i64 0) (.int .i64 0) (.int .i64 0)) := (H3.alloc (Fa_6.out) _).ext xw7
              have Fc_7 : Hid (H3 w7 (w5.heap.size) (.int .i64 c0) (.int .i64 c1) (.int .i64 c2)) := (H3.alloc (Fc_6.out) _).ext xw7
              have Fd_7 : Hid (H3 w7 (w6.heap.size) (.int .i64 d0) (.int .i64 d1) (.int .i64 d2)) := (h3_at rfl).ext xw7
              have FP_7 : Hid (P16 w7 wr.heap.size a0 a1 a2 b0 b1 b2 kk m0 m1 m2 m3 m4 m5 m6 m7 m8) := (P16.alloc (FP_6.out) _).ext xw7
              have E7 : Ext w w7 := Ext.trans (Ext.alloc (E6) _) xw7
              clear xw7 E6 FP_6 Fa_6 Fb_6 Fc_6 da0 da1 da2
              have dd0 := fun p0 => (H3.alloc (Fd_7.out) p0).1
              have dd1 := fun p0 => (H3.alloc (Fd_7.out) p0).2.1
              have dd2 := fun p0 => (H3.alloc (Fd_7.out) p0).2.2.1
              go_wp2_with fail
              refine (HN.out _).mono ?_
              rintro e w8 ⟨rfl, xw8⟩
              have Fa_8 : Hid (H3 w8 (w1.heap.size) (.int .i64 0) (.int .i64 0) (.int .i64 0)) := (H3.alloc (Fa_7.out) _).ext xw8
              have Fc_8 : Hid (H3 w8 (w5.heap.size) (.int .i64 c0) (.int .i64 c1) (.int .i64 c2)) := (H3.alloc (Fc_7.out) _).ext xw8
              have Fd_8 : Hid (H3 w8 (w6.heap.size) (.int .i64 d0) (.int .i64 d1) (.int .i64 d2)) := (H3.alloc (Fd_7.out) _).ext xw8
              have Fz_8 : Hid (H3 w8 (w7.heap.size) (.int .i64 0) (.int .i64 0) (.int .i64 0)) := (h3_at rfl).ext xw8
              have FP_8 : Hid (P16 w8 wr.heap.size a0 a1 a2 b0 b1 b2 kk m0 m1 m2 m3 m4 m5 m6 m7 m8) := (P16.alloc (FP_7.out) _).ext xw8
              have E8 : Ext w w8 := Ext.trans (Ext.alloc (E7) _) xw8
              clear xw8 E7 FP_7 Fa_7 Fc_7 Fd_7 dd0 dd1 dd2
              have da0 := fun p0 => (H3.alloc (Fa_8.out) p0).1
              have da1 := fun p0 => (H3.alloc (Fa_8.out) p0).2.1
              have da2 := fun p0 => (H3.alloc (Fa_8.out) p0).2.2.1
              have dc0 := fun p0 => (H3.alloc (Fc_8.out) p0).1
              have dc1 := fun p0 => (H3.alloc (Fc_8.out) p0).2.1
              have dc2 := fun p0 => (H3.alloc (Fc_8.out) p0).2.2.1
              have dz0 := fun p0 => (H3.alloc (Fz_8.out) p0).1
              have dz1 := fun p0 => (H3.alloc (Fz_8.out) p0).2.1
              have dz2 := fun p0 => (H3.alloc (Fz_8.out) p0).2.2.1
              go_wp2_with (go_at_call 9; refine (num3_any _ _).mono ?_; rintro e wx ⟨rfl, hwx⟩; have hwy := hwx.symm; clear hwx; subst hwy)
              refine (HO.out _).mono ?_
              rintro e w9 ⟨rfl, xw9⟩
              have Fa_9 : Hid (H3 w9 (w1.heap.size) (.int .i64 0) (.int .i64 0) (.int .i64 0)) := (H3.alloc (Fa_8.out) _).ext xw9
              have Fc_9 : Hid (H3 w9 (w5.heap.size) (.int .i64 c0) (.int .i64 c1) (.int .i64 c2)) := (H3.alloc (Fc_8.out) _).ext xw9
              have Fz_9 : Hid (H3 w9 (w7.heap.size) (.int .i64 0) (.int .i64 0) (.int .i64 0)) := (H3.alloc (Fz_8.out) _).ext xw9
              have Fn_9 : Hid (H3 w9 (w8.heap.size) (.int .i64 c0) (.int .i64 c1) (.int .i64 c2)) := (h3_at rfl).ext xw9
              have FP_9 : Hid (P16 w9 wr.heap.size a0 a1 a2 b0 b1 b2 kk m0 m1 m2 m3 m4 m5 m6 m7 m8) := (P16.alloc (FP_8.out) _).ext xw9
              have E9 : Ext w w9 := Ext.trans (Ext.alloc (E8) _) xw9
              clear xw9 E8 FP_8 Fa_8 Fc_8 Fd_8 Fz_8 da0 da1 da2 dc0 dc1 dc2 dz0 dz1 dz2
              obtain ⟨ca0, ca1, ca2, ca3, ca4, ca5, ca6⟩ := Fa_9.out
              go_wp2_with (go_at_call 9; refine (num3_any _ _).mono ?_; rintro e wx ⟨rfl, hwx⟩; have hwy := hwx.symm; clear hwx; subst hwy)
              refine (HI.out _).mono ?_
              rintro e w10 ⟨rfl, xw10⟩
              have Fa_10 : Hid (H3 w10 (w1.heap.size) (.int .i64 0) (.int .i64 0) (.int .i64 0)) := (Fa_9.out).ext xw10
              have FP_10 : Hid (P16 w10 wr.heap.size a0 a1 a2 b0 b1 b2 kk m0 m1 m2 m3 m4 m5 m6 m7 m8) := (FP_9.out).ext xw10
              have E10 : Ext w w10 := Ext.trans (E9) xw10
              clear xw10 E9 FP_9 Fa_9 Fc_9 Fz_9 Fn_9 ca0 ca1 ca2 ca3 ca4 ca5 ca6
              have da0 := fun p0 => (H3.alloc (Fa_10.out) p0).1
              have da1 := fun p0 => (H3.alloc (Fa_10.out) p0).2.1
              have da2 := fun p0 => (H3.alloc (Fa_10.out) p0).2.2.1
              go_wp2_with (go_at_call 9; refine (num3_any _ _).mono ?_; rintro e wx ⟨rfl, hwx⟩; have hwy := hwx.symm; clear hwx; subst hwy)
              go_roundw
              case rel => exact ⟨k + 1, by omega, by go_num, E10.alloc _⟩
              case measure => simp [intOf]; omega
            · have hb : (p2 == 0) = false := by rw [beq_eq_false_iff_ne]; exact h2
              obtain ⟨u0, u1, u2, hu, HU⟩ := unit_is _ _ _ okp (fun h => h2 h.2.2)
              obtain ⟨m, m1, m2, HM⟩ := norm_unit u0 u1 u2 hu
              have m1' : ¬ 1073741825 < m := by omega
              have m2' : ¬ m < 1073741823 := by omega
              clear hu m1 m2 okp
              clear h2
              go_wp2_with fail
              refine (HVa.out _).mono ?_
              rintro e w1 ⟨rfl, xw1⟩
              have FP_1 : Hid (P16 w1 wr.heap.size a0 a1 a2 b0 b1 b2 kk m0 m1 m2 m3 m4 m5 m6 m7 m8) := (p16_at rfl).ext xw1
              have E1 : Ext w w1 := Ext.trans (Ext.alloc hx _) xw1
              clear xw1
              have dp0 := fun p0 => (P16.alloc (FP_1.out) p0).1
              have dp1 := fun p0 => (P16.alloc (FP_1.out) p0).2.1
              have dp2 := fun p0 => (P16.alloc (FP_1.out) p0).2.2.1
              have dp3 := fun p0 => (P16.alloc (FP_1.out) p0).2.2.2.1
              have dp4 := fun p0 => (P16.alloc (FP_1.out) p0).2.2.2.2.1
              have dp5 := fun p0 => (P16.alloc (FP_1.out) p0).2.2.2.2.2.1
              have dp6 := fun p0 => (P16.alloc (FP_1.out) p0).2.2.2.2.2.2.1
              have dp7 := fun p0 => (P16.alloc (FP_1.out) p0).2.2.2.2.2.2.2.1
              have dp8 := fun p0 => (P16.alloc (FP_1.out) p0).2.2.2.2.2.2.2.2.1
              have dp9 := fun p0 => (P16.alloc (FP_1.out) p0).2.2.2.2.2.2.2.2.2.1
              have dp10 := fun p0 => (P16.alloc (FP_1.out) p0).2.2.2.2.2.2.2.2.2.2.1
              have dp11 := fun p0 => (P16.alloc (FP_1.out) p0).2.2.2.2.2.2.2.2.2.2.2.1
              have dp12 := fun p0 => (P16.alloc (FP_1.out) p0).2.2.2.2.2.2.2.2.2.2.2.2.1
              have dp13 := fun p0 => (P16.alloc (FP_1.out) p0).2.2.2.2.2.2.2.2.2.2.2.2.2.1
              have dp14 := fun p0 => (P16.alloc (FP_1.out) p0).2.2.2.2.2.2.2.2.2.2.2.2.2.2.1
              have dp15 := fun p0 => (P16.alloc (FP_1.out) p0).2.2.2.2.2.2.2.2.2.2.2.2.2.2.2.1
              go_wp2_with fail
              refine (HVb.out _).mono ?_
              rintro e w2 ⟨rfl, xw2⟩
              have Fa_2 : Hid (H3 w2 (w1.heap.size) (.int .i64 0) (.int .i64 0) (.int .i64 p2)) := (h3_at rfl).ext xw2
              have FP_2 : Hid (P16 w2 wr.heap.size a0 a1 a2 b0 b1 b2 kk m0 m1 m2 m3 m4 m5 m6 m7 m8) := (P16.alloc (FP_1.out) _).ext xw2
              have E2 : Ext w w2 := Ext.trans (Ext.alloc (E1) _) xw2
              clear xw2 E1 FP_1 dp0 dp1 dp2 dp3 dp4 dp5 dp6 dp7 dp8 dp9 dp10 dp11 dp12 dp13 dp14 dp15
              have da0 := fun p0 => (H3.alloc (Fa_2.out) p0).1
              have da1 := fun p0 => (H3.alloc (Fa_2.out) p0).2.1
              have da2 := fun p0 => (H3.alloc (Fa_2.out) p0).2.2.1
              go_wp2_with fail
              refine (HX.out _).mono ?_
              rintro e w3 ⟨rfl, xw3⟩
              have Fa_3 : Hid (H3 w3 (w1.heap.size) (.int .i64 0) (.int .i64 0) (.int .i64 p2)) := (H3.alloc (Fa_2.out) _).ext xw3
              have Fb_3 : Hid (H3 w3 (w2.heap.size) (.int .i64 r0) (.int .i64 r1) (.int .i64 r2)) := (h3_at rfl).ext xw3
              have FP_3 : Hid (P16 w3 wr.heap.size a0 a1 a2 b0 b1 b2 kk m0 m1 m2 m3 m4 m5 m6 m7 m8) := (P16.alloc (FP_2.out) _).ext xw3
              have E3 : Ext w w3 := Ext.trans (Ext.alloc (E2) _) xw3
              clear xw3 E2 FP_2 Fa_2 da0 da1 da2
              obtain ⟨ca0, ca1, ca2, ca3, ca4, ca5, ca6⟩ := Fa_3.out
              obtain ⟨cb0, cb1, cb2, cb3, cb4, cb5, cb6⟩ := Fb_3.out
              go_wp2_with fail
              refine (HY.out _).mono ?_
              rintro e w4 ⟨rfl, xw4⟩
              have Fa_4 : Hid (H3 w4 (w1.heap.size) (.int .i64 0) (.int .i64 0) (.int .i64 p2)) := (Fa_3.out).ext xw4
              have Fb_4 : Hid (H3 w4 (w2.heap.size) (.int .i64 r0) (.int .i64 r1) (.int .i64 r2)) := (Fb_3.out).ext xw4
              have FP_4 : Hid (P16 w4 wr.heap.size a0 a1 a2 b0 b1 b2 kk m0 m1 m2 m3 m4 m5 m6 m7 m8) := (FP_3.out).ext xw4
              have E4 : Ext w w4 := Ext.trans (E3) xw4
              clear xw4 E3 FP_3 Fa_3 Fb_3 ca0 ca1 ca2 ca3 ca4 ca5 ca6 cb0 cb1 cb2 cb3 cb4 cb5 cb6
              obtain ⟨ca0, ca1, ca2, ca3, ca4, ca5, ca6⟩ := Fa_4.out
              obtain ⟨cb0, cb1, cb2, cb3, cb4, cb5, cb6⟩ := Fb_4.out
              go_wp2_with fail
              refine (HC.out _).mono ?_
              rintro e w5 ⟨rfl, xw5⟩
              have Fa_5 : Hid (H3 w5 (w1.heap.size) (.int .i64 0) (.int .i64 0) (.int .i64 p2)) := (Fa_4.out).ext xw5
              have Fb_5 : Hid (H3 w5 (w2.heap.size) (.int .i64 r0) (.int .i64 r1) (.int .i64 r2)) := (Fb_4.out).ext xw5
              have FP_5 : Hid (P16 w5 wr.heap.size a0 a1 a2 b0 b1 b2 kk m0 m1 m2 m3 m4 m5 m6 m7 m8) := (FP_4.out).ext xw5
              have E5 : Ext w w5 := Ext.trans (E4) xw5
              clear xw5 E4 FP_4 Fa_4 Fb_4 ca0 ca1 ca2 ca3 ca4 ca5 ca6 cb0 cb1 cb2 cb3 cb4 cb5 cb6
              have da0 := fun p0 => (H3.alloc (Fa_5.out) p0).1
              have da1 := fun p0 => (H3.alloc (Fa_5.out) p0).2.1
              have da2 := fun p0 => (H3.alloc (Fa_5.out) p0).2.2.1
              have db0 := fun p0 => (H3.alloc (Fb_5.out) p0).1
              have db1 := fun p0 => (H3.alloc (Fb_5.out) p0).2.1
              have db2 := fun p0 => (H3.alloc (Fb_5.out) p0).2.2.1
              go_wp2_with fail
              refine (HD.out _).mono ?_
              rintro e w6 ⟨rfl, xw6⟩
              have Fa_6 : Hid (H3 w6 (w1.heap.size) (.int .i64 0) (.int .i64 0) (.int .i64 p2)) := (H3.alloc (Fa_5.out) _).ext xw6
              have Fb_6 : Hid (H3 w6 (w2.heap.size) (.int .i64 r0) (.int .i64 r1) (.int .i64 r2)) := (H3.alloc (Fb_5.out) _).ext xw6
              have Fc_6 : Hid (H3 w6 (w5.heap.size) (.int .i64 c0) (.int .i64 c1) (.int .i64 c2)) := (h3_at rfl).ext xw6
              have FP_6 : Hid (P16 w6 wr.heap.size a0 a1 a2 b0 b1 b2 kk m0 m1 m2 m3 m4 m5 m6 m7 m8) := (P16.alloc (FP_5.out) _).ext xw6
              have E6 : Ext w w6 := Ext.trans (Ext.alloc (E5) _) xw6
              clear xw6 E5 FP_5 Fa_5 Fb_5 da0 da1 da2 db0 db1 db2
              have da0 := fun p0 => (H3.alloc (Fa_6.out) p0).1
              have da1 := fun p0 => (H3.alloc (Fa_6.out) p0).2.1
              have da2 := fun p0 => (H3.alloc (Fa_6.out) p0).2.2.1
              go_wp2_with fail
              refine (HZ.out _).mono ?_
              rintro e w7 ⟨rfl, xw7⟩
              have Fa_7 : Hid (H3 w7 (w1.heap.size) (.int .i64 0) (.int .i64 0) (.int .i64 p2)) := (H3.alloc (Fa_6.out) _).ext xw7
              have Fc_7 : Hid (H3 w7 (w5.heap.size) (.int .i64 c0) (.int .i64 c1) (.int .i64 c2)) := (H3.alloc (Fc_6.out) _).ext xw7
              have Fd_7 : Hid (H3 w7 (w6.heap.size) (.int .i64 d0) (.int .i64 d1) (.int .i64 d2)) := (h3_at rfl).ext xw7
              have FP_7 : Hid (P16 w7 wr.heap.size a0 a1 a2 b0 b1 b2 kk m0 m1 m2 m3 m4 m5 m6 m7 m8) := (P16.alloc (FP_6.out) _).ext xw7
              have E7 : Ext w w7 := Ext.trans (Ext.alloc (E6) _) xw7
              clear xw7 E6 FP_6 Fa_6 Fb_6 Fc_6 da0 da1 da2
              have dd0 := fun p0 => (H3.alloc (Fd_7.out) p0).1
              have dd1 := fun p0 => (H3.alloc (Fd_7.out) p0).2.1
              have dd2 := fun p0 => (H3.alloc (Fd_7.out) p0).2.2.1
              go_wp2_with fail
              refine (HN.out _).mono ?_
              rintro e w8 ⟨rfl, xw8⟩
              have Fa_8 : Hid (H3 w8 (w1.heap.size) (.int .i64 0) (.int .i64 0) (.int .i64 p2)) := (H3.alloc (Fa_7.out) _).ext xw8
              have Fc_8 : Hid (H3 w8 (w5.heap.size) (.int .i64 c0) (.int .i64 c1) (.int .i64 c2)) := (H3.alloc (Fc_7.out) _).ext xw8
              have Fd_8 : Hid (H3 w8 (w6.heap.size) (.int .i64 d0) (.int .i64 d1) (.int .i64 d2)) := (H3.alloc (Fd_7.out) _).ext xw8
              have Fz_8 : Hid (H3 w8 (w7.heap.size) (.int .i64 0) (.int .i64 0) (.int .i64 0)) := (h3_at rfl).ext xw8
              have FP_8 : Hid (P16 w8 wr.heap.size a0 a1 a2 b0 b1 b2 kk m0 m1 m2 m3 m4 m5 m6 m7 m8) := (P16.alloc (FP_7.out) _).ext xw8
              have E8 : Ext w w8 := Ext.trans (Ext.alloc (E7) _) xw8
              clear xw8 E7 FP_7 Fa_7 Fc_7 Fd_7 dd0 dd1 dd2
              have da0 := fun p0 => (H3.alloc (Fa_8.out) p0).1
              have da1 := fun p0 => (H3.alloc (Fa_8.out) p0).2.1
              have da2 := fun p0 => (H3.alloc (Fa_8.out) p0).2.2.1
              have dc0 := fun p0 => (H3.alloc (Fc_8.out) p0).1
              have dc1 := fun p0 => (H3.alloc (Fc_8.out) p0).2.1
              have dc2 := fun p0 => (H3.alloc (Fc_8.out) p0).2.2.1
              have dz0 := fun p0 => (H3.alloc (Fz_8.out) p0).1
              have dz1 := fun p0 => (H3.alloc (Fz_8.out) p0).2.1
              have dz2 := fun p0 => (H3.alloc (Fz_8.out) p0).2.2.1
              go_wp2_with (go_at_call 9; refine (num3_any _ _).mono ?_; rintro e wx ⟨rfl, hwx⟩; have hwy := hwx.symm; clear hwx; subst hwy)
              refine (HO.out _).mono ?_
              rintro e w9 ⟨rfl, xw9⟩
              have Fa_9 : Hid (H3 w9 (w1.heap.size) (.int .i64 0) (.int .i64 0) (.int .i64 p2)) := (H3.alloc (Fa_8.out) _).ext xw9
              have Fc_9 : Hid (H3 w9 (w5.heap.size) (.int .i64 c0) (.int .i64 c1) (.int .i64 c2)) := (H3.alloc (Fc_8.out) _).ext xw9
              have Fz_9 : Hid (H3 w9 (w7.heap.size) (.int .i64 0) (.int .i64 0) (.int .i64 0)) := (H3.alloc (Fz_8.out) _).ext xw9
              have Fn_9 : Hid (H3 w9 (w8.heap.size) (.int .i64 c0) (.int .i64 c1) (.int .i64 c2)) := (h3_at rfl).ext xw9
              have FP_9 : Hid (P16 w9 wr.heap.size a0 a1 a2 b0 b1 b2 kk m0 m1 m2 m3 m4 m5 m6 m7 m8) := (P16.alloc (FP_8.out) _).ext xw9
              have E9 : Ext w w9 := Ext.trans (Ext.alloc (E8) _) xw9
              clear xw9 E8 FP_8 Fa_8 Fc_8 Fd_8 Fz_8 da0 da1 da2 dc0 dc1 dc2 dz0 dz1 dz2
              obtain ⟨ca0, ca1, ca2, ca3, ca4, ca5, ca6⟩ := Fa_9.out
              go_wp2_with (go_at_call 9; refine (num3_any _ _).mono ?_; rintro e wx ⟨rfl, hwx⟩; have hwy := hwx.symm; clear hwx; subst hwy)
              refine (HI.out _).mono ?_
              rintro e w10 ⟨rfl, xw10⟩
              have Fa_10 : Hid (H3 w10 (w1.heap.size) (.int .i64 0) (.int .i64 0) (.int .i64 p2)) := (Fa_9.out).ext xw10
              have FP_10 : Hid (P16 w10 wr.heap.size a0 a1 a2 b0 b1 b2 kk m0 m1 m2 m3 m4 m5 m6 m7 m8) := (FP_9.out).ext xw10
              have E10 : Ext w w10 := Ext.trans (E9) xw10
              clear xw10 E9 FP_9 Fa_9 Fc_9 Fz_9 Fn_9 ca0 ca1 ca2 ca3 ca4 ca5 ca6
              have da0 := fun p0 => (H3.alloc (Fa_10.out) p0).1
              have da1 := fun p0 => (H3.alloc (Fa_10.out) p0).2.1
              have da2 := fun p0 => (H3.alloc (Fa_10.out) p0).2.2.1
              go_wp2_with (go_at_call 9; refine (num3_any _ _).mono ?_; rintro e wx ⟨rfl, hwx⟩; have hwy := hwx.symm; clear hwx; subst hwy)
              refine (HU.out _).mono ?_
              rintro e w11 ⟨rfl, xw11⟩
              have Fa_11 : Hid (H3 w11 (w1.heap.size) (.int .i64 0) (.int .i64 0) (.int .i64 p2)) := (H3.alloc (Fa_10.out) _).ext xw11
              have Fs_11 : Hid (H3 w11 (w10.heap.size) (.int .i64 0) (.int .i64 0) (.int .i64 p2)) := (h3_at rfl).ext xw11
              have FP_11 : Hid (P16 w11 wr.heap.size a0 a1 a2 b0 b1 b2 kk m0 m1 m2 m3 m4 m5 m6 m7 m8) := (P16.alloc (FP_10.out) _).ext xw11
              have E11 : Ext w w11 := Ext.trans (Ext.alloc (E10) _) xw11
              clear xw11 E10 FP_10 Fa_10 da0 da1 da2
              go_wp2_with fail
              refine (HM.out _).mono ?_
              rintro e w12 ⟨rfl, xw12⟩
              have Fu_12 : Hid (H3 w12 (w11.heap.size) (.int .i64 u0) (.int .i64 u1) (.int .i64 u2)) := (h3_at rfl).ext xw12
              have FP_12 : Hid (P16 w12 wr.heap.size a0 a1 a2 b0 b1 b2 kk m0 m1 m2 m3 m4 m5 m6 m7 m8) := (P16.alloc (FP_11.out) _).ext xw12
              have E12 : Ext w w12 := Ext.trans (Ext.alloc (E11) _) xw12
              clear xw12 E11 FP_11 Fa_11 Fs_11
              go_wp2_with (go_at_call 9; refine (num3_any _ _).mono ?_; rintro e wx ⟨rfl, hwx⟩; have hwy := hwx.symm; clear hwx; subst hwy)
              go_roundw
              case rel => exact ⟨k + 1, by omega, by go_num, E12⟩
              case measure => simp [intOf]; omega
          · have hb : (p1 == 0) = false := by rw [beq_eq_false_iff_ne]; exact h1
            obtain ⟨u0, u1, u2, hu, HU⟩ := unit_is _ _ _ okp (fun h => h1 h.2.1)
            obtain ⟨m, m1, m2, HM⟩ := norm_unit u0 u1 u2 hu
            have m1' : ¬ 1073741825 < m := by omega
            have m2' : ¬ m < 1073741823 := by omega
            clear hu m1 m2 okp
            clear h1
            go_wp2_with fail
            refine (HVa.out _).mono ?_
            rintro e w1 ⟨rfl, xw1⟩
            have FP_1 : Hid (P16 w1 wr.heap.size a0 a1 a2 b0 b1 b2 kk m0 m1 m2 m3 m4 m5 m6 m7 m8) := (p16_at rfl).ext xw1
            have E1 : Ext w w1 := Ext.trans (Ext.alloc hx _) xw1
            clear xw1
            have dp0 := fun p0 => (P16.alloc (FP_1.out) p0).1
            have dp1 := fun p0 => (P16.alloc (FP_1.out) p0).2.1
            have dp2 := fun p0 => (P16.alloc (FP_1.out) p0).2.2.1
            have dp3 := fun p0 => (P16.alloc (FP_1.out) p0).2.2.2.1
            have dp4 := fun p0 => (P16.alloc (FP_1.out) p0).2.2.2.2.1
            have dp5 := fun p0 => (P16.alloc (FP_1.out) p0).2.2.2.2.2.1
            have dp6 := fun p0 => (P16.alloc (FP_1.out) p0).2.2.2.2.2.2.1
            have dp7 := fun p0 => (P16.alloc (FP_1.out) p0).2.2.2.2.2.2.2.1
            have dp8 := fun p0 => (P16.alloc (FP_1.out) p0).2.2.2.2.2.2.2.2.1
            have dp9 := fun p0 => (P16.alloc (FP_1.out) p0).2.2.2.2.2.2.2.2.2.1
            have dp10 := fun p0 => (P16.alloc (FP_1.out) p0).2.2.2.2.2.2.2.2.2.2.1
            have dp11 := fun p0 => (P16.alloc (FP_1.out) p0).2.2.2.2.2.2.2.2.2.2.2.1
            have dp12 := fun p0 => (P16.alloc (FP_1.out) p0).2.2.2.2.2.2.2.2.2.2.2.2.1
            have dp13 := fun p0 => (P16.alloc (FP_1.out) p0).2.2.2.2.2.2.2.2.2.2.2.2.2.1
            have dp14 := fun p0 => (P16.alloc (FP_1.out) p0).2.2.2.2.2.2.2.2.2.2.2.2.2.2.1
            have dp15 := fun p0 => (P16.alloc (FP_1.out) p0).2.2.2.2.2.2.2.2.2.2.2.2.2.2.2.1
            go_wp2_with fail
            refine (HVb.out _).mono ?_
            rintro e w2 ⟨rfl, xw2⟩
            have Fa_2 : Hid (H3 w2 (w1.heap.size) (.int .i64 0) (.int .i64 p1) (.int .i64 p2)) := (h3_at rfl).ext xw2
            have FP_2 : Hid (P16 w2 wr.heap.size a0 a1 a2 b0 b1 b2 kk m0 m1 m2 m3 m4 m5 m6 m7 m8) := (P16.alloc (FP_1.out) _).ext xw2
            have E2 : Ext w w2 := Ext.trans (Ext.alloc (E1) _) xw2
            clear xw2 E1 FP_1 dp0 dp1 dp2 dp3 dp4 dp5 dp6 dp7 dp8 dp9 dp10 dp11 dp12 dp13 dp14 dp15
            have da0 := fun p0 => (H3.alloc (Fa_2.out) p0).1
            have da1 := fun p0 => (H3.alloc (Fa_2.out) p0).2.1
            have da2 := fun p0 => (H3.alloc (Fa_2.out) p0).2.2.1
            go_wp2_with fail
            refine (HX.out _).mono ?_
            rintro e w3 ⟨rfl, xw3⟩
            have Fa_3 : Hid (H3 w3 (w1.heap.size) (.int .i64 0) (.int .i64 p1) (.int .i64 p2)) := (H3.alloc (Fa_2.out) _).ext xw3
            have Fb_3 : Hid (H3 w3 (w2.heap.size) (.int .i64 r0) (.int .i64 r1) (.int .i64 r2)) := (h3_at rfl).ext xw3
            have FP_3 : Hid (P16 w3 wr.heap.size a0 a1 a2 b0 b1 b2 kk m0 m1 m2 m3 m4 m5 m6 m7 m8) := (P16.alloc (FP_2.out) _).ext xw3
            have E3 : Ext w w3 := Ext.trans (Ext.alloc (E2) _) xw3
            clear xw3 E2 FP_2 Fa_2 da0 da1 da2
            obtain ⟨ca0, ca1, ca2, ca3, ca4, ca5, ca6⟩ := Fa_3.out
            obtain ⟨cb0, cb1, cb2, cb3, cb4, cb5, cb6⟩ := Fb_3.out
            go_wp2_with fail
            refine (HY.out _).mono ?_
            rintro e w4 ⟨rfl, xw4⟩
            have Fa_4 : Hid (H3 w4 (w1.heap.size) (.int .i64 0) (.int .i64 p1) (.int .i64 p2)) := (Fa_3.out).ext xw4
            have Fb_4 : Hid (H3 w4 (w2.heap.size) (.int .i64 r0) (.int .i64 r1) (.int .i64 r2)) := (Fb_3.out).ext xw4
            have FP_4 : Hid (P16 w4 wr.heap.size a0 a1 a2 b0 b1 b2 kk m0 m1 m2 m3 m4 m5 m6 m7 m8) := (FP_3.out).ext xw4
            have E4 : Ext w w4 := Ext.trans (E3) xw4
            clear xw4 E3 FP_3 Fa_3 Fb_3 ca0 ca1 ca2 ca3 ca4 ca5 ca6 cb0 cb1 cb2 cb3 cb4 cb5 cb6
            obtain ⟨ca0, ca1, ca2, ca3, ca4, ca5, ca6⟩ := Fa_4.out
            obtain ⟨cb0, cb1, cb2, cb3, cb4, cb5, cb6⟩ := Fb_4.out
            go_wp2_with fail
            refine (HC.out _).mono ?_
            rintro e w5 ⟨rfl, xw5⟩
            have Fa_5 : Hid (H3 w5 (w1.heap.size) (.int .i64 0) (.int .i64 p1) (.int .i64 p2)) := (Fa_4.out).ext xw5
            have Fb_5 : Hid (H3 w5 (w2.heap.size) (.int .i64 r0) (.int .i64 r1) (.int .i64 r2)) := (Fb_4.out).ext xw5
            have FP_5 : Hid (P16 w5 wr.heap.size a0 a1 a2 b0 b1 b2 kk m0 m1 m2 m3 m4 m5 m6 m7 m8) := (FP_4.out).ext xw5
            have E5 : Ext w w5 := Ext.trans (E4) xw5
            clear xw5 E4 FP_4 Fa_4 Fb_4 ca0 ca1 ca2 ca3 ca4 ca5 ca6 cb0 cb1 cb2 cb3 cb4 cb5 cb6
            have da0 := fun p0 => (H3.alloc (Fa_5.out) p0).1
            have da1 := fun p0 => (H3.alloc (Fa_5.out) p0).2.1
            have da2 := fun p0 => (H3.alloc (Fa_5.out) p0).2.2.1
            have db0 := fun p0 => (H3.alloc (Fb_5.out) p0).1
            have db1 := fun p0 => (H3.alloc (Fb_5.out) p0).2.1
            have db2 := fun p0 => (H3.alloc (Fb_5.out) p0).2.2.1
            go_wp2_with fail
            refine (HD.out _).mono ?_
            rintro e w6 ⟨rfl, xw6⟩
            have Fa_6 : Hid (H3 w6 (w1.heap.size) (.int .i64 0) (.int .i64 p1) (.int .i64 p2)) := (H3.alloc (Fa_5.out) _).ext xw6
            have Fb_6 : Hid (H3 w6 (w2.heap.size) (.int .i64 r0) (.int .i64 r1) (.int .i64 r2)) := (H3.alloc (Fb_5.out) _).ext xw6
            have Fc_6 : Hid (H3 w6 (w5.heap.size) (.int .i64 c0) (.int .i64 c1) (.int .i64 c2)) := (h3_at rfl).ext xw6
            have FP_6 : Hid (P16 w6 wr.heap.size a0 a1 a2 b0 b1 b2 kk m0 m1 m2 m3 m4 m5 m6 m7 m8) := (P16.alloc (FP_5.out) _).ext xw6
            have E6 : Ext w w6 := Ext.trans (Ext.alloc (E5) _) xw6
            clear xw6 E5 FP_5 Fa_5 Fb_5 da0 da1 da2 db0 db1 db2
            have da0 := fun p0 => (H3.alloc (Fa_6.out) p0).1
            have da1 := fun p0 => (H3.alloc (Fa_6.out) p0).2.1
            have da2 := fun p0 => (H3.alloc (Fa_6.out) p0).2.2.1
            go_wp2_with fail
            refine (HZ.out _).mono ?_
            rintro e w7 ⟨rfl, xw7⟩
            have Fa_7 : Hid (H3 w7 (w1.heap.size) (.int .i64 0) (.int .i64 p1) (.int .i64 p2)) := (H3.alloc (Fa_6.out) _).ext xw7
            have Fc_7 : Hid (H3 w7 (w5.heap.size) (.int .i64 c0) (.int .i64 c1) (.int .i64 c2)) := (H3.alloc (Fc_6.out) _).ext xw7
            have Fd_7 : Hid (H3 w7 (w6.heap.size) (.int .i64 d0) (.int .i64 d1) (.int .i64 d2)) := (h3_at rfl).ext xw7
            have FP_7 : Hid (P16 w7 wr.heap.size a0 a1 a2 b0 b1 b2 kk m0 m1 m2 m3 m4 m5 m6 m7 m8) := (P16.alloc (FP_6.out) _).ext xw7
            have E7 : Ext w w7 := Ext.trans (Ext.alloc (E6) _) xw7
            clear xw7 E6 FP_6 Fa_6 Fb_6 Fc_6 da0 da1 da2
            have dd0 := fun p0 => (H3.alloc (Fd_7.out) p0).1
            have dd1 := fun p0 => (H3.alloc (Fd_7.out) p0).2.1
            have dd2 := fun p0 => (H3.alloc (Fd_7.out) p0).2.2.1
            go_wp2_with fail
            refine (HN.out _).mono ?_
            rintro e w8 ⟨rfl, xw8⟩
            have Fa_8 : Hid (H3 w8 (w1.heap.size) (.int .i64 0) (.int .i64 p1) (.int .i64 p2)) := (H3.alloc (Fa_7.out) _).ext xw8
            have Fc_8 : Hid (H3 w8 (w5.heap.size) (.int .i64 c0) (.int .i64 c1) (.int .i64 c2)) := (H3.alloc (Fc_7.out) _).ext xw8
            have Fd_8 : Hid (H3 w8 (w6.heap.size) (.int .i64 d0) (.int .i64 d1) (.int .i64 d2)) := (H3.alloc (Fd_7.out) _).ext xw8
            have Fz_8 : Hid (H3 w8 (w7.heap.size) (.int .i64 0) (.int .i64 0) (.int .i64 0)) := (h3_at rfl).ext xw8
            have FP_8 : Hid (P16 w8 wr.heap.size a0 a1 a2 b0 b1 b2 kk m0 m1 m2 m3 m4 m5 m6 m7 m8) := (P16.alloc (FP_7.out) _).ext xw8
            have E8 : Ext w w8 := Ext.trans (Ext.alloc (E7) _) xw8
            clear xw8 E7 FP_7 Fa_7 Fc_7 Fd_7 dd0 dd1 dd2
            have da0 := fun p0 => (H3.alloc (Fa_8.out) p0).1
            have da1 := fun p0 => (H3.alloc (Fa_8.out) p0).2.1
            have da2 := fun p0 => (H3.alloc (Fa_8.out) p0).2.2.1
            have dc0 := fun p0 => (H3.alloc (Fc_8.out) p0).1
            have dc1 := fun p0 => (H3.alloc (Fc_8.out) p0).2.1
            have dc2 := fun p0 => (H3.alloc (Fc_8.out) p0).2.2.1
            have dz0 := fun p0 => (H3.alloc (Fz_8.out) p0).1
            have dz1 := fun p0 => (H3.alloc (Fz_8.out) p0).2.1
            have dz2 := fun p0 => (H3.alloc (Fz_8.out) p0).2.2.1
            go_wp2_with (go_at_call 9; refine (num3_any _ _).mono ?_; rintro e wx ⟨rfl, hwx⟩; have hwy := hwx.symm; clear hwx; subst hwy)
            refine (HO.out _).mono ?_
            rintro e w9 ⟨rfl, xw9⟩
            have Fa_9 : Hid (H3 w9 (w1.heap.size) (.int .i64 0) (.int .i64 p1) (.int .i64 p2)) := (H3.alloc (Fa_8.out) _).ext xw9
            have Fc_9 : Hid (H3 w9 (w5.heap.size) (.int .i64 c0) (.int .i64 c1) (.int .i64 c2)) := (H3.alloc (Fc_8.out) _).ext xw9
            have Fz_9 : Hid (H3 w9 (w7.heap.size) (.int .i64 0) (.int .i64 0) (.int .i64 0)) := (H3.alloc (Fz_8.out) _).ext xw9
            have Fn_9 : Hid (H3 w9 (w8.heap.size) (.int .i64 c0) (.int .i64 c1) (.int .i64 c2)) := (h3_at rfl).ext xw9
            have FP_9 : Hid (P16 w9 wr.heap.size a0 a1 a2 b0 b1 b2 kk m0 m1 m2 m3 m4 m5 m6 m7 m8) := (P16.alloc (FP_8.out) _).ext xw9
            have E9 : Ext w w9 := Ext.trans (Ext.alloc (E8) _) xw9
            clear xw9 E8 FP_8 Fa_8 Fc_8 Fd_8 Fz_8 da0 da1 da2 dc0 dc1 dc2 dz0 dz1 dz2
            obtain ⟨ca0, ca1, ca2, ca3, ca4, ca5, ca6⟩ := Fa_9.out
            go_wp2_with (go_at_call 9; refine (num3_any _ _).mono ?_; rintro e wx ⟨rfl, hwx⟩; have hwy := hwx.symm; clear hwx; subst hwy)
            refine (HI.out _).mono ?_
            rintro e w10 ⟨rfl, xw10⟩
            have Fa_10 : Hid (H3 w10 (w1.heap.size) (.int .i64 0) (.int .i64 p1) (.int .i64 p2)) := (Fa_9.out).ext xw10
            have FP_10 : Hid (P16 w10 wr.heap.size a0 a1 a2 b0 b1 b2 kk m0 m1 m2 m3 m4 m5 m6 m7 m8) := (FP_9.out).ext xw10
            have E10 : Ext w w10 := Ext.trans (E9) xw10
            clear xw10 E9 FP_9 Fa_9 Fc_9 Fz_9 Fn_9 ca0 ca1 ca2 ca3 ca4 ca5 ca6
            have da0 := fun p0 => (H3.alloc (Fa_10.out) p0).1
            have da1 := fun p0 => (H3.alloc (Fa_10.out) p0).2.1
            have da2 := fun p0 => (H3.alloc (Fa_10.out) p0).2.2.1
            go_wp2_with (go_at_call 9; refine (num3_any _ _).mono ?_; rintro e wx ⟨rfl, hwx⟩; have hwy := hwx.symm; clear hwx; subst hwy)
            refine (HU.out _).mono ?_
            rintro e w11 ⟨rfl, xw11⟩
            have Fa_11 : Hid (H3 w11 (w1.heap.size) (.int .i64 0) (.int .i64 p1) (.int .i64 p2)) := (H3.alloc (Fa_10.out) _).ext xw11
            have Fs_11 : Hid (H3 w11 (w10.heap.size) (.int .i64 0) (.int .i64 p1) (.int .i64 p2)) := (h3_at rfl).ext xw11
            have FP_11 : Hid (P16 w11 wr.heap.size a0 a1 a2 b0 b1 b2 kk m0 m1 m2 m3 m4 m5 m6 m7 m8) := (P16.alloc (FP_10.out) _).ext xw11
            have E11 : Ext w w11 := Ext.trans (Ext.alloc (E10) _) xw11
            clear xw11 E10 FP_10 Fa_10 da0 da1 da2
            go_wp2_with fail
            refine (HM.out _).mono ?_
            rintro e w12 ⟨rfl, xw12⟩
            have Fu_12 : Hid (H3 w12 (w11.heap.size) (.int .i64 u0) (.int .i64 u1) (.int .i64 u2)) := (h3_at rfl).ext xw12
            have FP_12 : Hid (P16 w12 wr.heap.size a0 a1 a2 b0 b1 b2 kk m0 m1 m2 m3 m4 m5 m6 m7 m8) := (P16.alloc (FP_11.out) _).ext xw12
            have E12 : Ext w w12 := Ext.trans (Ext.alloc (E11) _) xw12
            clear xw12 E11 FP_11 Fa_11 Fs_11
            go_wp2_with (go_at_call 9; refine (num3_any _ _).mono ?_; rintro e wx ⟨rfl, hwx⟩; have hwy := hwx.symm; clear hwx; subst hwy)
            go_roundw
            case rel => exact ⟨k + 1, by omega, by go_num, E12⟩
            case measure => simp [intOf]; omega
        · have hb : (p0 == 0) = false := by rw [beq_eq_false_iff_ne]; exact h0
          obtain ⟨u0, u1, u2, hu, HU⟩ := unit_is _ _ _ okp (fun h => h0 h.1)
          obtain ⟨m, m1, m2, HM⟩ := norm_unit u0 u1 u2 hu
          have m1' : ¬ 1073741825 < m := by omega
          have m2' : ¬ m < 1073741823 := by omega
          clear hu m1 m2 okp
          clear h0
          go_wp2_with fail
          refine (HVa.out _).mono ?_
          rintro e w1 ⟨rfl, xw1⟩
          have FP_1 : Hid (P16 w1 wr.heap.size a0 a1 a2 b0 b1 b2 kk m0 m1 m2 m3 m4 m5 m6 m7 m8) := (p16_at rfl).ext xw1
          have E1 : Ext w w1 := Ext.trans (Ext.alloc hx _) xw1
          clear xw1
          have dp0 := fun p0 => (P16.alloc (FP_1.out) p0).1
          have dp1 := fun p0 => (P16.alloc (FP_1.out) p0).2.1
          have dp2 := fun p0 => (P16.alloc (FP_1.out) p0).2.2.1
          have dp3 := fun p0 => (P16.alloc (FP_1.out) p0).2.2.2.1
          have dp4 := fun p0 => (P16.alloc (FP_1.out) p0).2.2.2.2.1
          have dp5 := fun p0 => (P16.alloc (FP_1.out) p0).2.2.2.2.2.1
          have dp6 := fun p0 => (P16.alloc (FP_1.out) p0).2.2.2.2.2.2.1
          have dp7 := fun p0 => (P16.alloc (FP_1.out) p0).2.2.2.2.2.2.2.1
          have dp8 := fun p0 => (P16.alloc (FP_1.out) p0).2.2.2.2.2.2.2.2.1
          have dp9 := fun p0 => (P16.alloc (FP_1.out) p0).2.2.2.2.2.2.2.2.2.1
          have dp10 := fun p0 => (P16.alloc (FP_1.out) p0).2.2.2.2.2.2.2.2.2.2.1
          have dp11 := fun p0 => (P16.alloc (FP_1.out) p0).2.2.2.2.2.2.2.2.2.2.2.1
          have dp12 := fun p0 => (P16.alloc (FP_1.out) p0).2.2.2.2.2.2.2.2.2.2.2.2.1
          have dp13 := fun p0 => (P16.alloc (FP_1.out) p0).2.2.2.2.2.2.2.2.2.2.2.2.2.1
          have dp14 := fun p0 => (P16.alloc (FP_1.out) p0).2.2.2.2.2.2.2.2.2.2.2.2.2.2.1
          have dp15 := fun p0 => (P16.alloc (FP_1.out) p0).2.2.2.2.2.2.2.2.2.2.2.2.2.2.2.1
          go_wp2_with fail
          refine (HVb.out _).mono ?_
          rintro e w2 ⟨rfl, xw2⟩
          have Fa_2 : Hid (H3 w2 (w1.heap.size) (.int .i64 p0) (.int .i64 p1) (.int .i64 p2)) := (h3_at rfl).ext xw2
          have FP_2 : Hid (P16 w2 wr.heap.size a0 a1 a2 b0 b1 b2 kk m0 m1 m2 m3 m4 m5 m6 m7 m8) := (P16.alloc (FP_1.out) _).ext xw2
          have E2 : Ext w w2 := Ext.trans (Ext.alloc (E1) _) xw2
          clear xw2 E1 FP_1 dp0 dp1 dp2 dp3 dp4 dp5 dp6 dp7 dp8 dp9 dp10 dp11 dp12 dp13 dp14 dp15
          have da0 := fun p0 => (H3.alloc (Fa_2.out) p0).1
          have da1 := fun p0 => (H3.alloc (Fa_2.out) p0).2.1
          have da2 := fun p0 => (H3.alloc (Fa_2.out) p0).2.2.1
          go_wp2_with fail
          refine (HX.out _).mono ?_
          rintro e w3 ⟨rfl, xw3⟩
          have Fa_3 : Hid (H3 w3 (w1.heap.size) (.int .i64 p0) (.int .i64 p1) (.int .i64 p2)) := (H3.alloc (Fa_2.out) _).ext xw3
          have Fb_3 : Hid (H3 w3 (w2.heap.size) (.int .i64 r0) (.int .i64 r1) (.int .i64 r2)) := (h3_at rfl).ext xw3
          have FP_3 : Hid (P16 w3 wr.heap.size a0 a1 a2 b0 b1 b2 kk m0 m1 m2 m3 m4 m5 m6 m7 m8) := (P16.alloc (FP_2.out) _).ext xw3
          have E3 : Ext w w3 := Ext.trans (Ext.alloc (E2) _) xw3
          clear xw3 E2 FP_2 Fa_2 da0 da1 da2
          obtain ⟨ca0, ca1, ca2, ca3, ca4, ca5, ca6⟩ := Fa_3.out
          obtain ⟨cb0, cb1, cb2, cb3, cb4, cb5, cb6⟩ := Fb_3.out
          go_wp2_with fail
          refine (HY.out _).mono ?_
          rintro e w4 ⟨rfl, xw4⟩
          have Fa_4 : Hid (H3 w4 (w1.heap.size) (.int .i64 p0) (.int .i64 p1) (.int .i64 p2)) := (Fa_3.out).ext xw4
          have Fb_4 : Hid (H3 w4 (w2.heap.size) (.int .i64 r0) (.int .i64 r1) (.int .i64 r2)) := (Fb_3.out).ext xw4
          have FP_4 : Hid (P16 w4 wr.heap.size a0 a1 a2 b0 b1 b2 kk m0 m1 m2 m3 m4 m5 m6 m7 m8) := (FP_3.out).ext xw4
          have E4 : Ext w w4 := Ext.trans (E3) xw4
          clear xw4 E3 FP_3 Fa_3 Fb_3 ca0 ca1 ca2 ca3 ca4 ca5 ca6 cb0 cb1 cb2 cb3 cb4 cb5 cb6
          obtain ⟨ca0, ca1, ca2, ca3, ca4, ca5, ca6⟩ := Fa_4.out
          obtain ⟨cb0, cb1, cb2, cb3, cb4, cb5, cb6⟩ := Fb_4.out
          go_wp2_with fail
          refine (HC.out _).mono ?_
          rintro e w5 ⟨rfl, xw5⟩
          have Fa_5 : Hid (H3 w5 (w1.heap.size) (.int .i64 p0) (.int .i64 p1) (.int .i64 p2)) := (Fa_4.out).ext xw5
          have Fb_5 : Hid (H3 w5 (w2.heap.size) (.int .i64 r0) (.int .i64 r1) (.int .i64 r2)) := (Fb_4.out).ext xw5
          have FP_5 : Hid (P16 w5 wr.heap.size a0 a1 a2 b0 b1 b2 kk m0 m1 m2 m3 m4 m5 m6 m7 m8) := (FP_4.out).ext xw5
          have E5 : Ext w w5 := Ext.trans (E4) xw5
          clear xw5 E4 FP_4 Fa_4 Fb_4 ca0 ca1 ca2 ca3 ca4 ca5 ca6 cb0 cb1 cb2 cb3 cb4 cb5 cb6
          have da0 := fun p0 => (H3.alloc (Fa_5.out) p0).1
          have da1 := fun p0 => (H3.alloc (Fa_5.out) p0).2.1
          have da2 := fun p0 => (H3.alloc (Fa_5.out) p0).2.2.1
          have db0 := fun p0 => (H3.alloc (Fb_5.out) p0).1
          have db1 := fun p0 => (H3.alloc (Fb_5.out) p0).2.1
          have db2 := fun p0 => (H3.alloc (Fb_5.out) p0).2.2.1
          go_wp2_with fail
          refine (HD.out _).mono ?_
          rintro e w6 ⟨rfl, xw6⟩
          have Fa_6 : Hid (H3 w6 (w1.heap.size) (.int .i64 p0) (.int .i64 p1) (.int .i64 p2)) := (H3.alloc (Fa_5.out) _).ext xw6
          have Fb_6 : Hid (H3 w6 (w2.heap.size) (.int .i64 r0) (.int .i64 r1) (.int .i64 r2)) := (H3.alloc (Fb_5.out) _).ext xw6
          have Fc_6 : Hid (H3 w6 (w5.heap.size) (.int .i64 c0) (.int .i64 c1) (.int .i64 c2)) := (h3_at rfl).ext xw6
          have FP_6 : Hid (P16 w6 wr.heap.size a0 a1 a2 b0 b1 b2 kk m0 m1 m2 m3 m4 m5 m6 m7 m8) := (P16.alloc (FP_5.out) _).ext xw6
          have E6 : Ext w w6 := Ext.trans (Ext.alloc (E5) _) xw6
          clear xw6 E5 FP_5 Fa_5 Fb_5 da0 da1 da2 db0 db1 db2
          have da0 := fun p0 => (H3.alloc (Fa_6.out) p0).1
          have da1 := fun p0 => (H3.alloc (Fa_6.out) p0).2.1
          have da2 := fun p0 => (H3.alloc (Fa_6.out) p0).2.2.1
          go_wp2_with fail
          refine (HZ.out _).mono ?_
          rintro e w7 ⟨rfl, xw7⟩
          have Fa_7 : Hid (H3 w7 (w1.heap.size) (.int .i64 p0) (.int .i64 p1) (.int .i64 p2)) := (H3.alloc (Fa_6.out) _).ext xw7
          have Fc_7 : Hid (H3 w7 (w5.heap.size) (.int .i64 c0) (.int .i64 c1) (.int .i64 c2)) := (H3.alloc (Fc_6.out) _).ext xw7
          have Fd_7 : Hid (H3 w7 (w6.heap.size) (.int .i64 d0) (.int .i64 d1) (.int .i64 d2)) := (h3_at rfl).ext xw7
          have FP_7 : Hid (P16 w7 wr.heap.size a0 a1 a2 b0 b1 b2 kk m0 m1 m2 m3 m4 m5 m6 m7 m8) := (P16.alloc (FP_6.out) _).ext xw7
          have E7 : Ext w w7 := Ext.trans (Ext.alloc (E6) _) xw7
          clear xw7 E6 FP_6 Fa_6 Fb_6 Fc_6 da0 da1 da2
          have dd0 := fun p0 => (H3.alloc (Fd_7.out) p0).1
          have dd1 := fun p0 => (H3.alloc (Fd_7.out) p0).2.1
          have dd2 := fun p0 => (H3.alloc (Fd_7.out) p0).2.2.1
          go_wp2_with fail
          refine (HN.out _).mono ?_
          rintro e w8 ⟨rfl, xw8⟩
          have Fa_8 : Hid (H3 w8 (w1.heap.size) (.int .i64 p0) (.int .i64 p1) (.int .i64 p2)) := (H3.alloc (Fa_7.out) _).ext xw8
          have Fc_8 : Hid (H3 w8 (w5.heap.size) (.int .i64 c0) (.int .i64 c1) (.int .i64 c2)) := (H3.alloc (Fc_7.out) _).ext xw8
          have Fd_8 : Hid (H3 w8 (w6.heap.size) (.int .i64 d0) (.int .i64 d1) (.int .i64 d2)) := (H3.alloc (Fd_7.out) _).ext xw8
          have Fz_8 : Hid (H3 w8 (w7.heap.size) (.int .i64 0) (.int .i64 0) (.int .i64 0)) := (h3_at rfl).ext xw8
          have FP_8 : Hid (P16 w8 wr.heap.size a0 a1 a2 b0 b1 b2 kk m0 m1 m2 m3 m4 m5 m6 m7 m8) := (P16.alloc (FP_7.out) _).ext xw8
          have E8 : Ext w w8 := Ext.trans (Ext.alloc (E7) _) xw8
          clear xw8 E7 FP_7 Fa_7 Fc_7 Fd_7 dd0 dd1 dd2
          have da0 := fun p0 => (H3.alloc (Fa_8.out) p0).1
          have da1 := fun p0 => (H3.alloc (Fa_8.out) p0).2.1
          have da2 := fun p0 => (H3.alloc (Fa_8.out) p0).2.2.1
          have dc0 := fun p0 => (H3.alloc (Fc_8.out) p0).1
          have dc1 := fun p0 => (H3.alloc (Fc_8.out) p0).2.1
          have dc2 := fun p0 => (H3.alloc (Fc_8.out) p0).2.2.1
          have dz0 := fun p0 => (H3.alloc (Fz_8.out) p0).1
          have dz1 := fun p0 => (H3.alloc (Fz_8.out) p0).2.1
          have dz2 := fun p0 => (H3.alloc (Fz_8.out) p0).2.2.1
          go_wp2_with (go_at_call 9; refine (num3_any _ _).mono ?_; rintro e wx ⟨rfl, hwx⟩; have hwy := hwx.symm; clear hwx; subst hwy)
          refine (HO.out _).mono ?_
          rintro e w9 ⟨rfl, xw9⟩
          have Fa_9 : Hid (H3 w9 (w1.heap.size) (.int .i64 p0) (.int .i64 p1) (.int .i64 p2)) := (H3.alloc (Fa_8.out) _).ext xw9
          have Fc_9 : Hid (H3 w9 (w5.heap.size) (.int .i64 c0) (.int .i64 c1) (.int .i64 c2)) := (H3.alloc (Fc_8.out) _).ext xw9
          have Fz_9 : Hid (H3 w9 (w7.heap.size) (.int .i64 0) (.int .i64 0) (.int .i64 0)) := (H3.alloc (Fz_8.out) _).ext xw9
          have Fn_9 : Hid (H3 w9 (w8.heap.size) (.int .i64 c0) (.int .i64 c1) (.int .i64 c2)) := (h3_at rfl).ext xw9
          have FP_9 : Hid (P16 w9 wr.heap.size a0 a1 a2 b0 b1 b2 kk m0 m1 m2 m3 m4 m5 m6 m7 m8) := (P16.alloc (FP_8.out) _).ext xw9
          have E9 : Ext w w9 := Ext.trans (Ext.alloc (E8) _) xw9
          clear xw9 E8 FP_8 Fa_8 Fc_8 Fd_8 Fz_8 da0 da1 da2 dc0 dc1 dc2 dz0 dz1 dz2
          obtain ⟨ca0, ca1, ca2, ca3, ca4, ca5, ca6⟩ := Fa_9.out
          go_wp2_with (go_at_call 9; refine (num3_any _ _).mono ?_; rintro e wx ⟨rfl, hwx⟩; have hwy := hwx.symm; clear hwx; subst hwy)
          refine (HI.out _).mono ?_
          rintro e w10 ⟨rfl, xw10⟩
          have Fa_10 : Hid (H3 w10 (w1.heap.size) (.int .i64 p0) (.int .i64 p1) (.int .i64 p2)) := (Fa_9.out).ext xw10
          have FP_10 : Hid (P16 w10 wr.heap.size a0 a1 a2 b0 b1 b2 kk m0 m1 m2 m3 m4 m5 m6 m7 m8) := (FP_9.out).ext xw10
          have E10 : Ext w w10 := Ext.trans (E9) xw10
          clear xw10 E9 FP_9 Fa_9 Fc_9 Fz_9 Fn_9 ca0 ca1 ca2 ca3 ca4 ca5 ca6
          have da0 := fun p0 => (H3.alloc (Fa_10.out) p0).1
          have da1 := fun p0 => (H3.alloc (Fa_10.out) p0).2.1
          have da2 := fun p0 => (H3.alloc (Fa_10.out) p0).2.2.1
          go_wp2_with (go_at_call 9; refine (num3_any _ _).mono ?_; rintro e wx ⟨rfl, hwx⟩; have hwy := hwx.symm; clear hwx; subst hwy)
          refine (HU.out _).mono ?_
          rintro e w11 ⟨rfl, xw11⟩
          have Fa_11 : Hid (H3 w11 (w1.heap.size) (.int .i64 p0) (.int .i64 p1) (.int .i64 p2)) := (H3.alloc (Fa_10.out) _).ext xw11
          have Fs_11 : Hid (H3 w11 (w10.heap.size) (.int .i64 p0) (.int .i64 p1) (.int .i64 p2)) := (h3_at rfl).ext xw11
          have FP_11 : Hid (P16 w11 wr.heap.size a0 a1 a2 b0 b1 b2 kk m0 m1 m2 m3 m4 m5 m6 m7 m8) := (P16.alloc (FP_10.out) _).ext xw11
          have E11 : Ext w w11 := Ext.trans (Ext.alloc (E10) _) xw11
          clear xw11 E10 FP_10 Fa_10 da0 da1 da2
          go_wp2_with fail
          refine (HM.out _).mono ?_
          rintro e w12 ⟨rfl, xw12⟩
          have Fu_12 : Hid (H3 w12 (w11.heap.size) (.int .i64 u0) (.int .i64 u1) (.int .i64 u2)) := (h3_at rfl).ext xw12
          have FP_12 : Hid (P16 w12 wr.heap.size a0 a1 a2 b0 b1 b2 kk m0 m1 m2 m3 m4 m5 m6 m7 m8) := (P16.alloc (FP_11.out) _).ext xw12
          have E12 : Ext w w12 := Ext.trans (Ext.alloc (E11) _) xw12
          clear xw12 E11 FP_11 Fa_11 Fs_11
          go_wp2_with (go_at_call 9; refine (num3_any _ _).mono ?_; rintro e wx ⟨rfl, hwx⟩; have hwy := hwx.symm; clear hwx; subst hwy)
          go_roundw
          case rel => exact ⟨k + 1, by omega, by go_num, E12⟩
          case measure => simp [intOf]; omega
      · go_wp2_with fail
        refine (wakes3_any _).mono ?_
        rintro e w1 ⟨rfl, x1⟩
        go_wp2_with fail
        go_ret
        exact ⟨rfl, hx.trans x1⟩
    · go_wp2_with fail
      refine (wakes3_any _).mono ?_
      rintro e w1 ⟨rfl, x1⟩
      go_wp2_with fail
      go_ret
      exact ⟨rfl, hx.trans x1⟩

set_option maxHeartbeats 1000000 in
set_option maxRecDepth 20000 in
theorem laws_none (a : Option Addr) (cap : Nat) (w : World) :
    Calls Try.prog 3 #[.slice a 0 cap] w fun e w' => e = .returned (.bool true) ∧ Ext w w' := by
  go_enter Try.func3, Try.ntmps3
  go_wp2_with fail
  refine wp_loop_rounds 1 ?_
  rw [rounds_succ]
  go_wp2_with fail
  refine (wakes3_any _).mono ?_
  rintro e w1 ⟨rfl, x1⟩
  go_wp2_with fail
  go_ret
  exact ⟨rfl, x1⟩
end Go.Proofs.Ytllgknodgmgemaa
