/- VecBounds. -/
import Derived.Test.YtllgknodgmgemaaB1
namespace Go.Proofs.Ytllgknodgmgemaa
open Go.RowKit Go.Shelf

set_option maxHeartbeats 40000000 in
set_option maxRecDepth 20000 in
theorem bounds_any (b off len cap : Nat) (Z : Nat → Nat → Int) (w : World) (hl : len ≤ maxLen) (hc : Twos3 w b off len Z) :
    Calls Try.prog 4 #[.slice (some ⟨b, off, none⟩) len cap] w fun e w' => e = .returned (.bool true) ∧ Ext w w' := by
  have hl' : len ≤ 9223372036854775807 := by unfold maxLen at hl; omega
  clear hl
  go_enter Try.func4, Try.ntmps4
  go_wp2_with fail
  go_loopw [3] (fun i wr => ∃ k : Nat, k ≤ len ∧ i = .int .i64 k ∧ Ext w wr) (fun i _ => len - (intOf i).toNat)
  case atStart => exact ⟨0, Nat.zero_le _, rfl, Ext.refl _⟩
  case round =>
    obtain ⟨k, hk, rfl, hx⟩ := hrel
    by_cases hlt : k < len
    · by_cases h20 : k < 20
      · have RW := (hc.ext hx).row hlt
        have hlt' : (k : Int) < (len : Int) := by omega
        have BB : Hid (∀ j, j < 6 → -9223372036854775808 ≤ Z k j ∧ Z k j ≤ 9223372036854775807) := fun j hj => (hc k hlt j (by omega)).2
        have B0 : Hid _ := BB.out 0 (by omega)
        have B1 : Hid _ := BB.out 1 (by omega)
        have B2 : Hid _ := BB.out 2 (by omega)
        have B3 : Hid _ := BB.out 3 (by omega)
        have B4 : Hid _ := BB.out 4 (by omega)
        have B5 : Hid _ := BB.out 5 (by omega)
        clear BB
        generalize Z k 0 = a0 at *
        generalize Z k 1 = a1 at *
        generalize Z k 2 = a2 at *
        generalize Z k 3 = b0 at *
        generalize Z k 4 = b1 at *
        generalize Z k 5 = b2 at *
        obtain ⟨z0, z1, z2, z3, z4, z5⟩ := RW
        clear B0 B1 B2 B3 B4 B5
        have ba := fun v => brt_bounds 1099511627776 v (by omega)
        have HVa : Hid (∀ w', Calls Try.prog 5 #[.agg #[.int .i64 a0, .int .i64 a1, .int .i64 a2], .int .i64 1099511627776] w' fun e w'' => e = .returned (.agg #[.int .i64 (brt 1099511627776 a0), .int .i64 (brt 1099511627776 a1), .int .i64 (brt 1099511627776 a2)]) ∧ Ext w' w'') := fun w' => brvec_1099511627776 a0 a1 a2 w'
        have HVb : Hid (∀ w', Calls Try.prog 5 #[.agg #[.int .i64 b0, .int .i64 b1, .int .i64 b2], .int .i64 1099511627776] w' fun e w'' => e = .returned (.agg #[.int .i64 (brt 1099511627776 b0), .int .i64 (brt 1099511627776 b1), .int .i64 (brt 1099511627776 b2)]) ∧ Ext w' w'') := fun w' => brvec_1099511627776 b0 b1 b2 w'
        have ok1 : ok3 (brt 1099511627776 a0) (brt 1099511627776 a1) (brt 1099511627776 a2) = true := ok3_small (by have := ba a0; omega) (by have := ba a1; omega) (by have := ba a2; omega)
        have ok2 : ok3 (brt 1099511627776 b0) (brt 1099511627776 b1) (brt 1099511627776 b2) = true := ok3_small (by have := ba b0; omega) (by have := ba b1; omega) (by have := ba b2; omega)
        clear ba
        generalize brt 1099511627776 a0 = p0 at *
        generalize brt 1099511627776 a1 = p1 at *
        generalize brt 1099511627776 a2 = p2 at *
        generalize brt 1099511627776 b0 = r0 at *
        generalize brt 1099511627776 b1 = r1 at *
        generalize brt 1099511627776 b2 = r2 at *
        go_wp2_with fail
        refine (HVa.out _).mono ?_
        rintro e w1 ⟨rfl, xw1⟩
        have E1 : Ext w w1 := hx.trans xw1
        have zz3 := fun o => cell_al (xw1.keepc z3) o
        have zz4 := fun o => cell_al (xw1.keepc z4) o
        have zz5 := fun o => cell_al (xw1.keepc z5) o
        clear xw1 z0 z1 z2 z3 z4 z5
        go_wp2_with fail
        refine (HVb.out _).mono ?_
        rintro e w2 ⟨rfl, xw2⟩
        have Fa_2 : Hid (H3 w2 (w1.heap.size) (.int .i64 p0) (.int .i64 p1) (.int .i64 p2)) := (h3_at rfl).ext xw2
        have E2 : Ext w w2 := Ext.trans (Ext.alloc E1 _) xw2
        clear xw2 E1 zz3 zz4 zz5
        have da0 := fun o => ((Fa_2.out.alloc o)).1
        have da1 := fun o => ((Fa_2.out.alloc o)).2.1
        have da2 := fun o => ((Fa_2.out.alloc o)).2.2.1
        go_wp2_with fail
        by_cases hz1 : p0 = 0 ∧ p1 = 0 ∧ p2 = 0
        · obtain ⟨rfl, rfl, rfl⟩ := hz1
          have HUa : Hid (∀ w', Calls Try.prog 11 #[.agg #[.int .i64 0, .int .i64 0, .int .i64 0]] w' fun e w'' => e = .returned (.tuple #[.agg #[.int .i64 0, .int .i64 0, .int .i64 0], .int .i64 3]) ∧ Ext w' w'') := fun w' => vUnit_zero w'
          by_cases hz2 : r0 = 0 ∧ r1 = 0 ∧ r2 = 0
          · obtain ⟨rfl, rfl, rfl⟩ := hz2
            have HUb : Hid (∀ w', Calls Try.prog 11 #[.agg #[.int .i64 0, .int .i64 0, .int .i64 0]] w' fun e w'' => e = .returned (.tuple #[.agg #[.int .i64 0, .int .i64 0, .int .i64 0], .int .i64 3]) ∧ Ext w' w'') := fun w' => vUnit_zero w'
            clear ok1 ok2
            refine (HUa.out _).mono ?_
            rintro e w3 ⟨rfl, xw3⟩
            have Fa_3 : Hid (H3 w3 (w1.heap.size) (.int .i64 0) (.int .i64 0) (.int .i64 0)) := (H3.alloc Fa_2.out _).ext xw3
            have Fb_3 : Hid (H3 w3 (w2.heap.size) (.int .i64 0) (.int .i64 0) (.int .i64 0)) := (h3_at rfl).ext xw3
            have E3 : Ext w w3 := Ext.trans (Ext.alloc E2 _) xw3
            clear xw3 E2 Fa_2 da0 da1 da2
            have db0 := fun p0 => (H3.alloc (Fb_3.out) p0).1
            have db1 := fun p0 => (H3.alloc (Fb_3.out) p0).2.1
            have db2 := fun p0 => (H3.alloc (Fb_3.out) p0).2.2.1
            go_wp2_with fail
            refine (HUb.out _).mono ?_
            rintro e w4 ⟨rfl, xw4⟩
            have Fa_4 : Hid (H3 w4 (w1.heap.size) (.int .i64 0) (.int .i64 0) (.int .i64 0)) := (H3.alloc (Fa_3.out) _).ext xw4
            have Fb_4 : Hid (H3 w4 (w2.heap.size) (.int .i64 0) (.int .i64 0) (.int .i64 0)) := (H3.alloc (Fb_3.out) _).ext xw4
            have Fu_4 : Hid (H3 w4 (w3.heap.size) (.int .i64 0) (.int .i64 0) (.int .i64 0)) := (h3_at rfl).ext xw4
            have E4 : Ext w w4 := Ext.trans (Ext.alloc (E3) _) xw4
            clear xw4 E3 Fa_3 Fb_3 db0 db1 db2
            go_wp2_with (go_at_call 9; refine (num3_any _ _).mono ?_; rintro e wx ⟨rfl, hwx⟩; have hwy := hwx.symm; clear hwx; subst hwy)
            go_roundw
            case rel => exact ⟨k + 1, by omega, by go_num, E4.alloc _⟩
            case measure => simp [intOf]; omega
          · obtain ⟨v0, v1, v2, hv, HUb⟩ := unit_is r0 r1 r2 ok2 hz2
            clear ok1 ok2 hz2 hv
            refine (HUa.out _).mono ?_
            rintro e w3 ⟨rfl, xw3⟩
            have Fa_3 : Hid (H3 w3 (w1.heap.size) (.int .i64 0) (.int .i64 0) (.int .i64 0)) := (H3.alloc Fa_2.out _).ext xw3
            have Fb_3 : Hid (H3 w3 (w2.heap.size) (.int .i64 r0) (.int .i64 r1) (.int .i64 r2)) := (h3_at rfl).ext xw3
            have E3 : Ext w w3 := Ext.trans (Ext.alloc E2 _) xw3
            clear xw3 E2 Fa_2 da0 da1 da2
            have db0 := fun p0 => (H3.alloc (Fb_3.out) p0).1
            have db1 := fun p0 => (H3.alloc (Fb_3.out) p0).2.1
            have db2 := fun p0 => (H3.alloc (Fb_3.out) p0).2.2.1
            go_wp2_with fail
            refine (HUb.out _).mono ?_
            rintro e w4 ⟨rfl, xw4⟩
            have Fa_4 : Hid (H3 w4 (w1.heap.size) (.int .i64 0) (.int .i64 0) (.int .i64 0)) := (H3.alloc (Fa_3.out) _).ext xw4
            have Fb_4 : Hid (H3 w4 (w2.heap.size) (.int .i64 r0) (.int .i64 r1) (.int .i64 r2)) := (H3.alloc (Fb_3.out) _).ext xw4
            have Fu_4 : Hid (H3 w4 (w3.heap.size) (.int .i64 0) (.int .i64 0) (.int .i64 0)) := (h3_at rfl).ext xw4
            have E4 : Ext w w4 := Ext.trans (Ext.alloc (E3) _) xw4
            clear xw4 E3 Fa_3 Fb_3 db0 db1 db2
            go_wp2_with (go_at_call 9; refine (num3_any _ _).mono ?_; rintro e wx ⟨rfl, hwx⟩; have hwy := hwx.symm; clear hwx; subst hwy)
            go_roundw
            case rel => exact ⟨k + 1, by omega, by go_num, E4.alloc _⟩
            case measure => simp [intOf]; omega
        · obtain ⟨u0, u1, u2, hu, HUa⟩ := unit_is p0 p1 p2 ok1 hz1
          by_cases hz2 : r0 = 0 ∧ r1 = 0 ∧ r2 = 0
          · obtain ⟨rfl, rfl, rfl⟩ := hz2
            have HUb : Hid (∀ w', Calls Try.prog 11 #[.agg #[.int .i64 0, .int .i64 0, .int .i64 0]] w' fun e w'' => e = .returned (.tuple #[.agg #[.int .i64 0, .int .i64 0, .int .i64 0], .int .i64 3]) ∧ Ext w' w'') := fun w' => vUnit_zero w'
            clear ok1 ok2 hz1 hu
            refine (HUa.out _).mono ?_
            rintro e w3 ⟨rfl, xw3⟩
            have Fa_3 : Hid (H3 w3 (w1.heap.size) (.int .i64 p0) (.int .i64 p1) (.int .i64 p2)) := (H3.alloc Fa_2.out _).ext xw3
            have Fb_3 : Hid (H3 w3 (w2.heap.size) (.int .i64 0) (.int .i64 0) (.int .i64 0)) := (h3_at rfl).ext xw3
            have E3 : Ext w w3 := Ext.trans (Ext.alloc E2 _) xw3
            clear xw3 E2 Fa_2 da0 da1 da2
            have db0 := fun p0 => (H3.alloc (Fb_3.out) p0).1
            have db1 := fun p0 => (H3.alloc (Fb_3.out) p0).2.1
            have db2 := fun p0 => (H3.alloc (Fb_3.out) p0).2.2.1
            go_wp2_with fail
            refine (HUb.out _).mono ?_
            rintro e w4 ⟨rfl, xw4⟩
            have Fa_4 : Hid (H3 w4 (w1.heap.size) (.int .i64 p0) (.int .i64 p1) (.int .i64 p2)) := (H3.alloc (Fa_3.out) _).ext xw4
            have Fb_4 : Hid (H3 w4 (w2.heap.size) (.int .i64 0) (.int .i64 0) (.int .i64 0)) := (H3.alloc (Fb_3.out) _).ext xw4
            have Fu_4 : Hid (H3 w4 (w3.heap.size) (.int .i64 u0) (.int .i64 u1) (.int .i64 u2)) := (h3_at rfl).ext xw4
            have E4 : Ext w w4 := Ext.trans (Ext.alloc (E3) _) xw4
            clear xw4 E3 Fa_3 Fb_3 db0 db1 db2
            go_wp2_with (go_at_call 9; refine (num3_any _ _).mono ?_; rintro e wx ⟨rfl, hwx⟩; have hwy := hwx.symm; clear hwx; subst hwy)
            go_roundw
            case rel => exact ⟨k + 1, by omega, by go_num, E4.alloc _⟩
            case measure => simp [intOf]; omega
          · obtain ⟨v0, v1, v2, hv, HUb⟩ := unit_is r0 r1 r2 ok2 hz2
            obtain ⟨d, d1, d2, HD⟩ := dot_units u0 u1 u2 v0 v1 v2 hu hv
            obtain ⟨s, s1, s2, HSf⟩ := dot_self u0 u1 u2 hu
            obtain ⟨c0, c1, c2, n, n1, HC, HNn⟩ := cross_units u0 u1 u2 v0 v1 v2 hu hv
            have d1' : ¬ 1073741827 < d := by omega
            have d2' : ¬ d < -1073741827 := by omega
            have s1' : ¬ 1073741827 < s := by omega
            have s2' : ¬ s < 1073741821 := by omega
            have n1' : ¬ 1073741827 < n := by omega
            clear ok1 ok2 hz1 hz2 hu hv
            refine (HUa.out _).mono ?_
            rintro e w3 ⟨rfl, xw3⟩
            have Fa_3 : Hid (H3 w3 (w1.heap.size) (.int .i64 p0) (.int .i64 p1) (.int .i64 p2)) := (H3.alloc Fa_2.out _).ext xw3
            have Fb_3 : Hid (H3 w3 (w2.heap.size) (.int .i64 r0) (.int .i64 r1) (.int .i64 r2)) := (h3_at rfl).ext xw3
            have E3 : Ext w w3 := Ext.trans (Ext.alloc E2 _) xw3
            clear xw3 E2 Fa_2 da0 da1 da2
            have db0 := fun p0 => (H3.alloc (Fb_3.out) p0).1
            have db1 := fun p0 => (H3.alloc (Fb_3.out) p0).2.1
            have db2 := fun p0 => (H3.alloc (Fb_3.out) p0).2.2.1
            go_wp2_with fail
            refine (HUb.out _).mono ?_
            rintro e w4 ⟨rfl, xw4⟩
            have Fa_4 : Hid (H3 w4 (w1.heap.size) (.int .i64 p0) (.int .i64 p1) (.int .i64 p2)) := (H3.alloc (Fa_3.out) _).ext xw4
            have Fb_4 : Hid (H3 w4 (w2.heap.size) (.int .i64 r0) (.int .i64 r1) (.int .i64 r2)) := (H3.alloc (Fb_3.out) _).ext xw4
            have Fu_4 : Hid (H3 w4 (w3.heap.size) (.int .i64 u0) (.int .i64 u1) (.int .i64 u2)) := (h3_at rfl).ext xw4
            have E4 : Ext w w4 := Ext.trans (Ext.alloc (E3) _) xw4
            clear xw4 E3 Fa_3 Fb_3 db0 db1 db2
            have du0 := fun p0 => (H3.alloc (Fu_4.out) p0).1
            have du1 := fun p0 => (H3.alloc (Fu_4.out) p0).2.1
            have du2 := fun p0 => (H3.alloc (Fu_4.out) p0).2.2.1
            go_wp2_with (go_at_call 9; refine (num3_any _ _).mono ?_; rintro e wx ⟨rfl, hwx⟩; have hwy := hwx.symm; clear hwx; subst hwy)
            refine (HD.out _).mono ?_
            rintro e w5 ⟨rfl, xw5⟩
            have Fu_5 : Hid (H3 w5 (w3.heap.size) (.int .i64 u0) (.int .i64 u1) (.int .i64 u2)) := (H3.alloc (Fu_4.out) _).ext xw5
            have Fv_5 : Hid (H3 w5 (w4.heap.size) (.int .i64 v0) (.int .i64 v1) (.int .i64 v2)) := (h3_at rfl).ext xw5
            have E5 : Ext w w5 := Ext.trans (Ext.alloc (E4) _) xw5
            clear xw5 E4 Fa_4 Fb_4 Fu_4 du0 du1 du2
            obtain ⟨cu0, cu1, cu2, cu3, cu4, cu5, cu6⟩ := Fu_5.out
            obtain ⟨cv0, cv1, cv2, cv3, cv4, cv5, cv6⟩ := Fv_5.out
            go_wp2_with fail
            refine (HSf.out _).mono ?_
            rintro e w6 ⟨rfl, xw6⟩
            have Fu_6 : Hid (H3 w6 (w3.heap.size) (.int .i64 u0) (.int .i64 u1) (.int .i64 u2)) := (Fu_5.out).ext xw6
            have Fv_6 : Hid (H3 w6 (w4.heap.size) (.int .i64 v0) (.int .i64 v1) (.int .i64 v2)) := (Fv_5.out).ext xw6
            have E6 : Ext w w6 := Ext.trans (E5) xw6
            clear xw6 E5 Fu_5 Fv_5 cu0 cu1 cu2 cu3 cu4 cu5 cu6 cv0 cv1 cv2 cv3 cv4 cv5 cv6
            obtain ⟨cu0, cu1, cu2, cu3, cu4, cu5, cu6⟩ := Fu_6.out
            obtain ⟨cv0, cv1, cv2, cv3, cv4, cv5, cv6⟩ := Fv_6.out
            go_wp2_with fail
            refine (HC.out _).mono ?_
            rintro e w7 ⟨rfl, xw7⟩
            have Fu_7 : Hid (H3 w7 (w3.heap.size) (.int .i64 u0) (.int .i64 u1) (.int .i64 u2)) := (Fu_6.out).ext xw7
            have Fv_7 : Hid (H3 w7 (w4.heap.size) (.int .i64 v0) (.int .i64 v1) (.int .i64 v2)) := (Fv_6.out).ext xw7
            have E7 : Ext w w7 := Ext.trans (E6) xw7
            clear xw7 E6 Fu_6 Fv_6 cu0 cu1 cu2 cu3 cu4 cu5 cu6 cv0 cv1 cv2 cv3 cv4 cv5 cv6
            go_wp2_with fail
            refine (HNn.out _).mono ?_
            rintro e w8 ⟨rfl, xw8⟩
            have Fc_8 : Hid (H3 w8 (w7.heap.size) (.int .i64 c0) (.int .i64 c1) (.int .i64 c2)) := (h3_at rfl).ext xw8
            have E8 : Ext w w8 := Ext.trans (Ext.alloc (E7) _) xw8
            clear xw8 E7 Fu_7 Fv_7
            go_wp2_with (go_at_call 9; refine (num3_any _ _).mono ?_; rintro e wx ⟨rfl, hwx⟩; have hwy := hwx.symm; clear hwx; subst hwy)
            go_roundw
            case rel => exact ⟨k + 1, by omega, by go_num, E8⟩
            case measure => simp [intOf]; omega
      · go_wp2_with fail
        refine (wakes3_any _).mono ?_
        rintro e w1 ⟨rfl, x1⟩
        go_wp2_with fail
        go_ret
        exact ⟨rfl, hx.trans x1⟩
    · go_wp2_with fail
      refine (wakes3_any _).mono ?_
      rintro e w1 ⟨rfl, x1⟩
      go_wp2_with fail
      go_ret
      exact ⟨rfl, hx.trans x1⟩

set_option maxHeartbeats 1000000 in
set_option maxRecDepth 20000 in
theorem bounds_none (a : Option Addr) (cap : Nat) (w : World) :
    Calls Try.prog 4 #[.slice a 0 cap] w fun e w' => e = .returned (.bool true) ∧ Ext w w' := by
  go_enter Try.func4, Try.ntmps4
  go_wp2_with fail
  refine wp_loop_rounds 1 ?_
  rw [rounds_succ]
  go_wp2_with fail
  refine (wakes3_any _).mono ?_
  rintro e w1 ⟨rfl, x1⟩
  go_wp2_with fail
  go_ret
  exact ⟨rfl, x1⟩
end Go.Proofs.Ytllgknodgmgemaa
