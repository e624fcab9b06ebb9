/- Sums and differences of any vectors are so number by number, or refused: for every list of entries VecSums tells true, and changes nothing that was there.
   Its conditions: none beyond the given statement's own. -/
import Derived.Test.YtbmodfhnenlmgaaRA
import Derived.Test.YtbmodfhnenlmgaaLA
namespace Go.Proofs.Ytbmodfhnenlmgaa
open Go.RowKit Go.Shelf

set_option maxHeartbeats 40000000 in
set_option maxRecDepth 20000 in
theorem sums_any (b off len cap : Nat) (Z : Nat → Nat → Int) (w : World) (hl : len ≤ maxLen) (hc : Twos3 w b off len Z) :
    Calls Try.prog 3 #[.slice (some ⟨b, off, none⟩) len cap] w fun e w' => e = .returned (.bool true) ∧ Ext w w' := by
  have hl' : len ≤ 9223372036854775807 := by unfold maxLen at hl; omega
  clear hl
  go_enter Try.func3, Try.ntmps3
  go_wp2_with fail
  go_loopw [3] (fun i wr => ∃ k : Nat, k ≤ len ∧ i = .int .i64 k ∧ Ext w wr) (fun i _ => len - (intOf i).toNat)
  case atStart => exact ⟨0, Nat.zero_le _, rfl, Ext.refl _⟩
  case round =>
    obtain ⟨k, hk, rfl, hx⟩ := hrel
    by_cases hlt : k < len
    · by_cases h20 : k < 20
      · have RW := (hc.ext hx).row hlt
        have hlt' : (k : Int) < (len : Int) := by omega
        have BB : Hid (∀ j, j < 6 → -9223372036854775808 ≤ Z k j ∧ Z k j ≤ 9223372036854775807) := fun j hj => (hc k hlt j (by omega)).2
        have B0 : Hid _ := BB.out 0 (by omega)
        have B1 : Hid _ := BB.out 1 (by omega)
        have B2 : Hid _ := BB.out 2 (by omega)
        have B3 : Hid _ := BB.out 3 (by omega)
        have B4 : Hid _ := BB.out 4 (by omega)
        have B5 : Hid _ := BB.out 5 (by omega)
        clear BB
        generalize Z k 0 = a0 at *
        generalize Z k 1 = a1 at *
        generalize Z k 2 = a2 at *
        generalize Z k 3 = b0 at *
        generalize Z k 4 = b1 at *
        generalize Z k 5 = b2 at *
        obtain ⟨z0, z1, z2, z3, z4, z5⟩ := RW
        have q0 := fun x => cell_al z0 x
        have q1 := fun x => cell_al z1 x
        have q2 := fun x => cell_al z2 x
        have q3 := fun x => cell_al z3 x
        have q4 := fun x => cell_al z4 x
        have q5 := fun x => cell_al z5 x
        have s0 := fun x y => cell_al2 z0 x y
        have s1 := fun x y => cell_al2 z1 x y
        have s2 := fun x y => cell_al2 z2 x y
        have s3 := fun x y => cell_al2 z3 x y
        have s4 := fun x y => cell_al2 z4 x y
        have s5 := fun x y => cell_al2 z5 x y
        go_wp2_with fail
        go_region
        · clear z0 z1 z2 z3 z4 z5 q0 q1 q2 q3 q4 q5 s0 s1 s2 s3 s4 s5
          cases g1 : ok3 a0 a1 a2
          · have HMa : Hid (∀ w', Calls Try.prog 8 #[.agg #[.int .i64 a0, .int .i64 a1, .int .i64 a2]] w' fun e w'' => e = .returned (.bool false) ∧ Ext w' w'') := fun w' => by have h := mayv_any a0 a1 a2 w'; rw [g1] at h; exact h
            have HA : Hid (∀ w', Calls Try.prog 6 #[.agg #[.int .i64 a0, .int .i64 a1, .int .i64 a2], .agg #[.int .i64 b0, .int .i64 b1, .int .i64 b2]] w' fun e w'' => e = .returned (.tuple #[.agg #[.int .i64 0, .int .i64 0, .int .i64 0], .int .i64 1]) ∧ Ext w' w'') := fun w' => vAdd_no a0 a1 a2 b0 b1 b2 w' (by rw [g1]; rfl)
            have HS : Hid (∀ w', Calls Try.prog 7 #[.agg #[.int .i64 a0, .int .i64 a1, .int .i64 a2], .agg #[.int .i64 b0, .int .i64 b1, .int .i64 b2]] w' fun e w'' => e = .returned (.tuple #[.agg #[.int .i64 0, .int .i64 0, .int .i64 0], .int .i64 1]) ∧ Ext w' w'') := fun w' => vSub_no a0 a1 a2 b0 b1 b2 w' (by rw [g1]; rfl)
            have HI : Hid (∀ w', Calls Try.prog 11 #[.agg #[.int .i64 0, .int .i64 0, .int .i64 0], .int .i64 1, .agg #[.int .i64 0, .int .i64 0, .int .i64 0], .int .i64 1] w' fun e w'' => e = .returned (.bool true) ∧ Ext w' w'') := fun w' => is3_any 0 0 0 1 w' (.inr ⟨rfl, rfl, rfl, by decide⟩)
            clear g1 B0 B1 B2 B3 B4 B5
            go_wp2_with fail
            refine (HA.out _).mono ?_
            rintro e w1 ⟨rfl, xw1⟩
            have Fa_1 : Hid (H3 w1 (wr.heap.size) (.int .i64 a0) (.int .i64 a1) (.int .i64 a2)) := (H3.drew (H3.alloc (h3_at rfl) _)).ext xw1
            have Fb_1 : Hid (H3 w1 (wr.heap.size + 1) (.int .i64 b0) (.int .i64 b1) (.int .i64 b2)) := (H3.drew (h3_at (by simp))).ext xw1
            have E1 : Ext w w1 := Ext.trans (Ext.drew (Ext.alloc (Ext.alloc hx _) _)) xw1
            clear xw1
            have da0 := fun p0 => (H3.alloc (Fa_1.out) p0).1
            have da1 := fun p0 => (H3.alloc (Fa_1.out) p0).2.1
            have da2 := fun p0 => (H3.alloc (Fa_1.out) p0).2.2.1
            have db0 := fun p0 => (H3.alloc (Fb_1.out) p0).1
            have db1 := fun p0 => (H3.alloc (Fb_1.out) p0).2.1
            have db2 := fun p0 => (H3.alloc (Fb_1.out) p0).2.2.1
            go_wp2_with fail
            refine (HS.out _).mono ?_
            rintro e w2 ⟨rfl, xw2⟩
            have Fa_2 : Hid (H3 w2 (wr.heap.size) (.int .i64 a0) (.int .i64 a1) (.int .i64 a2)) := (H3.alloc (Fa_1.out) _).ext xw2
            have Fb_2 : Hid (H3 w2 (wr.heap.size + 1) (.int .i64 b0) (.int .i64 b1) (.int .i64 b2)) := (H3.alloc (Fb_1.out) _).ext xw2
            have Fx_2 : Hid (H3 w2 (w1.heap.size) (.int .i64 0) (.int .i64 0) (.int .i64 0)) := (h3_at rfl).ext xw2
            have E2 : Ext w w2 := Ext.trans (Ext.alloc (E1) _) xw2
            clear xw2 E1 Fa_1 Fb_1 da0 da1 da2 db0 db1 db2
            have da0 := fun p0 p1 p2 => (H3.alloc (H3.alloc (H3.alloc (Fa_2.out) p0) p1) p2).1
            have da1 := fun p0 p1 p2 => (H3.alloc (H3.alloc (H3.alloc (Fa_2.out) p0) p1) p2).2.1
            have da2 := fun p0 p1 p2 => (H3.alloc (H3.alloc (H3.alloc (Fa_2.out) p0) p1) p2).2.2.1
            go_wp2_with fail
            refine (HMa.out _).mono ?_
            rintro e w3 ⟨rfl, xw3⟩
            have Fa_3 : Hid (H3 w3 (wr.heap.size) (.int .i64 a0) (.int .i64 a1) (.int .i64 a2)) := (H3.alloc (H3.alloc (H3.alloc (Fa_2.out) _) _) _).ext xw3
            have Fb_3 : Hid (H3 w3 (wr.heap.size + 1) (.int .i64 b0) (.int .i64 b1) (.int .i64 b2)) := (H3.alloc (H3.alloc (H3.alloc (Fb_2.out) _) _) _).ext xw3
            have Fx_3 : Hid (H3 w3 (w1.heap.size) (.int .i64 0) (.int .i64 0) (.int .i64 0)) := (H3.alloc (H3.alloc (H3.alloc (Fx_2.out) _) _) _).ext xw3
            have Fy_3 : Hid (H3 w3 (w2.heap.size) (.int .i64 0) (.int .i64 0) (.int .i64 0)) := (H3.alloc (H3.alloc (h3_at rfl) _) _).ext xw3
            have Fs_3 : Hid (H3 w3 (w2.heap.size + 1) (.int .i64 0) (.int .i64 0) (.int .i64 0)) := (H3.alloc (h3_at (by simp)) _).ext xw3
            have Ft_3 : Hid (H3 w3 (w2.heap.size + 1 + 1) (.int .i64 0) (.int .i64 0) (.int .i64 0)) := (h3_at (by simp)).ext xw3
            have E3 : Ext w w3 := Ext.trans (Ext.alloc (Ext.alloc (Ext.alloc (E2) _) _) _) xw3
            clear xw3 E2 Fa_2 Fb_2 Fx_2 da0 da1 da2
            obtain ⟨cx0, cx1, cx2, cx3, cx4, cx5, cx6⟩ := Fx_3.out
            obtain ⟨cs0, cs1, cs2, cs3, cs4, cs5, cs6⟩ := Fs_3.out
            go_wp2_with fail
            refine (HI.out _).mono ?_
            rintro e w4 ⟨rfl, xw4⟩
            have Fx_4 : Hid (H3 w4 (w1.heap.size) (.int .i64 0) (.int .i64 0) (.int .i64 0)) := (Fx_3.out).ext xw4
            have Fy_4 : Hid (H3 w4 (w2.heap.size) (.int .i64 0) (.int .i64 0) (.int .i64 0)) := (Fy_3.out).ext xw4
            have Fs_4 : Hid (H3 w4 (w2.heap.size + 1) (.int .i64 0) (.int .i64 0) (.int .i64 0)) := (Fs_3.out).ext xw4
            have Ft_4 : Hid (H3 w4 (w2.heap.size + 1 + 1) (.int .i64 0) (.int .i64 0) (.int .i64 0)) := (Ft_3.out).ext xw4
            have E4 : Ext w w4 := Ext.trans (E3) xw4
            clear xw4 E3 Fa_3 Fb_3 Fx_3 Fy_3 Fs_3 Ft_3 cx0 cx1 cx2 cx3 cx4 cx5 cx6 cs0 cs1 cs2 cs3 cs4 cs5 cs6
            obtain ⟨cy0, cy1, cy2, cy3, cy4, cy5, cy6⟩ := Fy_4.out
            obtain ⟨ct0, ct1, ct2, ct3, ct4, ct5, ct6⟩ := Ft_4.out
            go_wp2_with fail
            refine (HI.out _).mono ?_
            rintro e w5 ⟨rfl, xw5⟩
            have Fy_5 : Hid (H3 w5 (w2.heap.size) (.int .i64 0) (.int .i64 0) (.int .i64 0)) := (Fy_4.out).ext xw5
            have Ft_5 : Hid (H3 w5 (w2.heap.size + 1 + 1) (.int .i64 0) (.int .i64 0) (.int .i64 0)) := (Ft_4.out).ext xw5
            have E5 : Ext w w5 := Ext.trans (E4) xw5
            clear xw5 E4 Fx_4 Fy_4 Fs_4 Ft_4 cy0 cy1 cy2 cy3 cy4 cy5 cy6 ct0 ct1 ct2 ct3 ct4 ct5 ct6
            go_wp2_with fail
            go_roundw
            case rel => exact ⟨k + 1, by omega, by go_num, E5⟩
            case measure => simp [intOf]; omega
          · have HMa : Hid (∀ w', Calls Try.prog 8 #[.agg #[.int .i64 a0, .int .i64 a1, .int .i64 a2]] w' fun e w'' => e = .returned (.bool true) ∧ Ext w' w'') := fun w' => by have h := mayv_any a0 a1 a2 w'; rw [g1] at h; exact h
            cases g2 : ok3 b0 b1 b2
            · have HMb : Hid (∀ w', Calls Try.prog 8 #[.agg #[.int .i64 b0, .int .i64 b1, .int .i64 b2]] w' fun e w'' => e = .returned (.bool false) ∧ Ext w' w'') := fun w' => by have h := mayv_any b0 b1 b2 w'; rw [g2] at h; exact h
              have HA : Hid (∀ w', Calls Try.prog 6 #[.agg #[.int .i64 a0, .int .i64 a1, .int .i64 a2], .agg #[.int .i64 b0, .int .i64 b1, .int .i64 b2]] w' fun e w'' => e = .returned (.tuple #[.agg #[.int .i64 0, .int .i64 0, .int .i64 0], .int .i64 1]) ∧ Ext w' w'') := fun w' => vAdd_no a0 a1 a2 b0 b1 b2 w' (by rw [g1, g2]; rfl)
              have HS : Hid (∀ w', Calls Try.prog 7 #[.agg #[.int .i64 a0, .int .i64 a1, .int .i64 a2], .agg #[.int .i64 b0, .int .i64 b1, .int .i64 b2]] w' fun e w'' => e = .returned (.tuple #[.agg #[.int .i64 0, .int .i64 0, .int .i64 0], .int .i64 1]) ∧ Ext w' w'') := fun w' => vSub_no a0 a1 a2 b0 b1 b2 w' (by rw [g1, g2]; rfl)
              have HI : Hid (∀ w', Calls Try.prog 11 #[.agg #[.int .i64 0, .int .i64 0, .int .i64 0], .int .i64 1, .agg #[.int .i64 0, .int .i64 0, .int .i64 0], .int .i64 1] w' fun e w'' => e = .returned (.bool true) ∧ Ext w' w'') := fun w' => is3_any 0 0 0 1 w' (.inr ⟨rfl, rfl, rfl, by decide⟩)
              clear g1 g2 B0 B1 B2 B3 B4 B5
              go_wp2_with fail
              refine (HA.out _).mono ?_
              rintro e w1 ⟨rfl, xw1⟩
              have Fa_1 : Hid (H3 w1 (wr.heap.size) (.int .i64 a0) (.int .i64 a1) (.int .i64 a2)) := (H3.drew (H3.alloc (h3_at rfl) _)).ext xw1
              have Fb_1 : Hid (H3 w1 (wr.heap.size + 1) (.int .i64 b0) (.int .i64 b1) (.int .i64 b2)) := (H3.drew (h3_at (by simp))).ext xw1
              have E1 : Ext w w1 := Ext.trans (Ext.drew (Ext.alloc (Ext.alloc hx _) _)) xw1
              clear xw1
              have da0 := fun p0 => (H3.alloc (Fa_1.out) p0).1
              have da1 := fun p0 => (H3.alloc (Fa_1.out) p0).2.1
              have da2 := fun p0 => (H3.alloc (Fa_1.out) p0).2.2.1
              have db0 := fun p0 => (H3.alloc (Fb_1.out) p0).1
              have db1 := fun p0 => (H3.alloc (Fb_1.out) p0).2.1
              have db2 := fun p0 => (H3.alloc (Fb_1.out) p0).2.2.1
              go_wp2_with fail
              refine (HS.out _).mono ?_
              rintro e w2 ⟨rfl, xw2⟩
              have Fa_2 : Hid (H3 w2 (wr.heap.size) (.int .i64 a0) (.int .i64 a1) (.int .i64 a2)) := (H3.alloc (Fa_1.out) _).ext xw2
              have Fb_2 : Hid (H3 w2 (wr.heap.size + 1) (.int .i64 b0) (.int .i64 b1) (.int .i64 b2)) := (H3.alloc (Fb_1.out) _).ext xw2
              have Fx_2 : Hid (H3 w2 (w1.heap.size) (.int .i64 0) (.int .i64 0) (.int .i64 0)) := (h3_at rfl).ext xw2
              have E2 : Ext w w2 := Ext.trans (Ext.alloc (E1) _) xw2
              clear xw2 E1 Fa_1 Fb_1 da0 da1 da2 db0 db1 db2
              have da0 := fun p0 p1 p2 => (H3.alloc (H3.alloc (H3.alloc (Fa_2.out) p0) p1) p2).1
              have da1 := fun p0 p1 p2 => (H3.alloc (H3.alloc (H3.alloc (Fa_2.out) p0) p1) p2).2.1
              have da2 := fun p0 p1 p2 => (H3.alloc (H3.alloc (H3.alloc (Fa_2.out) p0) p1) p2).2.2.1
              go_wp2_with fail
              refine (HMa.out _).mono ?_
              rintro e w3 ⟨rfl, xw3⟩
              have Fa_3 : Hid (H3 w3 (wr.heap.size) (.int .i64 a0) (.int .i64 a1) (.int .i64 a2)) := (H3.alloc (H3.alloc (H3.alloc (Fa_2.out) _) _) _).ext xw3
              have Fb_3 : Hid (H3 w3 (wr.heap.size + 1) (.int .i64 b0) (.int .i64 b1) (.int .i64 b2)) := (H3.alloc (H3.alloc (H3.alloc (Fb_2.out) _) _) _).ext xw3
              have Fx_3 : Hid (H3 w3 (w1.heap.size) (.int .i64 0) (.int .i64 0) (.int .i64 0)) := (H3.alloc (H3.alloc (H3.alloc (Fx_2.out) _) _) _).ext xw3
              have Fy_3 : Hid (H3 w3 (w2.heap.size) (.int .i64 0) (.int .i64 0) (.int .i64 0)) := (H3.alloc (H3.alloc (h3_at rfl) _) _).ext xw3
              have Fs_3 : Hid (H3 w3 (w2.heap.size + 1) (.int .i64 0) (.int .i64 0) (.int .i64 0)) := (H3.alloc (h3_at (by simp)) _).ext xw3
              have Ft_3 : Hid (H3 w3 (w2.heap.size + 1 + 1) (.int .i64 0) (.int .i64 0) (.int .i64 0)) := (h3_at (by simp)).ext xw3
              have E3 : Ext w w3 := Ext.trans (Ext.alloc (Ext.alloc (Ext.alloc (E2) _) _) _) xw3
              clear xw3 E2 Fa_2 Fb_2 Fx_2 da0 da1 da2
              obtain ⟨cb0, cb1, cb2, cb3, cb4, cb5, cb6⟩ := Fb_3.out
              go_wp2_with fail
              refine (HMb.out _).mono ?_
              rintro e w4 ⟨rfl, xw4⟩
              have Fb_4 : Hid (H3 w4 (wr.heap.size + 1) (.int .i64 b0) (.int .i64 b1) (.int .i64 b2)) := (Fb_3.out).ext xw4
              have Fx_4 : Hid (H3 w4 (w1.heap.size) (.int .i64 0) (.int .i64 0) (.int .i64 0)) := (Fx_3.out).ext xw4
              have Fy_4 : Hid (H3 w4 (w2.heap.size) (.int .i64 0) (.int .i64 0) (.int .i64 0)) := (Fy_3.out).ext xw4
              have Fs_4 : Hid (H3 w4 (w2.heap.size + 1) (.int .i64 0) (.int .i64 0) (.int .i64 0)) := (Fs_3.out).ext xw4
              have Ft_4 : Hid (H3 w4 (w2.heap.size + 1 + 1) (.int .i64 0) (.int .i64 0) (.int .i64 0)) := (Ft_3.out).ext xw4
              have E4 : Ext w w4 := Ext.trans (E3) xw4
              clear xw4 E3 Fa_3 Fb_3 Fx_3 Fy_3 Fs_3 Ft_3 cb0 cb1 cb2 cb3 cb4 cb5 cb6
              obtain ⟨cx0, cx1, cx2, cx3, cx4, cx5, cx6⟩ := Fx_4.out
              obtain ⟨cs0, cs1, cs2, cs3, cs4, cs5, cs6⟩ := Fs_4.out
              go_wp2_with fail
              refine (HI.out _).mono ?_
              rintro e w5 ⟨rfl, xw5⟩
              have Fx_5 : Hid (H3 w5 (w1.heap.size) (.int .i64 0) (.int .i64 0) (.int .i64 0)) := (Fx_4.out).ext xw5
              have Fy_5 : Hid (H3 w5 (w2.heap.size) (.int .i64 0) (.int .i64 0) (.int .i64 0)) := (Fy_4.out).ext xw5
              have Fs_5 : Hid (H3 w5 (w2.heap.size + 1) (.int .i64 0) (.int .i64 0) (.int .i64 0)) := (Fs_4.out).ext xw5
              have Ft_5 : Hid (H3 w5 (w2.heap.size + 1 + 1) (.int .i64 0) (.int .i64 0) (.int .i64 0)) := (Ft_4.out).ext xw5
              have E5 : Ext w w5 := Ext.trans (E4) xw5
              clear xw5 E4 Fb_4 Fx_4 Fy_4 Fs_4 Ft_4 cx0 cx1 cx2 cx3 cx4 cx5 cx6 cs0 cs1 cs2 cs3 cs4 cs5 cs6
              obtain ⟨cy0, cy1, cy2, cy3, cy4, cy5, cy6⟩ := Fy_5.out
              obtain ⟨ct0, ct1, ct2, ct3, ct4, ct5, ct6⟩ := Ft_5.out
              go_wp2_with fail
              refine (HI.out _).mono ?_
              rintro e w6 ⟨rfl, xw6⟩
              have Fy_6 : Hid (H3 w6 (w2.heap.size) (.int .i64 0) (.int .i64 0) (.int .i64 0)) := (Fy_5.out).ext xw6
              have Ft_6 : Hid (H3 w6 (w2.heap.size + 1 + 1) (.int .i64 0) (.int .i64 0) (.int .i64 0)) := (Ft_5.out).ext xw6
              have E6 : Ext w w6 := Ext.trans (E5) xw6
              clear xw6 E5 Fx_5 Fy_5 Fs_5 Ft_5 cy0 cy1 cy2 cy3 cy4 cy5 cy6 ct0 ct1 ct2 ct3 ct4 ct5 ct6
              go_wp2_with fail
              go_roundw
              case rel => exact ⟨k + 1, by omega, by go_num, E6⟩
              case measure => simp [intOf]; omega
            · have HMb : Hid (∀ w', Calls Try.prog 8 #[.agg #[.int .i64 b0, .int .i64 b1, .int .i64 b2]] w' fun e w'' => e = .returned (.bool true) ∧ Ext w' w'') := fun w' => by have h := mayv_any b0 b1 b2 w'; rw [g2] at h; exact h
              obtain ⟨x0, x1, x2, xe, HA, HRA, HI1⟩ : ∃ x0 x1 x2 xe : Int, Hid (∀ w', Calls Try.prog 6 #[.agg #[.int .i64 a0, .int .i64 a1, .int .i64 a2], .agg #[.int .i64 b0, .int .i64 b1, .int .i64 b2]] w' fun e w'' => e = .returned (.tuple #[.agg #[.int .i64 x0, .int .i64 x1, .int .i64 x2], .int .i64 xe]) ∧ Ext w' w'') ∧ Hid (∀ w', Calls Try.prog 9 #[.agg #[.int .i64 a0, .int .i64 a1, .int .i64 a2], .agg #[.int .i64 b0, .int .i64 b1, .int .i64 b2]] w' fun e w'' => e = .returned (.tuple #[.agg #[.int .i64 x0, .int .i64 x1, .int .i64 x2], .int .i64 xe]) ∧ Ext w' w'') ∧ Hid (∀ w', Calls Try.prog 11 #[.agg #[.int .i64 x0, .int .i64 x1, .int .i64 x2], .int .i64 xe, .agg #[.int .i64 x0, .int .i64 x1, .int .i64 x2], .int .i64 xe] w' fun e w'' => e = .returned (.bool true) ∧ Ext w' w'') := by
                obtain ⟨x, y, z, e, hr, hq⟩ := vres_is (a0 + b0) (a1 + b1) (a2 + b2)
                have h1 := fun w' => vAdd_yes a0 a1 a2 b0 b1 b2 w' g1 g2
                have h2 := fun w' => radd_any a0 a1 a2 b0 b1 b2 w' g1 g2
                rw [hr] at h1 h2
                exact ⟨x, y, z, e, h1, h2, fun w' => is3_any x y z e w' hq⟩
              obtain ⟨y0, y1, y2, ye, HS, HRS, HI2⟩ : ∃ x0 x1 x2 xe : Int, Hid (∀ w', Calls Try.prog 7 #[.agg #[.int .i64 a0, .int .i64 a1, .int .i64 a2], .agg #[.int .i64 b0, .int .i64 b1, .int .i64 b2]] w' fun e w'' => e = .returned (.tuple #[.agg #[.int .i64 x0, .int .i64 x1, .int .i64 x2], .int .i64 xe]) ∧ Ext w' w'') ∧ Hid (∀ w', Calls Try.prog 10 #[.agg #[.int .i64 a0, .int .i64 a1, .int .i64 a2], .agg #[.int .i64 b0, .int .i64 b1, .int .i64 b2]] w' fun e w'' => e = .returned (.tuple #[.agg #[.int .i64 x0, .int .i64 x1, .int .i64 x2], .int .i64 xe]) ∧ Ext w' w'') ∧ Hid (∀ w', Calls Try.prog 11 #[.agg #[.int .i64 x0, .int .i64 x1, .int .i64 x2], .int .i64 xe, .agg #[.int .i64 x0, .int .i64 x1, .int .i64 x2], .int .i64 xe] w' fun e w'' => e = .returned (.bool true) ∧ Ext w' w'') := by
                obtain ⟨x, y, z, e, hr, hq⟩ := vres_is (a0 - b0) (a1 - b1) (a2 - b2)
                have h1 := fun w' => vSub_yes a0 a1 a2 b0 b1 b2 w' g1 g2
                have h2 := fun w' => rsub_any a0 a1 a2 b0 b1 b2 w' g1 g2
                rw [hr] at h1 h2
                exact ⟨x, y, z, e, h1, h2, fun w' => is3_any x y z e w' hq⟩
              clear g1 g2 B0 B1 B2 B3 B4 B5
              go_wp2_with fail
              refine (HA.out _).mono ?_
              rintro e w1 ⟨rfl, xw1⟩
              have Fa_1 : Hid (H3 w1 (wr.heap.size) (.int .i64 a0) (.int .i64 a1) (.int .i64 a2)) := (H3.drew (H3.alloc (h3_at rfl) _)).ext xw1
              have Fb_1 : Hid (H3 w1 (wr.heap.size + 1) (.int .i64 b0) (.int .i64 b1) (.int .i64 b2)) := (H3.drew (h3_at (by simp))).ext xw1
              have E1 : Ext w w1 := Ext.trans (Ext.drew (Ext.alloc (Ext.alloc hx _) _)) xw1
              clear xw1
              have da0 := fun p0 => (H3.alloc (Fa_1.out) p0).1
              have da1 := fun p0 => (H3.alloc (Fa_1.out) p0).2.1
              have da2 := fun p0 => (H3.alloc (Fa_1.out) p0).2.2.1
              have db0 := fun p0 => (H3.alloc (Fb_1.out) p0).1
              have db1 := fun p0 => (H3.alloc (Fb_1.out) p0).2.1
              have db2 := fun p0 => (H3.alloc (Fb_1.out) p0).2.2.1
              go_wp2_with fail
              refine (HS.out _).mono ?_
              rintro e w2 ⟨rfl, xw2⟩
              have Fa_2 : Hid (H3 w2 (wr.heap.size) (.int .i64 a0) (.int .i64 a1) (.int .i64 a2)) := (H3.alloc (Fa_1.out) _).ext xw2
              have Fb_2 : Hid (H3 w2 (wr.heap.size + 1) (.int .i64 b0) (.int .i64 b1) (.int .i64 b2)) := (H3.alloc (Fb_1.out) _).ext xw2
              have Fx_2 : Hid (H3 w2 (w1.heap.size) (.int .i64 x0) (.int .i64 x1) (.int .i64 x2)) := (h3_at rfl).ext xw2
              have E2 : Ext w w2 := Ext.trans (Ext.alloc (E1) _) xw2
              clear xw2 E1 Fa_1 Fb_1 da0 da1 da2 db0 db1 db2
              have SZ : w.heap.size ≤ w2.heap.size := E2.size
              have La : wr.heap.size < w2.heap.size := Fa_2.out.2.2.2.2.2.2
              have Lb : wr.heap.size + 1 < w2.heap.size := Fb_2.out.2.2.2.2.2.2
              have Lx : w1.heap.size < w2.heap.size := Fx_2.out.2.2.2.2.2.2
              have da0 := fun p0 p1 p2 => (H3.alloc (H3.alloc (H3.alloc (Fa_2.out) p0) p1) p2).1
              have da1 := fun p0 p1 p2 => (H3.alloc (H3.alloc (H3.alloc (Fa_2.out) p0) p1) p2).2.1
              have da2 := fun p0 p1 p2 => (H3.alloc (H3.alloc (H3.alloc (Fa_2.out) p0) p1) p2).2.2.1
              go_wp2_with fail
              refine (HMa.out _).mono ?_
              rintro e w3 ⟨rfl, xw3⟩
              have Fa_3 : Hid (H3 w3 (wr.heap.size) (.int .i64 a0) (.int .i64 a1) (.int .i64 a2)) := (H3.alloc (H3.alloc (H3.alloc (Fa_2.out) _) _) _).ext xw3
              have Fb_3 : Hid (H3 w3 (wr.heap.size + 1) (.int .i64 b0) (.int .i64 b1) (.int .i64 b2)) := (H3.alloc (H3.alloc (H3.alloc (Fb_2.out) _) _) _).ext xw3
              have Fx_3 : Hid (H3 w3 (w1.heap.size) (.int .i64 x0) (.int .i64 x1) (.int .i64 x2)) := (H3.alloc (H3.alloc (H3.alloc (Fx_2.out) _) _) _).ext xw3
              have Fy_3 : Hid (H3 w3 (w2.heap.size) (.int .i64 y0) (.int .i64 y1) (.int .i64 y2)) := (H3.alloc (H3.alloc (h3_at rfl) _) _).ext xw3
              have Fs_3 : Hid (H3 w3 (w2.heap.size + 1) (.int .i64 0) (.int .i64 0) (.int .i64 0)) := (H3.alloc (h3_at (by simp)) _).ext xw3
              have Ft_3 : Hid (H3 w3 (w2.heap.size + 1 + 1) (.int .i64 0) (.int .i64 0) (.int .i64 0)) := (h3_at (by simp)).ext xw3
              have E3 : Ext w w3 := Ext.trans (Ext.alloc (Ext.alloc (Ext.alloc (E2) _) _) _) xw3
              clear xw3 E2 Fa_2 Fb_2 Fx_2 da0 da1 da2
              obtain ⟨cb0, cb1, cb2, cb3, cb4, cb5, cb6⟩ := Fb_3.out
              go_wp2_with fail
              refine (HMb.out _).mono ?_
              rintro e w4 ⟨rfl, xw4⟩
              have Fa_4 : Hid (H3 w4 (wr.heap.size) (.int .i64 a0) (.int .i64 a1) (.int .i64 a2)) := (Fa_3.out).ext xw4
              have Fb_4 : Hid (H3 w4 (wr.heap.size + 1) (.int .i64 b0) (.int .i64 b1) (.int .i64 b2)) := (Fb_3.out).ext xw4
              have Fx_4 : Hid (H3 w4 (w1.heap.size) (.int .i64 x0) (.int .i64 x1) (.int .i64 x2)) := (Fx_3.out).ext xw4
              have Fy_4 : Hid (H3 w4 (w2.heap.size) (.int .i64 y0) (.int .i64 y1) (.int .i64 y2)) := (Fy_3.out).ext xw4
              have Fs_4 : Hid (H3 w4 (w2.heap.size + 1) (.int .i64 0) (.int .i64 0) (.int .i64 0)) := (Fs_3.out).ext xw4
              have Ft_4 : Hid (H3 w4 (w2.heap.size + 1 + 1) (.int .i64 0) (.int .i64 0) (.int .i64 0)) := (Ft_3.out).ext xw4
              have E4 : Ext w w4 := Ext.trans (E3) xw4
              clear xw4 E3 Fa_3 Fb_3 Fx_3 Fy_3 Fs_3 Ft_3 cb0 cb1 cb2 cb3 cb4 cb5 cb6
              obtain ⟨ca0, ca1, ca2, ca3, ca4, ca5, ca6⟩ := Fa_4.out
              obtain ⟨cb0, cb1, cb2, cb3, cb4, cb5, cb6⟩ := Fb_4.out
              go_wp2_with fail
              refine (HRA.out _).mono ?_
              rintro e w5 ⟨rfl, xw5⟩
              have Fa_5 : Hid (H3 w5 (wr.heap.size) (.int .i64 a0) (.int .i64 a1) (.int .i64 a2)) := (Fa_4.out).ext xw5
              have Fb_5 : Hid (H3 w5 (wr.heap.size + 1) (.int .i64 b0) (.int .i64 b1) (.int .i64 b2)) := (Fb_4.out).ext xw5
              have Fx_5 : Hid (H3 w5 (w1.heap.size) (.int .i64 x0) (.int .i64 x1) (.int .i64 x2)) := (Fx_4.out).ext xw5
              have Fy_5 : Hid (H3 w5 (w2.heap.size) (.int .i64 y0) (.int .i64 y1) (.int .i64 y2)) := (Fy_4.out).ext xw5
              have Fs_5 : Hid (H3 w5 (w2.heap.size + 1) (.int .i64 0) (.int .i64 0) (.int .i64 0)) := (Fs_4.out).ext xw5
              have Ft_5 : Hid (H3 w5 (w2.heap.size + 1 + 1) (.int .i64 0) (.int .i64 0) (.int .i64 0)) := (Ft_4.out).ext xw5
              have E5 : Ext w w5 := Ext.trans (E4) xw5
              clear xw5 E4 Fa_4 Fb_4 Fx_4 Fy_4 Fs_4 Ft_4 ca0 ca1 ca2 ca3 ca4 ca5 ca6 cb0 cb1 cb2 cb3 cb4 cb5 cb6
              have da0 := fun p q r => (H3.far3 (p := p) (q := q) (r := r) (g := w2.heap.size + 1) Fa_5.out (by omega)).1
              have da1 := fun p q r => (H3.far3 (p := p) (q := q) (r := r) (g := w2.heap.size + 1) Fa_5.out (by omega)).2.1
              have da2 := fun p q r => (H3.far3 (p := p) (q := q) (r := r) (g := w2.heap.size + 1) Fa_5.out (by omega)).2.2.1
              have db0 := fun p q r => (H3.far3 (p := p) (q := q) (r := r) (g := w2.heap.size + 1) Fb_5.out (by omega)).1
              have db1 := fun p q r => (H3.far3 (p := p) (q := q) (r := r) (g := w2.heap.size + 1) Fb_5.out (by omega)).2.1
              have db2 := fun p q r => (H3.far3 (p := p) (q := q) (r := r) (g := w2.heap.size + 1) Fb_5.out (by omega)).2.2.1
              obtain ⟨cs0, cs1, cs2, cs3, cs4, cs5, cs6⟩ := Fs_5.out
              go_wp2_with fail
              refine (HRS.out _).mono ?_
              rintro e w6 ⟨rfl, xw6⟩
              have Fa_6 : Hid (H3 w6 (wr.heap.size) (.int .i64 a0) (.int .i64 a1) (.int .i64 a2)) := (H3.far3 Fa_5.out (by omega)).ext xw6
              have Fb_6 : Hid (H3 w6 (wr.heap.size + 1) (.int .i64 b0) (.int .i64 b1) (.int .i64 b2)) := (H3.far3 Fb_5.out (by omega)).ext xw6
              have Fx_6 : Hid (H3 w6 (w1.heap.size) (.int .i64 x0) (.int .i64 x1) (.int .i64 x2)) := (H3.far3 Fx_5.out (by omega)).ext xw6
              have Fy_6 : Hid (H3 w6 (w2.heap.size) (.int .i64 y0) (.int .i64 y1) (.int .i64 y2)) := (H3.far3 Fy_5.out (by omega)).ext xw6
              have Fs_6 : Hid (H3 w6 (w2.heap.size + 1) (.int .i64 x0) (.int .i64 x1) (.int .i64 x2)) := (H3.set3 Fs_5.out _ _ _).ext xw6
              have Ft_6 : Hid (H3 w6 (w2.heap.size + 1 + 1) (.int .i64 0) (.int .i64 0) (.int .i64 0)) := (H3.far3 Ft_5.out (by omega)).ext xw6
              have E6 : Ext w w6 := Ext.trans (by repeat (first | with_reducible assumption | with_reducible exact Ext.refl _ | with_reducible refine Ext.drew ?_ | with_reducible refine Ext.drewN ?_ _ | with_reducible refine Ext.alloc ?_ _ | with_reducible refine Ext.set ?_ (by first | exact Nat.le_refl _ | (dsimp only; omega) | (simp; done)) _)) xw6
              clear xw6 E5 Fa_5 Fb_5 Fx_5 Fy_5 Fs_5 Ft_5 da0 da1 da2 db0 db1 db2 cs0 cs1 cs2 cs3 cs4 cs5 cs6
              have dx0 := fun p q r => (H3.far3 (p := p) (q := q) (r := r) (g := w2.heap.size + 1 + 1) Fx_6.out (by omega)).1
              have dx1 := fun p q r => (H3.far3 (p := p) (q := q) (r := r) (g := w2.heap.size + 1 + 1) Fx_6.out (by omega)).2.1
              have dx2 := fun p q r => (H3.far3 (p := p) (q := q) (r := r) (g := w2.heap.size + 1 + 1) Fx_6.out (by omega)).2.2.1
              have ds0 := fun p q r => (H3.far3 (p := p) (q := q) (r := r) (g := w2.heap.size + 1 + 1) Fs_6.out (by omega)).1
              have ds1 := fun p q r => (H3.far3 (p := p) (q := q) (r := r) (g := w2.heap.size + 1 + 1) Fs_6.out (by omega)).2.1
              have ds2 := fun p q r => (H3.far3 (p := p) (q := q) (r := r) (g := w2.heap.size + 1 + 1) Fs_6.out (by omega)).2.2.1
              obtain ⟨ct0, ct1, ct2, ct3, ct4, ct5, ct6⟩ := Ft_6.out
              go_wp2_with fail
              refine (HI1.out _).mono ?_
              rintro e w7 ⟨rfl, xw7⟩
              have Fx_7 : Hid (H3 w7 (w1.heap.size) (.int .i64 x0) (.int .i64 x1) (.int .i64 x2)) := (H3.far3 Fx_6.out (by omega)).ext xw7
              have Fy_7 : Hid (H3 w7 (w2.heap.size) (.int .i64 y0) (.int .i64 y1) (.int .i64 y2)) := (H3.far3 Fy_6.out (by omega)).ext xw7
              have Fs_7 : Hid (H3 w7 (w2.heap.size + 1) (.int .i64 x0) (.int .i64 x1) (.int .i64 x2)) := (H3.far3 Fs_6.out (by omega)).ext xw7
              have Ft_7 : Hid (H3 w7 (w2.heap.size + 1 + 1) (.int .i64 y0) (.int .i64 y1) (.int .i64 y2)) := (H3.set3 Ft_6.out _ _ _).ext xw7
              have E7 : Ext w w7 := Ext.trans (by repeat (first | with_reducible assumption | with_reducible exact Ext.refl _ | with_reducible refine Ext.drew ?_ | with_reducible refine Ext.drewN ?_ _ | with_reducible refine Ext.alloc ?_ _ | with_reducible refine Ext.set ?_ (by first | exact Nat.le_refl _ | (dsimp only; omega) | (simp; done)) _)) xw7
              clear xw7 E6 Fa_6 Fb_6 Fx_6 Fy_6 Fs_6 Ft_6 dx0 dx1 dx2 ds0 ds1 ds2 ct0 ct1 ct2 ct3 ct4 ct5 ct6
              obtain ⟨cy0, cy1, cy2, cy3, cy4, cy5, cy6⟩ := Fy_7.out
              obtain ⟨ct0, ct1, ct2, ct3, ct4, ct5, ct6⟩ := Ft_7.out
              go_wp2_with fail
              refine (HI2.out _).mono ?_
              rintro e w8 ⟨rfl, xw8⟩
              have Fy_8 : Hid (H3 w8 (w2.heap.size) (.int .i64 y0) (.int .i64 y1) (.int .i64 y2)) := (Fy_7.out).ext xw8
              have Ft_8 : Hid (H3 w8 (w2.heap.size + 1 + 1) (.int .i64 y0) (.int .i64 y1) (.int .i64 y2)) := (Ft_7.out).ext xw8
              have E8 : Ext w w8 := Ext.trans (E7) xw8
              clear xw8 E7 Fx_7 Fy_7 Fs_7 Ft_7 cy0 cy1 cy2 cy3 cy4 cy5 cy6 ct0 ct1 ct2 ct3 ct4 ct5 ct6
              go_wp2_with fail
              go_roundw
              case rel => exact ⟨k + 1, by omega, by go_num, E8⟩
              case measure => simp [intOf]; omega
        · clear z0 z1 z2 z3 z4 z5 q0 q1 q2 q3 q4 q5 s0 s1 s2 s3 s4 s5
          cases g1 : ok3 a0 a1 a2
          · have HMa : Hid (∀ w', Calls Try.prog 8 #[.agg #[.int .i64 a0, .int .i64 a1, .int .i64 a2]] w' fun e w'' => e = .returned (.bool false) ∧ Ext w' w'') := fun w' => by have h := mayv_any a0 a1 a2 w'; rw [g1] at h; exact h
            have HA : Hid (∀ w', Calls Try.prog 6 #[.agg #[.int .i64 a0, .int .i64 a1, .int .i64 a2], .agg #[.int .i64 b0, .int .i64 b1, .int .i64 b2]] w' fun e w'' => e = .returned (.tuple #[.agg #[.int .i64 0, .int .i64 0, .int .i64 0], .int .i64 1]) ∧ Ext w' w'') := fun w' => vAdd_no a0 a1 a2 b0 b1 b2 w' (by rw [g1]; rfl)
            have HS : Hid (∀ w', Calls Try.prog 7 #[.agg #[.int .i64 a0, .int .i64 a1, .int .i64 a2], .agg #[.int .i64 b0, .int .i64 b1, .int .i64 b2]] w' fun e w'' => e = .returned (.tuple #[.agg #[.int .i64 0, .int .i64 0, .int .i64 0], .int .i64 1]) ∧ Ext w' w'') := fun w' => vSub_no a0 a1 a2 b0 b1 b2 w' (by rw [g1]; rfl)
            have HI : Hid (∀ w', Calls Try.prog 11 #[.agg #[.int .i64 0, .int .i64 0, .int .i64 0], .int .i64 1, .agg #[.int .i64 0, .int .i64 0, .int .i64 0], .int .i64 1] w' fun e w'' => e = .returned (.bool true) ∧ Ext w' w'') := fun w' => is3_any 0 0 0 1 w' (.inr ⟨rfl, rfl, rfl, by decide⟩)
            clear g1 B0 B1 B2 B3 B4 B5
            go_wp2_with fail
            refine (HA.out _).mono ?_
            rintro e w1 ⟨rfl, xw1⟩
            have Fa_1 : Hid (H3 w1 (wr.heap.size + 1) (.int .i64 a0) (.int .i64 a1) (.int .i64 a2)) := (H3.drew (h3_at (by simp))).ext xw1
            have Fb_1 : Hid (H3 w1 (wr.heap.size) (.int .i64 b0) (.int .i64 b1) (.int .i64 b2)) := (H3.drew (H3.alloc (h3_at rfl) _)).ext xw1
            have E1 : Ext w w1 := Ext.trans (Ext.drew (Ext.alloc (Ext.alloc hx _) _)) xw1
            clear xw1
            have da0 := fun p0 => (H3.alloc (Fa_1.out) p0).1
            have da1 := fun p0 => (H3.alloc (Fa_1.out) p0).2.1
            have da2 := fun p0 => (H3.alloc (Fa_1.out) p0).2.2.1
            have db0 := fun p0 => (H3.alloc (Fb_1.out) p0).1
            have db1 := fun p0 => (H3.alloc (Fb_1.out) p0).2.1
            have db2 := fun p0 => (H3.alloc (Fb_1.out) p0).2.2.1
            go_wp2_with fail
            refine (HS.out _).mono ?_
            rintro e w2 ⟨rfl, xw2⟩
            have Fa_2 : Hid (H3 w2 (wr.heap.size + 1) (.int .i64 a0) (.int .i64 a1) (.int .i64 a2)) := (H3.alloc (Fa_1.out) _).ext xw2
            have Fb_2 : Hid (H3 w2 (wr.heap.size) (.int .i64 b0) (.int .i64 b1) (.int .i64 b2)) := (H3.alloc (Fb_1.out) _).ext xw2
            have Fx_2 : Hid (H3 w2 (w1.heap.size) (.int .i64 0) (.int .i64 0) (.int .i64 0)) := (h3_at rfl).ext xw2
            have E2 : Ext w w2 := Ext.trans (Ext.alloc (E1) _) xw2
            clear xw2 E1 Fa_1 Fb_1 da0 da1 da2 db0 db1 db2
            have da0 := fun p0 p1 p2 => (H3.alloc (H3.alloc (H3.alloc (Fa_2.out) p0) p1) p2).1
            have da1 := fun p0 p1 p2 => (H3.alloc (H3.alloc (H3.alloc (Fa_2.out) p0) p1) p2).2.1
            have da2 := fun p0 p1 p2 => (H3.alloc (H3.alloc (H3.alloc (Fa_2.out) p0) p1) p2).2.2.1
            go_wp2_with fail
            refine (HMa.out _).mono ?_
            rintro e w3 ⟨rfl, xw3⟩
            have Fa_3 : Hid (H3 w3 (wr.heap.size + 1) (.int .i64 a0) (.int .i64 a1) (.int .i64 a2)) := (H3.alloc (H3.alloc (H3.alloc (Fa_2.out) _) _) _).ext xw3
            have Fb_3 : Hid (H3 w3 (wr.heap.size) (.int .i64 b0) (.int .i64 b1) (.int .i64 b2)) := (H3.alloc (H3.alloc (H3.alloc (Fb_2.out) _) _) _).ext xw3
            have Fx_3 : Hid (H3 w3 (w1.heap.size) (.int .i64 0) (.int .i64 0) (.int .i64 0)) := (H3.alloc (H3.alloc (H3.alloc (Fx_2.out) _) _) _).ext xw3
            have Fy_3 : Hid (H3 w3 (w2.heap.size) (.int .i64 0) (.int .i64 0) (.int .i64 0)) := (H3.alloc (H3.alloc (h3_at rfl) _) _).ext xw3
            have Fs_3 : Hid (H3 w3 (w2.heap.size + 1) (.int .i64 0) (.int .i64 0) (.int .i64 0)) := (H3.alloc (h3_at (by simp)) _).ext xw3
            have Ft_3 : Hid (H3 w3 (w2.heap.size + 1 + 1) (.int .i64 0) (.int .i64 0) (.int .i64 0)) := (h3_at (by simp)).ext xw3
            have E3 : Ext w w3 := Ext.trans (Ext.alloc (Ext.alloc (Ext.alloc (E2) _) _) _) xw3
            clear xw3 E2 Fa_2 Fb_2 Fx_2 da0 da1 da2
            obtain ⟨cx0, cx1, cx2, cx3, cx4, cx5, cx6⟩ := Fx_3.out
            obtain ⟨cs0, cs1, cs2, cs3, cs4, cs5, cs6⟩ := Fs_3.out
            go_wp2_with fail
            refine (HI.out _).mono ?_
            rintro e w4 ⟨rfl, xw4⟩
            have Fx_4 : Hid (H3 w4 (w1.heap.size) (.int .i64 0) (.int .i64 0) (.int .i64 0)) := (Fx_3.out).ext xw4
            have Fy_4 : Hid (H3 w4 (w2.heap.size) (.int .i64 0) (.int .i64 0) (.int .i64 0)) := (Fy_3.out).ext xw4
            have Fs_4 : Hid (H3 w4 (w2.heap.size + 1) (.int .i64 0) (.int .i64 0) (.int .i64 0)) := (Fs_3.out).ext xw4
            have Ft_4 : Hid (H3 w4 (w2.heap.size + 1 + 1) (.int .i64 0) (.int .i64 0) (.int .i64 0)) := (Ft_3.out).ext xw4
            have E4 : Ext w w4 := Ext.trans (E3) xw4
            clear xw4 E3 Fa_3 Fb_3 Fx_3 Fy_3 Fs_3 Ft_3 cx0 cx1 cx2 cx3 cx4 cx5 cx6 cs0 cs1 cs2 cs3 cs4 cs5 cs6
            obtain ⟨cy0, cy1, cy2, cy3, cy4, cy5, cy6⟩ := Fy_4.out
            obtain ⟨ct0, ct1, ct2, ct3, ct4, ct5, ct6⟩ := Ft_4.out
            go_wp2_with fail
            refine (HI.out _).mono ?_
            rintro e w5 ⟨rfl, xw5⟩
            have Fy_5 : Hid (H3 w5 (w2.heap.size) (.int .i64 0) (.int .i64 0) (.int .i64 0)) := (Fy_4.out).ext xw5
            have Ft_5 : Hid (H3 w5 (w2.heap.size + 1 + 1) (.int .i64 0) (.int .i64 0) (.int .i64 0)) := (Ft_4.out).ext xw5
            have E5 : Ext w w5 := Ext.trans (E4) xw5
            clear xw5 E4 Fx_4 Fy_4 Fs_4 Ft_4 cy0 cy1 cy2 cy3 cy4 cy5 cy6 ct0 ct1 ct2 ct3 ct4 ct5 ct6
            go_wp2_with fail
            go_roundw
            case rel => exact ⟨k + 1, by omega, by go_num, E5⟩
            case measure => simp [intOf]; omega
          · have HMa : Hid (∀ w', Calls Try.prog 8 #[.agg #[.int .i64 a0, .int .i64 a1, .int .i64 a2]] w' fun e w'' => e = .returned (.bool true) ∧ Ext w' w'') := fun w' => by have h := mayv_any a0 a1 a2 w'; rw [g1] at h; exact h
            cases g2 : ok3 b0 b1 b2
            · have HMb : Hid (∀ w', Calls Try.prog 8 #[.agg #[.int .i64 b0, .int .i64 b1, .int .i64 b2]] w' fun e w'' => e = .returned (.bool false) ∧ Ext w' w'') := fun w' => by have h := mayv_any b0 b1 b2 w'; rw [g2] at h; exact h
              have HA : Hid (∀ w', Calls Try.prog 6 #[.agg #[.int .i64 a0, .int .i64 a1, .int .i64 a2], .agg #[.int .i64 b0, .int .i64 b1, .int .i64 b2]] w' fun e w'' => e = .returned (.tuple #[.agg #[.int .i64 0, .int .i64 0, .int .i64 0], .int .i64 1]) ∧ Ext w' w'') := fun w' => vAdd_no a0 a1 a2 b0 b1 b2 w' (by rw [g1, g2]; rfl)
              have HS : Hid (∀ w', Calls Try.prog 7 #[.agg #[.int .i64 a0, .int .i64 a1, .int .i64 a2], .agg #[.int .i64 b0, .int .i64 b1, .int .i64 b2]] w' fun e w'' => e = .returned (.tuple #[.agg #[.int .i64 0, .int .i64 0, .int .i64 0], .int .i64 1]) ∧ Ext w' w'') := fun w' => vSub_no a0 a1 a2 b0 b1 b2 w' (by rw [g1, g2]; rfl)
              have HI : Hid (∀ w', Calls Try.prog 11 #[.agg #[.int .i64 0, .int .i64 0, .int .i64 0], .int .i64 1, .agg #[.int .i64 0, .int .i64 0, .int .i64 0], .int .i64 1] w' fun e w'' => e = .returned (.bool true) ∧ Ext w' w'') := fun w' => is3_any 0 0 0 1 w' (.inr ⟨rfl, rfl, rfl, by decide⟩)
              clear g1 g2 B0 B1 B2 B3 B4 B5
              go_wp2_with fail
              refine (HA.out _).mono ?_
              rintro e w1 ⟨rfl, xw1⟩
              have Fa_1 : Hid (H3 w1 (wr.heap.size + 1) (.int .i64 a0) (.int .i64 a1) (.int .i64 a2)) := (H3.drew (h3_at (by simp))).ext xw1
              have Fb_1 : Hid (H3 w1 (wr.heap.size) (.int .i64 b0) (.int .i64 b1) (.int .i64 b2)) := (H3.drew (H3.alloc (h3_at rfl) _)).ext xw1
              have E1 : Ext w w1 := Ext.trans (Ext.drew (Ext.alloc (Ext.alloc hx _) _)) xw1
              clear xw1
              have da0 := fun p0 => (H3.alloc (Fa_1.out) p0).1
              have da1 := fun p0 => (H3.alloc (Fa_1.out) p0).2.1
              have da2 := fun p0 => (H3.alloc (Fa_1.out) p0).2.2.1
              have db0 := fun p0 => (H3.alloc (Fb_1.out) p0).1
              have db1 := fun p0 => (H3.alloc (Fb_1.out) p0).2.1
              have db2 := fun p0 => (H3.alloc (Fb_1.out) p0).2.2.1
              go_wp2_with fail
              refine (HS.out _).mono ?_
              rintro e w2 ⟨rfl, xw2⟩
              have Fa_2 : Hid (H3 w2 (wr.heap.size + 1) (.int .i64 a0) (.int .i64 a1) (.int .i64 a2)) := (H3.alloc (Fa_1.out) _).ext xw2
              have Fb_2 : Hid (H3 w2 (wr.heap.size) (.int .i64 b0) (.int .i64 b1) (.int .i64 b2)) := (H3.alloc (Fb_1.out) _).ext xw2
              have Fx_2 : Hid (H3 w2 (w1.heap.size) (.int .i64 0) (.int .i64 0) (.int .i64 0)) := (h3_at rfl).ext xw2
              have E2 : Ext w w2 := Ext.trans (Ext.alloc (E1) _) xw2
              clear xw2 E1 Fa_1 Fb_1 da0 da1 da2 db0 db1 db2
              have da0 := fun p0 p1 p2 => (H3.alloc (H3.alloc (H3.alloc (Fa_2.out) p0) p1) p2).1
              have da1 := fun p0 p1 p2 => (H3.alloc (H3.alloc (H3.alloc (Fa_2.out) p0) p1) p2).2.1
              have da2 := fun p0 p1 p2 => (H3.alloc (H3.alloc (H3.alloc (Fa_2.out) p0) p1) p2).2.2.1
              go_wp2_with fail
              refine (HMa.out _).mono ?_
              rintro e w3 ⟨rfl, xw3⟩
              have Fa_3 : Hid (H3 w3 (wr.heap.size + 1) (.int .i64 a0) (.int .i64 a1) (.int .i64 a2)) := (H3.alloc (H3.alloc (H3.alloc (Fa_2.out) _) _) _).ext xw3
              have Fb_3 : Hid (H3 w3 (wr.heap.size) (.int .i64 b0) (.int .i64 b1) (.int .i64 b2)) := (H3.alloc (H3.alloc (H3.alloc (Fb_2.out) _) _) _).ext xw3
              have Fx_3 : Hid (H3 w3 (w1.heap.size) (.int .i64 0) (.int .i64 0) (.int .i64 0)) := (H3.alloc (H3.alloc (H3.alloc (Fx_2.out) _) _) _).ext xw3
              have Fy_3 : Hid (H3 w3 (w2.heap.size) (.int .i64 0) (.int .i64 0) (.int .i64 0)) := (H3.alloc (H3.alloc (h3_at rfl) _) _).ext xw3
              have Fs_3 : Hid (H3 w3 (w2.heap.size + 1) (.int .i64 0) (.int .i64 0) (.int .i64 0)) := (H3.alloc (h3_at (by simp)) _).ext xw3
              have Ft_3 : Hid (H3 w3 (w2.heap.size + 1 + 1) (.int .i64 0) (.int .i64 0) (.int .i64 0)) := (h3_at (by simp)).ext xw3
              have E3 : Ext w w3 := Ext.trans (Ext.alloc (Ext.alloc (Ext.alloc (E2) _) _) _) xw3
              clear xw3 E2 Fa_2 Fb_2 Fx_2 da0 da1 da2
              obtain ⟨cb0, cb1, cb2, cb3, cb4, cb5, cb6⟩ := Fb_3.out
              go_wp2_with fail
              refine (HMb.out _).mono ?_
              rintro e w4 ⟨rfl, xw4⟩
              have Fb_4 : Hid (H3 w4 (wr.heap.size) (.int .i64 b0) (.int .i64 b1) (.int .i64 b2)) := (Fb_3.out).ext xw4
              have Fx_4 : Hid (H3 w4 (w1.heap.size) (.int .i64 0) (.int .i64 0) (.int .i64 0)) := (Fx_3.out).ext xw4
              have Fy_4 : Hid (H3 w4 (w2.heap.size) (.int .i64 0) (.int .i64 0) (.int .i64 0)) := (Fy_3.out).ext xw4
              have Fs_4 : Hid (H3 w4 (w2.heap.size + 1) (.int .i64 0) (.int .i64 0) (.int .i64 0)) := (Fs_3.out).ext xw4
              have Ft_4 : Hid (H3 w4 (w2.heap.size + 1 + 1) (.int .i64 0) (.int .i64 0) (.int .i64 0)) := (Ft_3.out).ext xw4
              have E4 : Ext w w4 := Ext.trans (E3) xw4
              clear xw4 E3 Fa_3 Fb_3 Fx_3 Fy_3 Fs_3 Ft_3 cb0 cb1 cb2 cb3 cb4 cb5 cb6
              obtain ⟨cx0, cx1, cx2, cx3, cx4, cx5, cx6⟩ := Fx_4.out
              obtain ⟨cs0, cs1, cs2, cs3, cs4, cs5, cs6⟩ := Fs_4.out
              go_wp2_with fail
              refine (HI.out _).mono ?_
              rintro e w5 ⟨rfl, xw5⟩
              have Fx_5 : Hid (H3 w5 (w1.heap.size) (.int .i64 0) (.int .i64 0) (.int .i64 0)) := (Fx_4.out).ext xw5
              have Fy_5 : Hid (H3 w5 (w2.heap.size) (.int .i64 0) (.int .i64 0) (.int .i64 0)) := (Fy_4.out).ext xw5
              have Fs_5 : Hid (H3 w5 (w2.heap.size + 1) (.int .i64 0) (.int .i64 0) (.int .i64 0)) := (Fs_4.out).ext xw5
              have Ft_5 : Hid (H3 w5 (w2.heap.size + 1 + 1) (.int .i64 0) (.int .i64 0) (.int .i64 0)) := (Ft_4.out).ext xw5
              have E5 : Ext w w5 := Ext.trans (E4) xw5
              clear xw5 E4 Fb_4 Fx_4 Fy_4 Fs_4 Ft_4 cx0 cx1 cx2 cx3 cx4 cx5 cx6 cs0 cs1 cs2 cs3 cs4 cs5 cs6
              obtain ⟨cy0, cy1, cy2, cy3, cy4, cy5, cy6⟩ := Fy_5.out
              obtain ⟨ct0, ct1, ct2, ct3, ct4, ct5, ct6⟩ := Ft_5.out
              go_wp2_with fail
              refine (HI.out _).mono ?_
              rintro e w6 ⟨rfl, xw6⟩
              have Fy_6 : Hid (H3 w6 (w2.heap.size) (.int .i64 0) (.int .i64 0) (.int .i64 0)) := (Fy_5.out).ext xw6
              have Ft_6 : Hid (H3 w6 (w2.heap.size + 1 + 1) (.int .i64 0) (.int .i64 0) (.int .i64 0)) := (Ft_5.out).ext xw6
              have E6 : Ext w w6 := Ext.trans (E5) xw6
              clear xw6 E5 Fx_5 Fy_5 Fs_5 Ft_5 cy0 cy1 cy2 cy3 cy4 cy5 cy6 ct0 ct1 ct2 ct3 ct4 ct5 ct6
              go_wp2_with fail
              go_roundw
              case rel => exact ⟨k + 1, by omega, by go_num, E6⟩
              case measure => simp [intOf]; omega
            · have HMb : Hid (∀ w', Calls Try.prog 8 #[.agg #[.int .i64 b0, .int .i64 b1, .int .i64 b2]] w' fun e w'' => e = .returned (.bool true) ∧ Ext w' w'') := fun w' => by have h := mayv_any b0 b1 b2 w'; rw [g2] at h; exact h
              obtain ⟨x0, x1, x2, xe, HA, HRA, HI1⟩ : ∃ x0 x1 x2 xe : Int, Hid (∀ w', Calls Try.prog 6 #[.agg #[.int .i64 a0, .int .i64 a1, .int .i64 a2], .agg #[.int .i64 b0, .int .i64 b1, .int .i64 b2]] w' fun e w'' => e = .returned (.tuple #[.agg #[.int .i64 x0, .int .i64 x1, .int .i64 x2], .int .i64 xe]) ∧ Ext w' w'') ∧ Hid (∀ w', Calls Try.prog 9 #[.agg #[.int .i64 a0, .int .i64 a1, .int .i64 a2], .agg #[.int .i64 b0, .int .i64 b1, .int .i64 b2]] w' fun e w'' => e = .returned (.tuple #[.agg #[.int .i64 x0, .int .i64 x1, .int .i64 x2], .int .i64 xe]) ∧ Ext w' w'') ∧ Hid (∀ w', Calls Try.prog 11 #[.agg #[.int .i64 x0, .int .i64 x1, .int .i64 x2], .int .i64 xe, .agg #[.int .i64 x0, .int .i64 x1, .int .i64 x2], .int .i64 xe] w' fun e w'' => e = .returned (.bool true) ∧ Ext w' w'') := by
                obtain ⟨x, y, z, e, hr, hq⟩ := vres_is (a0 + b0) (a1 + b1) (a2 + b2)
                have h1 := fun w' => vAdd_yes a0 a1 a2 b0 b1 b2 w' g1 g2
                have h2 := fun w' => radd_any a0 a1 a2 b0 b1 b2 w' g1 g2
                rw [hr] at h1 h2
                exact ⟨x, y, z, e, h1, h2, fun w' => is3_any x y z e w' hq⟩
              obtain ⟨y0, y1, y2, ye, HS, HRS, HI2⟩ : ∃ x0 x1 x2 xe : Int, Hid (∀ w', Calls Try.prog 7 #[.agg #[.int .i64 a0, .int .i64 a1, .int .i64 a2], .agg #[.int .i64 b0, .int .i64 b1, .int .i64 b2]] w' fun e w'' => e = .returned (.tuple #[.agg #[.int .i64 x0, .int .i64 x1, .int .i64 x2], .int .i64 xe]) ∧ Ext w' w'') ∧ Hid (∀ w', Calls Try.prog 10 #[.agg #[.int .i64 a0, .int .i64 a1, .int .i64 a2], .agg #[.int .i64 b0, .int .i64 b1, .int .i64 b2]] w' fun e w'' => e = .returned (.tuple #[.agg #[.int .i64 x0, .int .i64 x1, .int .i64 x2], .int .i64 xe]) ∧ Ext w' w'') ∧ Hid (∀ w', Calls Try.prog 11 #[.agg #[.int .i64 x0, .int .i64 x1, .int .i64 x2], .int .i64 xe, .agg #[.int .i64 x0, .int .i64 x1, .int .i64 x2], .int .i64 xe] w' fun e w'' => e = .returned (.bool true) ∧ Ext w' w'') := by
                obtain ⟨x, y, z, e, hr, hq⟩ := vres_is (a0 - b0) (a1 - b1) (a2 - b2)
                have h1 := fun w' => vSub_yes a0 a1 a2 b0 b1 b2 w' g1 g2
                have h2 := fun w' => rsub_any a0 a1 a2 b0 b1 b2 w' g1 g2
                rw [hr] at h1 h2
                exact ⟨x, y, z, e, h1, h2, fun w' => is3_any x y z e w' hq⟩
              clear g1 g2 B0 B1 B2 B3 B4 B5
              go_wp2_with fail
              refine (HA.out _).mono ?_
              rintro e w1 ⟨rfl, xw1⟩
              have Fa_1 : Hid (H3 w1 (wr.heap.size + 1) (.int .i64 a0) (.int .i64 a1) (.int .i64 a2)) := (H3.drew (h3_at (by simp))).ext xw1
              have Fb_1 : Hid (H3 w1 (wr.heap.size) (.int .i64 b0) (.int .i64 b1) (.int .i64 b2)) := (H3.drew (H3.alloc (h3_at rfl) _)).ext xw1
              have E1 : Ext w w1 := Ext.trans (Ext.drew (Ext.alloc (Ext.alloc hx _) _)) xw1
              clear xw1
              have da0 := fun p0 => (H3.alloc (Fa_1.out) p0).1
              have da1 := fun p0 => (H3.alloc (Fa_1.out) p0).2.1
              have da2 := fun p0 => (H3.alloc (Fa_1.out) p0).2.2.1
              have db0 := fun p0 => (H3.alloc (Fb_1.out) p0).1
              have db1 := fun p0 => (H3.alloc (Fb_1.out) p0).2.1
              have db2 := fun p0 => (H3.alloc (Fb_1.out) p0).2.2.1
              go_wp2_with fail
              refine (HS.out _).mono ?_
              rintro e w2 ⟨rfl, xw2⟩
              have Fa_2 : Hid (H3 w2 (wr.heap.size + 1) (.int .i64 a0) (.int .i64 a1) (.int .i64 a2)) := (H3.alloc (Fa_1.out) _).ext xw2
              have Fb_2 : Hid (H3 w2 (wr.heap.size) (.int .i64 b0) (.int .i64 b1) (.int .i64 b2)) := (H3.alloc (Fb_1.out) _).ext xw2
              have Fx_2 : Hid (H3 w2 (w1.heap.size) (.int .i64 x0) (.int .i64 x1) (.int .i64 x2)) := (h3_at rfl).ext xw2
              have E2 : Ext w w2 := Ext.trans (Ext.alloc (E1) _) xw2
              clear xw2 E1 Fa_1 Fb_1 da0 da1 da2 db0 db1 db2
              have SZ : w.heap.size ≤ w2.heap.size := E2.size
              have La : wr.heap.size + 1 < w2.heap.size := Fa_2.out.2.2.2.2.2.2
              have Lb : wr.heap.size < w2.heap.size := Fb_2.out.2.2.2.2.2.2
              have Lx : w1.heap.size < w2.heap.size := Fx_2.out.2.2.2.2.2.2
              have da0 := fun p0 p1 p2 => (H3.alloc (H3.alloc (H3.alloc (Fa_2.out) p0) p1) p2).1
              have da1 := fun p0 p1 p2 => (H3.alloc (H3.alloc (H3.alloc (Fa_2.out) p0) p1) p2).2.1
              have da2 := fun p0 p1 p2 => (H3.alloc (H3.alloc (H3.alloc (Fa_2.out) p0) p1) p2).2.2.1
              go_wp2_with fail
              refine (HMa.out _).mono ?_
              rintro e w3 ⟨rfl, xw3⟩
              have Fa_3 : Hid (H3 w3 (wr.heap.size + 1) (.int .i64 a0) (.int .i64 a1) (.int .i64 a2)) := (H3.alloc (H3.alloc (H3.alloc (Fa_2.out) _) _) _).ext xw3
              have Fb_3 : Hid (H3 w3 (wr.heap.size) (.int .i64 b0) (.int .i64 b1) (.int .i64 b2)) := (H3.alloc (H3.alloc (H3.alloc (Fb_2.out) _) _) _).ext xw3
              have Fx_3 : Hid (H3 w3 (w1.heap.size) (.int .i64 x0) (.int .i64 x1) (.int .i64 x2)) := (H3.alloc (H3.alloc (H3.alloc (Fx_2.out) _) _) _).ext xw3
              have Fy_3 : Hid (H3 w3 (w2.heap.size) (.int .i64 y0) (.int .i64 y1) (.int .i64 y2)) := (H3.alloc (H3.alloc (h3_at rfl) _) _).ext xw3
              have Fs_3 : Hid (H3 w3 (w2.heap.size + 1) (.int .i64 0) (.int .i64 0) (.int .i64 0)) := (H3.alloc (h3_at (by simp)) _).ext xw3
              have Ft_3 : Hid (H3 w3 (w2.heap.size + 1 + 1) (.int .i64 0) (.int .i64 0) (.int .i64 0)) := (h3_at (by simp)).ext xw3
              have E3 : Ext w w3 := Ext.trans (Ext.alloc (Ext.alloc (Ext.alloc (E2) _) _) _) xw3
              clear xw3 E2 Fa_2 Fb_2 Fx_2 da0 da1 da2
              obtain ⟨cb0, cb1, cb2, cb3, cb4, cb5, cb6⟩ := Fb_3.out
              go_wp2_with fail
              refine (HMb.out _).mono ?_
              rintro e w4 ⟨rfl, xw4⟩
              have Fa_4 : Hid (H3 w4 (wr.heap.size + 1) (.int .i64 a0) (.int .i64 a1) (.int .i64 a2)) := (Fa_3.out).ext xw4
              have Fb_4 : Hid (H3 w4 (wr.heap.size) (.int .i64 b0) (.int .i64 b1) (.int .i64 b2)) := (Fb_3.out).ext xw4
              have Fx_4 : Hid (H3 w4 (w1.heap.size) (.int .i64 x0) (.int .i64 x1) (.int .i64 x2)) := (Fx_3.out).ext xw4
              have Fy_4 : Hid (H3 w4 (w2.heap.size) (.int .i64 y0) (.int .i64 y1) (.int .i64 y2)) := (Fy_3.out).ext xw4
              have Fs_4 : Hid (H3 w4 (w2.heap.size + 1) (.int .i64 0) (.int .i64 0) (.int .i64 0)) := (Fs_3.out).ext xw4
              have Ft_4 : Hid (H3 w4 (w2.heap.size + 1 + 1) (.int .i64 0) (.int .i64 0) (.int .i64 0)) := (Ft_3.out).ext xw4
              have E4 : Ext w w4 := Ext.trans (E3) xw4
              clear xw4 E3 Fa_3 Fb_3 Fx_3 Fy_3 Fs_3 Ft_3 cb0 cb1 cb2 cb3 cb4 cb5 cb6
              obtain ⟨ca0, ca1, ca2, ca3, ca4, ca5, ca6⟩ := Fa_4.out
              obtain ⟨cb0, cb1, cb2, cb3, cb4, cb5, cb6⟩ := Fb_4.out
              go_wp2_with fail
              refine (HRA.out _).mono ?_
              rintro e w5 ⟨rfl, xw5⟩
              have Fa_5 : Hid (H3 w5 (wr.heap.size + 1) (.int .i64 a0) (.int .i64 a1) (.int .i64 a2)) := (Fa_4.out).ext xw5
              have Fb_5 : Hid (H3 w5 (wr.heap.size) (.int .i64 b0) (.int .i64 b1) (.int .i64 b2)) := (Fb_4.out).ext xw5
              have Fx_5 : Hid (H3 w5 (w1.heap.size) (.int .i64 x0) (.int .i64 x1) (.int .i64 x2)) := (Fx_4.out).ext xw5
              have Fy_5 : Hid (H3 w5 (w2.heap.size) (.int .i64 y0) (.int .i64 y1) (.int .i64 y2)) := (Fy_4.out).ext xw5
              have Fs_5 : Hid (H3 w5 (w2.heap.size + 1) (.int .i64 0) (.int .i64 0) (.int .i64 0)) := (Fs_4.out).ext xw5
              have Ft_5 : Hid (H3 w5 (w2.heap.size + 1 + 1) (.int .i64 0) (.int .i64 0) (.int .i64 0)) := (Ft_4.out).ext xw5
              have E5 : Ext w w5 := Ext.trans (E4) xw5
              clear xw5 E4 Fa_4 Fb_4 Fx_4 Fy_4 Fs_4 Ft_4 ca0 ca1 ca2 ca3 ca4 ca5 ca6 cb0 cb1 cb2 cb3 cb4 cb5 cb6
              have da0 := fun p q r => (H3.far3 (p := p) (q := q) (r := r) (g := w2.heap.size + 1) Fa_5.out (by omega)).1
              have da1 := fun p q r => (H3.far3 (p := p) (q := q) (r := r) (g := w2.heap.size + 1) Fa_5.out (by omega)).2.1
              have da2 := fun p q r => (H3.far3 (p := p) (q := q) (r := r) (g := w2.heap.size + 1) Fa_5.out (by omega)).2.2.1
              have db0 := fun p q r => (H3.far3 (p := p) (q := q) (r := r) (g := w2.heap.size + 1) Fb_5.out (by omega)).1
              have db1 := fun p q r => (H3.far3 (p := p) (q := q) (r := r) (g := w2.heap.size + 1) Fb_5.out (by omega)).2.1
              have db2 := fun p q r => (H3.far3 (p := p) (q := q) (r := r) (g := w2.heap.size + 1) Fb_5.out (by omega)).2.2.1
              obtain ⟨cs0, cs1, cs2, cs3, cs4, cs5, cs6⟩ := Fs_5.out
              go_wp2_with fail
              refine (HRS.out _).mono ?_
              rintro e w6 ⟨rfl, xw6⟩
              have Fa_6 : Hid (H3 w6 (wr.heap.size + 1) (.int .i64 a0) (.int .i64 a1) (.int .i64 a2)) := (H3.far3 Fa_5.out (by omega)).ext xw6
              have Fb_6 : Hid (H3 w6 (wr.heap.size) (.int .i64 b0) (.int .i64 b1) (.int .i64 b2)) := (H3.far3 Fb_5.out (by omega)).ext xw6
              have Fx_6 : Hid (H3 w6 (w1.heap.size) (.int .i64 x0) (.int .i64 x1) (.int .i64 x2)) := (H3.far3 Fx_5.out (by omega)).ext xw6
              have Fy_6 : Hid (H3 w6 (w2.heap.size) (.int .i64 y0) (.int .i64 y1) (.int .i64 y2)) := (H3.far3 Fy_5.out (by omega)).ext xw6
              have Fs_6 : Hid (H3 w6 (w2.heap.size + 1) (.int .i64 x0) (.int .i64 x1) (.int .i64 x2)) := (H3.set3 Fs_5.out _ _ _).ext xw6
              have Ft_6 : Hid (H3 w6 (w2.heap.size + 1 + 1) (.int .i64 0) (.int .i64 0) (.int .i64 0)) := (H3.far3 Ft_5.out (by omega)).ext xw6
              have E6 : Ext w w6 := Ext.trans (by repeat (first | with_reducible assumption | with_reducible exact Ext.refl _ | with_reducible refine Ext.drew ?_ | with_reducible refine Ext.drewN ?_ _ | with_reducible refine Ext.alloc ?_ _ | with_reducible refine Ext.set ?_ (by first | exact Nat.le_refl _ | (dsimp only; omega) | (simp; done)) _)) xw6
              clear xw6 E5 Fa_5 Fb_5 Fx_5 Fy_5 Fs_5 Ft_5 da0 da1 da2 db0 db1 db2 cs0 cs1 cs2 cs3 cs4 cs5 cs6
              have dx0 := fun p q r => (H3.far3 (p := p) (q := q) (r := r) (g := w2.heap.size + 1 + 1) Fx_6.out (by omega)).1
              have dx1 := fun p q r => (H3.far3 (p := p) (q := q) (r := r) (g := w2.heap.size + 1 + 1) Fx_6.out (by omega)).2.1
              have dx2 := fun p q r => (H3.far3 (p := p) (q := q) (r := r) (g := w2.heap.size + 1 + 1) Fx_6.out (by omega)).2.2.1
              have ds0 := fun p q r => (H3.far3 (p := p) (q := q) (r := r) (g := w2.heap.size + 1 + 1) Fs_6.out (by omega)).1
              have ds1 := fun p q r => (H3.far3 (p := p) (q := q) (r := r) (g := w2.heap.size + 1 + 1) Fs_6.out (by omega)).2.1
              have ds2 := fun p q r => (H3.far3 (p := p) (q := q) (r := r) (g := w2.heap.size + 1 + 1) Fs_6.out (by omega)).2.2.1
              obtain ⟨ct0, ct1, ct2, ct3, ct4, ct5, ct6⟩ := Ft_6.out
              go_wp2_with fail
              refine (HI1.out _).mono ?_
              rintro e w7 ⟨rfl, xw7⟩
              have Fx_7 : Hid (H3 w7 (w1.heap.size) (.int .i64 x0) (.int .i64 x1) (.int .i64 x2)) := (H3.far3 Fx_6.out (by omega)).ext xw7
              have Fy_7 : Hid (H3 w7 (w2.heap.size) (.int .i64 y0) (.int .i64 y1) (.int .i64 y2)) := (H3.far3 Fy_6.out (by omega)).ext xw7
              have Fs_7 : Hid (H3 w7 (w2.heap.size + 1) (.int .i64 x0) (.int .i64 x1) (.int .i64 x2)) := (H3.far3 Fs_6.out (by omega)).ext xw7
              have Ft_7 : Hid (H3 w7 (w2.heap.size + 1 + 1) (.int .i64 y0) (.int .i64 y1) (.int .i64 y2)) := (H3.set3 Ft_6.out _ _ _).ext xw7
              have E7 : Ext w w7 := Ext.trans (by repeat (first | with_reducible assumption | with_reducible exact Ext.refl _ | with_reducible refine Ext.drew ?_ | with_reducible refine Ext.drewN ?_ _ | with_reducible refine Ext.alloc ?_ _ | with_reducible refine Ext.set ?_ (by first | exact Nat.le_refl _ | (dsimp only; omega) | (simp; done)) _)) xw7
              clear xw7 E6 Fa_6 Fb_6 Fx_6 Fy_6 Fs_6 Ft_6 dx0 dx1 dx2 ds0 ds1 ds2 ct0 ct1 ct2 ct3 ct4 ct5 ct6
              obtain ⟨cy0, cy1, cy2, cy3, cy4, cy5, cy6⟩ := Fy_7.out
              obtain ⟨ct0, ct1, ct2, ct3, ct4, ct5, ct6⟩ := Ft_7.out
              go_wp2_with fail
              refine (HI2.out _).mono ?_
              rintro e w8 ⟨rfl, xw8⟩
              have Fy_8 : Hid (H3 w8 (w2.heap.size) (.int .i64 y0) (.int .i64 y1) (.int .i64 y2)) := (Fy_7.out).ext xw8
              have Ft_8 : Hid (H3 w8 (w2.heap.size + 1 + 1) (.int .i64 y0) (.int .i64 y1) (.int .i64 y2)) := (Ft_7.out).ext xw8
              have E8 : Ext w w8 := Ext.trans (E7) xw8
              clear xw8 E7 Fx_7 Fy_7 Fs_7 Ft_7 cy0 cy1 cy2 cy3 cy4 cy5 cy6 ct0 ct1 ct2 ct3 ct4 ct5 ct6
              go_wp2_with fail
              go_roundw
              case rel => exact ⟨k + 1, by omega, by go_num, E8⟩
              case measure => simp [intOf]; omega
      · go_wp2_with fail
        refine (wakes3_any _).mono ?_
        rintro e w1 ⟨rfl, x1⟩
        go_wp2_with fail
        go_ret
        exact ⟨rfl, hx.trans x1⟩
    · go_wp2_with fail
      refine (wakes3_any _).mono ?_
      rintro e w1 ⟨rfl, x1⟩
      go_wp2_with fail
      go_ret
      exact ⟨rfl, hx.trans x1⟩

set_option maxHeartbeats 1000000 in
set_option maxRecDepth 20000 in
theorem sums_none (a : Option Addr) (cap : Nat) (w : World) :
    Calls Try.prog 3 #[.slice a 0 cap] w fun e w' => e = .returned (.bool true) ∧ Ext w w' := by
  go_enter Try.func3, Try.ntmps3
  go_wp2_with fail
  refine wp_loop_rounds 1 ?_
  rw [rounds_succ]
  go_wp2_with fail
  refine (wakes3_any _).mono ?_
  rintro e w1 ⟨rfl, x1⟩
  go_wp2_with fail
  go_ret
  exact ⟨rfl, x1⟩
end Go.Proofs.Ytbmodfhnenlmgaa

namespace Go.Proofs.Ytbmodfhnenlmgaa
open Go.ChangeShapes Go.WideShapes Go.ChangeAt Go.RowKit Go.Deep

set_option maxRecDepth 100000 in
theorem vecSums_lifted (os : Os) (started : os.Started) (H : Type) (enc : TypeId × Value → H) :
    ReturnsInHanded {} Try.checked os 3 .any (Rows.vecSumsSpec.pre6 enc Try.prog Try.f3 Rows.vecSumsRow.domain false) (Rows.vecSumsSpec.post enc Try.prog Try.f3 false true false false) := by
  refine returnsInHanded_of_change (C := Try.checked) Try.own started (by kernel_rfl) Try.func3
    (ChangeSpec.witness6 (enc := enc) (C := Try.checked) false ⟨#[], #[.slice none 0 0], []⟩ 8 (by kernel_rfl) (by kernel_rfl) (by kernel_rfl) (by kernel_rfl)) ?_
  intro W base args ds gs before hval0 hW hcnd _
  have hval : ∀ (j : Nat) t v, Try.f3.params[j]? = some t → args[j]? = some v → Value.okWide Try.prog W .any base t v := hval0
  have hW' := hW
  obtain ⟨p, q, hA0, hV, rfl, hfz, hnd⟩ := hW
  have hA : DataW.TrodAll enc Try.prog W 0 (fun _ => true) true Try.f3.params.toList args.toList ds p := hA0
  rw [Try.params3] at hA hval
  obtain ⟨v0, d0, rfl, rfl, h0⟩ := trodAll_one hA
  obtain ⟨rfl, rfl⟩ := trodVars_none hV
  obtain ⟨a0, len0, cap0, rfl⟩ := okWide_slice Try.underlying22 (hval 0 22 v0 rfl rfl)
  have lt0 : ∀ x ∈ p, x.block < W.heap.size := by obtain ⟨m, hm⟩ := h0; exact DataW.trod_lt m _ _ _ hm
  clear hA0 hval0
  have walk : Calls Try.prog 3 #[.slice a0 len0 cap0] W fun e w' => e = .returned (.bool true) ∧ Ext W w' := by
    rcases open_twos h0 with rfl | ⟨b, off, Z, rfl, hl, hz⟩
    · exact sums_none a0 cap0 W
    · exact sums_any b off len0 cap0 Z W hl hz
  refine walk.mono fun e W' ⟨he, bel0⟩ => ?_
  have bel : Below W.heap.size W W' := bel0
  subst he
  exact ⟨_, rfl, _, _, _, [], _, [], hW', trodAll_mk1 (shut_bool Try.underlying4 _), trodAll_mk1 (Below.trod Try.laidOut (by kernel_rfl) (of_decide_eq_true (by kernel_rfl)) h0 bel lt0), rfl, bel.frame _, fun h => by cases h⟩

/-- Sums and differences of any vectors are so number by number, or refused: for every list of entries VecSums tells true, and changes nothing that was there. -/
theorem vecSums_holds : Rows.VecSumsSaid :=
  OpenClaim.holds_of_wide 3 Try.f3 rfl rfl rfl rfl rfl rfl rfl ⟨rfl, rfl, rfl, rfl, rfl⟩ rfl rfl rfl rfl rfl (by kernel_rfl) Try.func3 (by kernel_rfl)
    (of_decide_eq_true (by kernel_rfl)) (by unfold Func.isWrapper; first | (rw [if_pos (by decide +kernel)]; kernel_rfl) | (rw [if_neg (by decide +kernel)]; exact ⟨rfl, rfl⟩))
    (fun os started H enc _ => vecSums_lifted os started H enc)
#print axioms vecSums_holds
end Go.Proofs.Ytbmodfhnenlmgaa
