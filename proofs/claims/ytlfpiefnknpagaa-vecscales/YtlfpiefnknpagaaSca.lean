/- VecScales. -/
import Derived.Test.YtlfpiefnknpagaaL1
namespace Go.Proofs.Ytlfpiefnknpagaa
open Go.RowKit Go.Shelf

theorem nearQ_whole (z : Int) : nearQ (z * 1073741824) = z := by
  unfold nearQ oddQ; omega
theorem vres_ok {s0 s1 s2 : Int} (h : ok3 s0 s1 s2 = true) : vres s0 s1 s2 = .tuple #[.agg #[.int .i64 s0, .int .i64 s1, .int .i64 s2], .int .i64 0] := by unfold vres; rw [if_pos h]
theorem vres_bad {s0 s1 s2 : Int} (h : ok3 s0 s1 s2 = false) : vres s0 s1 s2 = .tuple #[.agg #[.int .i64 0, .int .i64 0, .int .i64 0], .int .i64 2] := by unfold vres; rw [h]; rfl
theorem okW_neg {a : Int} (h : okW a = true) : okW (-a) = true := by
  have := okW_bounds h; unfold okW; simp; omega
theorem ok3_neg {a b c : Int} (h : ok3 a b c = true) : ok3 (-a) (-b) (-c) = true := by
  obtain ⟨h0, h1, h2⟩ := ok3_parts h
  unfold ok3; rw [okW_neg h0, okW_neg h1, okW_neg h2]; rfl
theorem scale_one (a0 a1 a2 : Int) (w : World) (h : ok3 a0 a1 a2 = true) : Calls Try.prog 7 #[.agg #[.int .i64 a0, .int .i64 a1, .int .i64 a2], .int .i64 1073741824] w fun e w' => e = .returned (.tuple #[.agg #[.int .i64 a0, .int .i64 a1, .int .i64 a2], .int .i64 0]) ∧ Ext w w' := by
  have k := vScale_yes a0 a1 a2 1073741824 w h (by decide)
  rw [nearQ_whole, nearQ_whole, nearQ_whole, vres_ok h] at k
  exact k
theorem scale_zero (a0 a1 a2 : Int) (w : World) (h : ok3 a0 a1 a2 = true) : Calls Try.prog 7 #[.agg #[.int .i64 a0, .int .i64 a1, .int .i64 a2], .int .i64 0] w fun e w' => e = .returned (.tuple #[.agg #[.int .i64 0, .int .i64 0, .int .i64 0], .int .i64 0]) ∧ Ext w w' := by
  have k := vScale_yes a0 a1 a2 0 w h (by decide)
  have e : nearQ 0 = 0 := by decide
  rw [Int.mul_zero, Int.mul_zero, Int.mul_zero, e, vres_ok (by decide)] at k
  exact k
theorem scale_neg (a0 a1 a2 : Int) (w : World) (h : ok3 a0 a1 a2 = true) : Calls Try.prog 7 #[.agg #[.int .i64 a0, .int .i64 a1, .int .i64 a2], .int .i64 (-1073741824)] w fun e w' => e = .returned (.tuple #[.agg #[.int .i64 (-a0), .int .i64 (-a1), .int .i64 (-a2)], .int .i64 0]) ∧ Ext w w' := by
  have k := vScale_yes a0 a1 a2 (-1073741824) w h (by decide)
  have e : ∀ a : Int, nearQ (a * -1073741824) = -a := fun a => by rw [show a * -1073741824 = -a * 1073741824 by omega, nearQ_whole]
  rw [e, e, e, vres_ok (ok3_neg h)] at k
  exact k
theorem neg_is (a0 a1 a2 : Int) (w : World) (h : ok3 a0 a1 a2 = true) : Calls Try.prog 8 #[.agg #[.int .i64 a0, .int .i64 a1, .int .i64 a2]] w fun e w' => e = .returned (.tuple #[.agg #[.int .i64 (-a0), .int .i64 (-a1), .int .i64 (-a2)], .int .i64 0]) ∧ Ext w w' := by
  have k := vNeg_yes a0 a1 a2 w h
  rw [Int.zero_sub, Int.zero_sub, Int.zero_sub, vres_ok (ok3_neg h)] at k
  exact k
theorem sub_self (a0 a1 a2 : Int) (w : World) (h : ok3 a0 a1 a2 = true) : Calls Try.prog 9 #[.agg #[.int .i64 a0, .int .i64 a1, .int .i64 a2], .agg #[.int .i64 a0, .int .i64 a1, .int .i64 a2]] w fun e w' => e = .returned (.tuple #[.agg #[.int .i64 0, .int .i64 0, .int .i64 0], .int .i64 0]) ∧ Ext w w' := by
  have k := vSub_yes a0 a1 a2 a0 a1 a2 w h h
  rw [Int.sub_self, Int.sub_self, Int.sub_self, vres_ok (by decide)] at k
  exact k
theorem sums_two (a0 a1 a2 b0 b1 b2 : Int) (h1 : ok3 a0 a1 a2 = true) (h2 : ok3 b0 b1 b2 = true) :
    (∃ s0 s1 s2 : Int, Hid (∀ w', Calls Try.prog 11 #[.agg #[.int .i64 a0, .int .i64 a1, .int .i64 a2], .agg #[.int .i64 b0, .int .i64 b1, .int .i64 b2]] w' fun e w'' => e = .returned (.tuple #[.agg #[.int .i64 s0, .int .i64 s1, .int .i64 s2], .int .i64 0]) ∧ Ext w' w'') ∧ Hid (∀ w', Calls Try.prog 11 #[.agg #[.int .i64 b0, .int .i64 b1, .int .i64 b2], .agg #[.int .i64 a0, .int .i64 a1, .int .i64 a2]] w' fun e w'' => e = .returned (.tuple #[.agg #[.int .i64 s0, .int .i64 s1, .int .i64 s2], .int .i64 0]) ∧ Ext w' w'') ∧ Hid (∀ w', Calls Try.prog 9 #[.agg #[.int .i64 s0, .int .i64 s1, .int .i64 s2], .agg #[.int .i64 b0, .int .i64 b1, .int .i64 b2]] w' fun e w'' => e = .returned (.tuple #[.agg #[.int .i64 a0, .int .i64 a1, .int .i64 a2], .int .i64 0]) ∧ Ext w' w'')) ∨
    (Hid (∀ w', Calls Try.prog 11 #[.agg #[.int .i64 a0, .int .i64 a1, .int .i64 a2], .agg #[.int .i64 b0, .int .i64 b1, .int .i64 b2]] w' fun e w'' => e = .returned (.tuple #[.agg #[.int .i64 0, .int .i64 0, .int .i64 0], .int .i64 2]) ∧ Ext w' w'') ∧ Hid (∀ w', Calls Try.prog 11 #[.agg #[.int .i64 b0, .int .i64 b1, .int .i64 b2], .agg #[.int .i64 a0, .int .i64 a1, .int .i64 a2]] w' fun e w'' => e = .returned (.tuple #[.agg #[.int .i64 0, .int .i64 0, .int .i64 0], .int .i64 2]) ∧ Ext w' w'')) := by
  cases h : ok3 (a0 + b0) (a1 + b1) (a2 + b2)
  · refine .inr ⟨fun w' => ?_, fun w' => ?_⟩
    · have k := vAdd_yes a0 a1 a2 b0 b1 b2 w' h1 h2
      rw [vres_bad h] at k; exact k
    · have k := vAdd_yes b0 b1 b2 a0 a1 a2 w' h2 h1
      rw [Int.add_comm b0, Int.add_comm b1, Int.add_comm b2, vres_bad h] at k; exact k
  · refine .inl ⟨a0 + b0, a1 + b1, a2 + b2, fun w' => ?_, fun w' => ?_, fun w' => ?_⟩
    · have k := vAdd_yes a0 a1 a2 b0 b1 b2 w' h1 h2
      rw [vres_ok h] at k; exact k
    · have k := vAdd_yes b0 b1 b2 a0 a1 a2 w' h2 h1
      rw [Int.add_comm b0, Int.add_comm b1, Int.add_comm b2, vres_ok h] at k; exact k
    · have k := vSub_yes (a0 + b0) (a1 + b1) (a2 + b2) b0 b1 b2 w' h h2
      rw [Int.add_sub_cancel, Int.add_sub_cancel, Int.add_sub_cancel, vres_ok h1] at k; exact k

set_option maxHeartbeats 40000000 in
set_option maxRecDepth 20000 in
theorem scales_any (b off len cap : Nat) (Z : Nat → Nat → Int) (w : World) (hl : len ≤ maxLen) (hc : Twos3 w b off len Z) :
    Calls Try.prog 3 #[.slice (some ⟨b, off, none⟩) len cap] w fun e w' => e = .returned (.bool true) ∧ Ext w w' := by
  have hl' : len ≤ 9223372036854775807 := by unfold maxLen at hl; omega
  clear hl
  go_enter Try.func3, Try.ntmps3
  go_wp2_with fail
  go_loopw [3] (fun i wr => ∃ k : Nat, k ≤ len ∧ i = .int .i64 k ∧ Ext w wr) (fun i _ => len - (intOf i).toNat)
  case atStart => exact ⟨0, Nat.zero_le _, rfl, Ext.refl _⟩
  case round =>
    obtain ⟨k, hk, rfl, hx⟩ := hrel
    by_cases hlt : k < len
    · by_cases h20 : k < 20
      · have RW := (hc.ext hx).row hlt
        have hlt' : (k : Int) < (len : Int) := by omega
        generalize Z k 0 = a0 at *
        generalize Z k 1 = a1 at *
        generalize Z k 2 = a2 at *
        generalize Z k 3 = b0 at *
        generalize Z k 4 = b1 at *
        generalize Z k 5 = b2 at *
        obtain ⟨z0, z1, z2, z3, z4, z5⟩ := RW
        have q0 := fun x => cell_al z0 x
        have q1 := fun x => cell_al z1 x
        have q2 := fun x => cell_al z2 x
        have q3 := fun x => cell_al z3 x
        have q4 := fun x => cell_al z4 x
        have q5 := fun x => cell_al z5 x
        have s0 := fun x y => cell_al2 z0 x y
        have s1 := fun x y => cell_al2 z1 x y
        have s2 := fun x y => cell_al2 z2 x y
        have s3 := fun x y => cell_al2 z3 x y
        have s4 := fun x y => cell_al2 z4 x y
        have s5 := fun x y => cell_al2 z5 x y
        go_wp2_with fail
        go_region
        · clear z0 z1 z2 z3 z4 z5 q0 q1 q2 q3 q4 q5 s0 s1 s2 s3 s4 s5
          cases g1 : ok3 a0 a1 a2
          · have HMa : Hid (∀ w', Calls Try.prog 6 #[.agg #[.int .i64 a0, .int .i64 a1, .int .i64 a2]] w' fun e w'' => e = .returned (.bool false) ∧ Ext w' w'') := fun w' => by have h := mayv_any a0 a1 a2 w'; rw [g1] at h; exact h
            clear g1
            go_wp2_with fail
            refine (HMa.out _).mono ?_
            rintro e w1 ⟨rfl, x1⟩
            have Fa_1 : Hid (H3 w1 (wr.heap.size) (.int .i64 a0) (.int .i64 a1) (.int .i64 a2)) := (H3.drew (H3.alloc (h3_at rfl) _)).ext x1
            have Fb_1 : Hid (H3 w1 (wr.heap.size + 1) (.int .i64 b0) (.int .i64 b1) (.int .i64 b2)) := (H3.drew (h3_at (by simp))).ext x1
            have E1 : Ext w w1 := Ext.trans (Ext.drew (Ext.alloc (Ext.alloc hx _) _)) x1
            clear x1
            obtain ⟨cb0, cb1, cb2, cb3, cb4, cb5, cb6⟩ := Fb_1.out
            go_wp2_with fail
            go_roundw
            case rel => exact ⟨k + 1, by omega, by go_num, E1⟩
            case measure => simp [intOf]; omega
          · have HMa : Hid (∀ w', Calls Try.prog 6 #[.agg #[.int .i64 a0, .int .i64 a1, .int .i64 a2]] w' fun e w'' => e = .returned (.bool true) ∧ Ext w' w'') := fun w' => by have h := mayv_any a0 a1 a2 w'; rw [g1] at h; exact h
            cases g2 : ok3 b0 b1 b2
            · have HMb : Hid (∀ w', Calls Try.prog 6 #[.agg #[.int .i64 b0, .int .i64 b1, .int .i64 b2]] w' fun e w'' => e = .returned (.bool false) ∧ Ext w' w'') := fun w' => by have h := mayv_any b0 b1 b2 w'; rw [g2] at h; exact h
              clear g1 g2
              go_wp2_with fail
              refine (HMa.out _).mono ?_
              rintro e w1 ⟨rfl, x1⟩
              have Fa_1 : Hid (H3 w1 (wr.heap.size) (.int .i64 a0) (.int .i64 a1) (.int .i64 a2)) := (H3.drew (H3.alloc (h3_at rfl) _)).ext x1
              have Fb_1 : Hid (H3 w1 (wr.heap.size + 1) (.int .i64 b0) (.int .i64 b1) (.int .i64 b2)) := (H3.drew (h3_at (by simp))).ext x1
              have E1 : Ext w w1 := Ext.trans (Ext.drew (Ext.alloc (Ext.alloc hx _) _)) x1
              clear x1
              obtain ⟨cb0, cb1, cb2, cb3, cb4, cb5, cb6⟩ := Fb_1.out
              go_wp2_with fail
              refine (HMb.out _).mono ?_
              rintro e w2 ⟨rfl, x2⟩
              have Fa_2 : Hid (H3 w2 (wr.heap.size) (.int .i64 a0) (.int .i64 a1) (.int .i64 a2)) := (Fa_1.out).ext x2
              have Fb_2 : Hid (H3 w2 (wr.heap.size + 1) (.int .i64 b0) (.int .i64 b1) (.int .i64 b2)) := (Fb_1.out).ext x2
              have E2 : Ext w w2 := Ext.trans (E1) x2
              clear x2 E1 Fa_1 Fb_1 cb0 cb1 cb2 cb3 cb4 cb5 cb6
              go_wp2_with fail
              go_roundw
              case rel => exact ⟨k + 1, by omega, by go_num, E2⟩
              case measure => simp [intOf]; omega
            · have HMb : Hid (∀ w', Calls Try.prog 6 #[.agg #[.int .i64 b0, .int .i64 b1, .int .i64 b2]] w' fun e w'' => e = .returned (.bool true) ∧ Ext w' w'') := fun w' => by have h := mayv_any b0 b1 b2 w'; rw [g2] at h; exact h
              have HS1 : Hid (∀ w', Calls Try.prog 7 #[.agg #[.int .i64 a0, .int .i64 a1, .int .i64 a2], .int .i64 1073741824] w' fun e w'' => e = .returned (.tuple #[.agg #[.int .i64 a0, .int .i64 a1, .int .i64 a2], .int .i64 0]) ∧ Ext w' w'') := fun w' => scale_one a0 a1 a2 w' g1
              have HS0 : Hid (∀ w', Calls Try.prog 7 #[.agg #[.int .i64 a0, .int .i64 a1, .int .i64 a2], .int .i64 0] w' fun e w'' => e = .returned (.tuple #[.agg #[.int .i64 0, .int .i64 0, .int .i64 0], .int .i64 0]) ∧ Ext w' w'') := fun w' => scale_zero a0 a1 a2 w' g1
              have HSm0 : Hid (∀ w', Calls Try.prog 7 #[.agg #[.int .i64 a0, .int .i64 a1, .int .i64 a2], .int .i64 (-1073741824)] w' fun e w'' => e = .returned (.tuple #[.agg #[.int .i64 (-a0), .int .i64 (-a1), .int .i64 (-a2)], .int .i64 0]) ∧ Ext w' w'') := fun w' => scale_neg a0 a1 a2 w' g1
              have HN0 : Hid (∀ w', Calls Try.prog 8 #[.agg #[.int .i64 a0, .int .i64 a1, .int .i64 a2]] w' fun e w'' => e = .returned (.tuple #[.agg #[.int .i64 (-a0), .int .i64 (-a1), .int .i64 (-a2)], .int .i64 0]) ∧ Ext w' w'') := fun w' => neg_is a0 a1 a2 w' g1
              have HD : Hid (∀ w', Calls Try.prog 9 #[.agg #[.int .i64 a0, .int .i64 a1, .int .i64 a2], .agg #[.int .i64 a0, .int .i64 a1, .int .i64 a2]] w' fun e w'' => e = .returned (.tuple #[.agg #[.int .i64 0, .int .i64 0, .int .i64 0], .int .i64 0]) ∧ Ext w' w'') := fun w' => sub_self a0 a1 a2 w' g1
              obtain ⟨n0, n1, n2, HSm, HN⟩ : ∃ n0 n1 n2 : Int, Hid (∀ w', Calls Try.prog 7 #[.agg #[.int .i64 a0, .int .i64 a1, .int .i64 a2], .int .i64 (-1073741824)] w' fun e w'' => e = .returned (.tuple #[.agg #[.int .i64 n0, .int .i64 n1, .int .i64 n2], .int .i64 0]) ∧ Ext w' w'') ∧ Hid (∀ w', Calls Try.prog 8 #[.agg #[.int .i64 a0, .int .i64 a1, .int .i64 a2]] w' fun e w'' => e = .returned (.tuple #[.agg #[.int .i64 n0, .int .i64 n1, .int .i64 n2], .int .i64 0]) ∧ Ext w' w'') := ⟨_, _, _, HSm0, HN0⟩
              clear HSm0 HN0
              rcases sums_two a0 a1 a2 b0 b1 b2 g1 g2 with ⟨s0, s1, s2, HAB, HBA, HSB⟩ | ⟨HAB, HBA⟩
              · clear g1 g2
                go_wp2_with fail
                refine (HMa.out _).mono ?_
                rintro e w1 ⟨rfl, x1⟩
                have Fa_1 : Hid (H3 w1 (wr.heap.size) (.int .i64 a0) (.int .i64 a1) (.int .i64 a2)) := (H3.drew (H3.alloc (h3_at rfl) _)).ext x1
                have Fb_1 : Hid (H3 w1 (wr.heap.size + 1) (.int .i64 b0) (.int .i64 b1) (.int .i64 b2)) := (H3.drew (h3_at (by simp))).ext x1
                have E1 : Ext w w1 := Ext.trans (Ext.drew (Ext.alloc (Ext.alloc hx _) _)) x1
                clear x1
                obtain ⟨cb0, cb1, cb2, cb3, cb4, cb5, cb6⟩ := Fb_1.out
                go_wp2_with fail
                refine (HMb.out _).mono ?_
                rintro e w2 ⟨rfl, x2⟩
                have Fa_2 : Hid (H3 w2 (wr.heap.size) (.int .i64 a0) (.int .i64 a1) (.int .i64 a2)) := (Fa_1.out).ext x2
                have Fb_2 : Hid (H3 w2 (wr.heap.size + 1) (.int .i64 b0) (.int .i64 b1) (.int .i64 b2)) := (Fb_1.out).ext x2
                have E2 : Ext w w2 := Ext.trans (E1) x2
                clear x2 E1 Fa_1 Fb_1 cb0 cb1 cb2 cb3 cb4 cb5 cb6
                obtain ⟨ca0, ca1, ca2, ca3, ca4, ca5, ca6⟩ := Fa_2.out
                go_wp2_with fail
                refine (HS1.out _).mono ?_
                rintro e w3 ⟨rfl, x3⟩
                have Fa_3 : Hid (H3 w3 (wr.heap.size) (.int .i64 a0) (.int .i64 a1) (.int .i64 a2)) := (Fa_2.out).ext x3
                have Fb_3 : Hid (H3 w3 (wr.heap.size + 1) (.int .i64 b0) (.int .i64 b1) (.int .i64 b2)) := (Fb_2.out).ext x3
                have E3 : Ext w w3 := Ext.trans (E2) x3
                clear x3 E2 Fa_2 Fb_2 ca0 ca1 ca2 ca3 ca4 ca5 ca6
                have da0 := fun o => ((Fa_3.out.alloc o)).1
                have da1 := fun o => ((Fa_3.out.alloc o)).2.1
                have da2 := fun o => ((Fa_3.out.alloc o)).2.2.1
                go_wp2_with fail
                refine (HS0.out _).mono ?_
                rintro e w4 ⟨rfl, x4⟩
                have Fa_4 : Hid (H3 w4 (wr.heap.size) (.int .i64 a0) (.int .i64 a1) (.int .i64 a2)) := (H3.alloc Fa_3.out _).ext x4
                have Fb_4 : Hid (H3 w4 (wr.heap.size + 1) (.int .i64 b0) (.int .i64 b1) (.int .i64 b2)) := (H3.alloc Fb_3.out _).ext x4
                have Fx_4 : Hid (H3 w4 (w3.heap.size) (.int .i64 a0) (.int .i64 a1) (.int .i64 a2)) := (h3_at rfl).ext x4
                have E4 : Ext w w4 := Ext.trans (Ext.alloc E3 _) x4
                clear x4 E3 Fa_3 Fb_3 da0 da1 da2
                have da0 := fun o => ((Fa_4.out.alloc o)).1
                have da1 := fun o => ((Fa_4.out.alloc o)).2.1
                have da2 := fun o => ((Fa_4.out.alloc o)).2.2.1
                go_wp2_with fail
                refine (HSm.out _).mono ?_
                rintro e w5 ⟨rfl, x5⟩
                have Fa_5 : Hid (H3 w5 (wr.heap.size) (.int .i64 a0) (.int .i64 a1) (.int .i64 a2)) := (H3.alloc Fa_4.out _).ext x5
                have Fb_5 : Hid (H3 w5 (wr.heap.size + 1) (.int .i64 b0) (.int .i64 b1) (.int .i64 b2)) := (H3.alloc Fb_4.out _).ext x5
                have Fx_5 : Hid (H3 w5 (w3.heap.size) (.int .i64 a0) (.int .i64 a1) (.int .i64 a2)) := (H3.alloc Fx_4.out _).ext x5
                have Fy_5 : Hid (H3 w5 (w4.heap.size) (.int .i64 0) (.int .i64 0) (.int .i64 0)) := (h3_at rfl).ext x5
                have E5 : Ext w w5 := Ext.trans (Ext.alloc E4 _) x5
                clear x5 E4 Fa_4 Fb_4 Fx_4 da0 da1 da2
                have da0 := fun o => ((Fa_5.out.alloc o)).1
                have da1 := fun o => ((Fa_5.out.alloc o)).2.1
                have da2 := fun o => ((Fa_5.out.alloc o)).2.2.1
                go_wp2_with fail
                refine (HN.out _).mono ?_
                rintro e w6 ⟨rfl, x6⟩
                have Fa_6 : Hid (H3 w6 (wr.heap.size) (.int .i64 a0) (.int .i64 a1) (.int .i64 a2)) := (H3.alloc Fa_5.out _).ext x6
                have Fb_6 : Hid (H3 w6 (wr.heap.size + 1) (.int .i64 b0) (.int .i64 b1) (.int .i64 b2)) := (H3.alloc Fb_5.out _).ext x6
                have Fx_6 : Hid (H3 w6 (w3.heap.size) (.int .i64 a0) (.int .i64 a1) (.int .i64 a2)) := (H3.alloc Fx_5.out _).ext x6
                have Fy_6 : Hid (H3 w6 (w4.heap.size) (.int .i64 0) (.int .i64 0) (.int .i64 0)) := (H3.alloc Fy_5.out _).ext x6
                have Fv_6 : Hid (H3 w6 (w5.heap.size) (.int .i64 n0) (.int .i64 n1) (.int .i64 n2)) := (h3_at rfl).ext x6
                have E6 : Ext w w6 := Ext.trans (Ext.alloc E5 _) x6
                clear x6 E5 Fa_5 Fb_5 Fx_5 Fy_5 da0 da1 da2
                have da0 := fun o => ((Fa_6.out.alloc o)).1
                have da1 := fun o => ((Fa_6.out.alloc o)).2.1
                have da2 := fun o => ((Fa_6.out.alloc o)).2.2.1
                go_wp2_with fail
                refine (HD.out _).mono ?_
                rintro e w7 ⟨rfl, x7⟩
                have Fa_7 : Hid (H3 w7 (wr.heap.size) (.int .i64 a0) (.int .i64 a1) (.int .i64 a2)) := (H3.alloc Fa_6.out _).ext x7
                have Fb_7 : Hid (H3 w7 (wr.heap.size + 1) (.int .i64 b0) (.int .i64 b1) (.int .i64 b2)) := (H3.alloc Fb_6.out _).ext x7
                have Fx_7 : Hid (H3 w7 (w3.heap.size) (.int .i64 a0) (.int .i64 a1) (.int .i64 a2)) := (H3.alloc Fx_6.out _).ext x7
                have Fy_7 : Hid (H3 w7 (w4.heap.size) (.int .i64 0) (.int .i64 0) (.int .i64 0)) := (H3.alloc Fy_6.out _).ext x7
                have Fv_7 : Hid (H3 w7 (w5.heap.size) (.int .i64 n0) (.int .i64 n1) (.int .i64 n2)) := (H3.alloc Fv_6.out _).ext x7
                have Fn_7 : Hid (H3 w7 (w6.heap.size) (.int .i64 n0) (.int .i64 n1) (.int .i64 n2)) := (h3_at rfl).ext x7
                have E7 : Ext w w7 := Ext.trans (Ext.alloc E6 _) x7
                clear x7 E6 Fa_6 Fb_6 Fx_6 Fy_6 Fv_6 da0 da1 da2
                have da0 := fun o => ((Fa_7.out.alloc o)).1
                have da1 := fun o => ((Fa_7.out.alloc o)).2.1
                have da2 := fun o => ((Fa_7.out.alloc o)).2.2.1
                have db0 := fun o => ((Fb_7.out.alloc o)).1
                have db1 := fun o => ((Fb_7.out.alloc o)).2.1
                have db2 := fun o => ((Fb_7.out.alloc o)).2.2.1
                have dx0 := fun o => ((Fx_7.out.alloc o)).1
                have dx1 := fun o => ((Fx_7.out.alloc o)).2.1
                have dx2 := fun o => ((Fx_7.out.alloc o)).2.2.1
                have dy0 := fun o => ((Fy_7.out.alloc o)).1
                have dy1 := fun o => ((Fy_7.out.alloc o)).2.1
                have dy2 := fun o => ((Fy_7.out.alloc o)).2.2.1
                have dv0 := fun o => ((Fv_7.out.alloc o)).1
                have dv1 := fun o => ((Fv_7.out.alloc o)).2.1
                have dv2 := fun o => ((Fv_7.out.alloc o)).2.2.1
                have dn0 := fun o => ((Fn_7.out.alloc o)).1
                have dn1 := fun o => ((Fn_7.out.alloc o)).2.1
                have dn2 := fun o => ((Fn_7.out.alloc o)).2.2.1
                go_wp2_with (go_at_call 10; refine (num3_any _ _).mono ?_; rintro e wx ⟨rfl, hwx⟩; have hwy := hwx.symm; clear hwx; subst hwy)
                refine (HAB.out _).mono ?_
                rintro e w8 ⟨rfl, x8⟩
                have Fa_8 : Hid (H3 w8 (wr.heap.size) (.int .i64 a0) (.int .i64 a1) (.int .i64 a2)) := (H3.alloc Fa_7.out _).ext x8
                have Fb_8 : Hid (H3 w8 (wr.heap.size + 1) (.int .i64 b0) (.int .i64 b1) (.int .i64 b2)) := (H3.alloc Fb_7.out _).ext x8
                have Fx_8 : Hid (H3 w8 (w3.heap.size) (.int .i64 a0) (.int .i64 a1) (.int .i64 a2)) := (H3.alloc Fx_7.out _).ext x8
                have Fy_8 : Hid (H3 w8 (w4.heap.size) (.int .i64 0) (.int .i64 0) (.int .i64 0)) := (H3.alloc Fy_7.out _).ext x8
                have Fv_8 : Hid (H3 w8 (w5.heap.size) (.int .i64 n0) (.int .i64 n1) (.int .i64 n2)) := (H3.alloc Fv_7.out _).ext x8
                have Fn_8 : Hid (H3 w8 (w6.heap.size) (.int .i64 n0) (.int .i64 n1) (.int .i64 n2)) := (H3.alloc Fn_7.out _).ext x8
                have Fd_8 : Hid (H3 w8 (w7.heap.size) (.int .i64 0) (.int .i64 0) (.int .i64 0)) := (h3_at rfl).ext x8
                have E8 : Ext w w8 := Ext.trans (Ext.alloc E7 _) x8
                clear x8 E7 Fa_7 Fb_7 Fx_7 Fy_7 Fv_7 Fn_7 da0 da1 da2 db0 db1 db2 dx0 dx1 dx2 dy0 dy1 dy2 dv0 dv1 dv2 dn0 dn1 dn2
                have da0 := fun o => ((Fa_8.out.alloc o)).1
                have da1 := fun o => ((Fa_8.out.alloc o)).2.1
                have da2 := fun o => ((Fa_8.out.alloc o)).2.2.1
                have db0 := fun o => ((Fb_8.out.alloc o)).1
                have db1 := fun o => ((Fb_8.out.alloc o)).2.1
                have db2 := fun o => ((Fb_8.out.alloc o)).2.2.1
                go_wp2_with fail
                refine (HBA.out _).mono ?_
                rintro e w9 ⟨rfl, x9⟩
                have Fa_9 : Hid (H3 w9 (wr.heap.size) (.int .i64 a0) (.int .i64 a1) (.int .i64 a2)) := (H3.alloc Fa_8.out _).ext x9
                have Fb_9 : Hid (H3 w9 (wr.heap.size + 1) (.int .i64 b0) (.int .i64 b1) (.int .i64 b2)) := (H3.alloc Fb_8.out _).ext x9
                have Fx_9 : Hid (H3 w9 (w3.heap.size) (.int .i64 a0) (.int .i64 a1) (.int .i64 a2)) := (H3.alloc Fx_8.out _).ext x9
                have Fy_9 : Hid (H3 w9 (w4.heap.size) (.int .i64 0) (.int .i64 0) (.int .i64 0)) := (H3.alloc Fy_8.out _).ext x9
                have Fv_9 : Hid (H3 w9 (w5.heap.size) (.int .i64 n0) (.int .i64 n1) (.int .i64 n2)) := (H3.alloc Fv_8.out _).ext x9
                have Fn_9 : Hid (H3 w9 (w6.heap.size) (.int .i64 n0) (.int .i64 n1) (.int .i64 n2)) := (H3.alloc Fn_8.out _).ext x9
                have Fd_9 : Hid (H3 w9 (w7.heap.size) (.int .i64 0) (.int .i64 0) (.int .i64 0)) := (H3.alloc Fd_8.out _).ext x9
                have Fs_9 : Hid (H3 w9 (w8.heap.size) (.int .i64 s0) (.int .i64 s1) (.int .i64 s2)) := (h3_at rfl).ext x9
                have E9 : Ext w w9 := Ext.trans (Ext.alloc E8 _) x9
                clear x9 E8 Fa_8 Fb_8 Fx_8 Fy_8 Fv_8 Fn_8 Fd_8 da0 da1 da2 db0 db1 db2
                have da0 := fun o => ((Fa_9.out.alloc o)).1
                have da1 := fun o => ((Fa_9.out.alloc o)).2.1
                have da2 := fun o => ((Fa_9.out.alloc o)).2.2.1
                have db0 := fun o => ((Fb_9.out.alloc o)).1
                have db1 := fun o => ((Fb_9.out.alloc o)).2.1
                have db2 := fun o => ((Fb_9.out.alloc o)).2.2.1
                have ds0 := fun o => ((Fs_9.out.alloc o)).1
                have ds1 := fun o => ((Fs_9.out.alloc o)).2.1
                have ds2 := fun o => ((Fs_9.out.alloc o)).2.2.1
                go_wp2_with (go_at_call 10; refine (num3_any _ _).mono ?_; rintro e wx ⟨rfl, hwx⟩; have hwy := hwx.symm; clear hwx; subst hwy)
                refine (HSB.out _).mono ?_
                rintro e w10 ⟨rfl, x10⟩
                have Fa_10 : Hid (H3 w10 (wr.heap.size) (.int .i64 a0) (.int .i64 a1) (.int .i64 a2)) := (H3.alloc Fa_9.out _).ext x10
                have Fb_10 : Hid (H3 w10 (wr.heap.size + 1) (.int .i64 b0) (.int .i64 b1) (.int .i64 b2)) := (H3.alloc Fb_9.out _).ext x10
                have Fx_10 : Hid (H3 w10 (w3.heap.size) (.int .i64 a0) (.int .i64 a1) (.int .i64 a2)) := (H3.alloc Fx_9.out _).ext x10
                have Fy_10 : Hid (H3 w10 (w4.heap.size) (.int .i64 0) (.int .i64 0) (.int .i64 0)) := (H3.alloc Fy_9.out _).ext x10
                have Fv_10 : Hid (H3 w10 (w5.heap.size) (.int .i64 n0) (.int .i64 n1) (.int .i64 n2)) := (H3.alloc Fv_9.out _).ext x10
                have Fn_10 : Hid (H3 w10 (w6.heap.size) (.int .i64 n0) (.int .i64 n1) (.int .i64 n2)) := (H3.alloc Fn_9.out _).ext x10
                have Fd_10 : Hid (H3 w10 (w7.heap.size) (.int .i64 0) (.int .i64 0) (.int .i64 0)) := (H3.alloc Fd_9.out _).ext x10
                have Fs_10 : Hid (H3 w10 (w8.heap.size) (.int .i64 s0) (.int .i64 s1) (.int .i64 s2)) := (H3.alloc Fs_9.out _).ext x10
                have Ft_10 : Hid (H3 w10 (w9.heap.size) (.int .i64 s0) (.int .i64 s1) (.int .i64 s2)) := (h3_at rfl).ext x10
                have E10 : Ext w w10 := Ext.trans (Ext.alloc E9 _) x10
                clear x10 E9 Fa_9 Fb_9 Fx_9 Fy_9 Fv_9 Fn_9 Fd_9 Fs_9 da0 da1 da2 db0 db1 db2 ds0 ds1 ds2
                have da0 := fun o => ((Fa_10.out.alloc o)).1
                have da1 := fun o => ((Fa_10.out.alloc o)).2.1
                have da2 := fun o => ((Fa_10.out.alloc o)).2.2.1
                go_wp2_with (go_at_call 10; refine (num3_any _ _).mono ?_; rintro e wx ⟨rfl, hwx⟩; have hwy := hwx.symm; clear hwx; subst hwy)
                go_roundw
                case rel => exact ⟨k + 1, by omega, by go_num, E10.alloc _⟩
                case measure => simp [intOf]; omega
              · clear g1 g2
                go_wp2_with fail
                refine (HMa.out _).mono ?_
                rintro e w1 ⟨rfl, x1⟩
                have Fa_1 : Hid (H3 w1 (wr.heap.size) (.int .i64 a0) (.int .i64 a1) (.int .i64 a2)) := (H3.drew (H3.alloc (h3_at rfl) _)).ext x1
                have Fb_1 : Hid (H3 w1 (wr.heap.size + 1) (.int .i64 b0) (.int .i64 b1) (.int .i64 b2)) := (H3.drew (h3_at (by simp))).ext x1
                have E1 : Ext w w1 := Ext.trans (Ext.drew (Ext.alloc (Ext.alloc hx _) _)) x1
                clear x1
                obtain ⟨cb0, cb1, cb2, cb3, cb4, cb5, cb6⟩ := Fb_1.out
                go_wp2_with fail
                refine (HMb.out _).mono ?_
                rintro e w2 ⟨rfl, x2⟩
                have Fa_2 : Hid (H3 w2 (wr.heap.size) (.int .i64 a0) (.int .i64 a1) (.int .i64 a2)) := (Fa_1.out).ext x2
                have Fb_2 : Hid (H3 w2 (wr.heap.size + 1) (.int .i64 b0) (.int .i64 b1) (.int .i64 b2)) := (Fb_1.out).ext x2
                have E2 : Ext w w2 := Ext.trans (E1) x2
                clear x2 E1 Fa_1 Fb_1 cb0 cb1 cb2 cb3 cb4 cb5 cb6
                obtain ⟨ca0, ca1, ca2, ca3, ca4, ca5, ca6⟩ := Fa_2.out
                go_wp2_with fail
                refine (HS1.out _).mono ?_
                rintro e w3 ⟨rfl, x3⟩
                have Fa_3 : Hid (H3 w3 (wr.heap.size) (.int .i64 a0) (.int .i64 a1) (.int .i64 a2)) := (Fa_2.out).ext x3
                have Fb_3 : Hid (H3 w3 (wr.heap.size + 1) (.int .i64 b0) (.int .i64 b1) (.int .i64 b2)) := (Fb_2.out).ext x3
                have E3 : Ext w w3 := Ext.trans (E2) x3
                clear x3 E2 Fa_2 Fb_2 ca0 ca1 ca2 ca3 ca4 ca5 ca6
                have da0 := fun o => ((Fa_3.out.alloc o)).1
                have da1 := fun o => ((Fa_3.out.alloc o)).2.1
                have da2 := fun o => ((Fa_3.out.alloc o)).2.2.1
                go_wp2_with fail
                refine (HS0.out _).mono ?_
                rintro e w4 ⟨rfl, x4⟩
                have Fa_4 : Hid (H3 w4 (wr.heap.size) (.int .i64 a0) (.int .i64 a1) (.int .i64 a2)) := (H3.alloc Fa_3.out _).ext x4
                have Fb_4 : Hid (H3 w4 (wr.heap.size + 1) (.int .i64 b0) (.int .i64 b1) (.int .i64 b2)) := (H3.alloc Fb_3.out _).ext x4
                have Fx_4 : Hid (H3 w4 (w3.heap.size) (.int .i64 a0) (.int .i64 a1) (.int .i64 a2)) := (h3_at rfl).ext x4
                have E4 : Ext w w4 := Ext.trans (Ext.alloc E3 _) x4
                clear x4 E3 Fa_3 Fb_3 da0 da1 da2
                have da0 := fun o => ((Fa_4.out.alloc o)).1
                have da1 := fun o => ((Fa_4.out.alloc o)).2.1
                have da2 := fun o => ((Fa_4.out.alloc o)).2.2.1
                go_wp2_with fail
                refine (HSm.out _).mono ?_
                rintro e w5 ⟨rfl, x5⟩
                have Fa_5 : Hid (H3 w5 (wr.heap.size) (.int .i64 a0) (.int .i64 a1) (.int .i64 a2)) := (H3.alloc Fa_4.out _).ext x5
                have Fb_5 : Hid (H3 w5 (wr.heap.size + 1) (.int .i64 b0) (.int .i64 b1) (.int .i64 b2)) := (H3.alloc Fb_4.out _).ext x5
                have Fx_5 : Hid (H3 w5 (w3.heap.size) (.int .i64 a0) (.int .i64 a1) (.int .i64 a2)) := (H3.alloc Fx_4.out _).ext x5
                have Fy_5 : Hid (H3 w5 (w4.heap.size) (.int .i64 0) (.int .i64 0) (.int .i64 0)) := (h3_at rfl).ext x5
                have E5 : Ext w w5 := Ext.trans (Ext.alloc E4 _) x5
                clear x5 E4 Fa_4 Fb_4 Fx_4 da0 da1 da2
                have da0 := fun o => ((Fa_5.out.alloc o)).1
                have da1 := fun o => ((Fa_5.out.alloc o)).2.1
                have da2 := fun o => ((Fa_5.out.alloc o)).2.2.1
                go_wp2_with fail
                refine (HN.out _).mono ?_
                rintro e w6 ⟨rfl, x6⟩
                have Fa_6 : Hid (H3 w6 (wr.heap.size) (.int .i64 a0) (.int .i64 a1) (.int .i64 a2)) := (H3.alloc Fa_5.out _).ext x6
                have Fb_6 : Hid (H3 w6 (wr.heap.size + 1) (.int .i64 b0) (.int .i64 b1) (.int .i64 b2)) := (H3.alloc Fb_5.out _).ext x6
                have Fx_6 : Hid (H3 w6 (w3.heap.size) (.int .i64 a0) (.int .i64 a1) (.int .i64 a2)) := (H3.alloc Fx_5.out _).ext x6
                have Fy_6 : Hid (H3 w6 (w4.heap.size) (.int .i64 0) (.int .i64 0) (.int .i64 0)) := (H3.alloc Fy_5.out _).ext x6
                have Fv_6 : Hid (H3 w6 (w5.heap.size) (.int .i64 n0) (.int .i64 n1) (.int .i64 n2)) := (h3_at rfl).ext x6
                have E6 : Ext w w6 := Ext.trans (Ext.alloc E5 _) x6
                clear x6 E5 Fa_5 Fb_5 Fx_5 Fy_5 da0 da1 da2
                have da0 := fun o => ((Fa_6.out.alloc o)).1
                have da1 := fun o => ((Fa_6.out.alloc o)).2.1
                have da2 := fun o => ((Fa_6.out.alloc o)).2.2.1
                go_wp2_with fail
                refine (HD.out _).mono ?_
                rintro e w7 ⟨rfl, x7⟩
                have Fa_7 : Hid (H3 w7 (wr.heap.size) (.int .i64 a0) (.int .i64 a1) (.int .i64 a2)) := (H3.alloc Fa_6.out _).ext x7
                have Fb_7 : Hid (H3 w7 (wr.heap.size + 1) (.int .i64 b0) (.int .i64 b1) (.int .i64 b2)) := (H3.alloc Fb_6.out _).ext x7
                have Fx_7 : Hid (H3 w7 (w3.heap.size) (.int .i64 a0) (.int .i64 a1) (.int .i64 a2)) := (H3.alloc Fx_6.out _).ext x7
                have Fy_7 : Hid (H3 w7 (w4.heap.size) (.int .i64 0) (.int .i64 0) (.int .i64 0)) := (H3.alloc Fy_6.out _).ext x7
                have Fv_7 : Hid (H3 w7 (w5.heap.size) (.int .i64 n0) (.int .i64 n1) (.int .i64 n2)) := (H3.alloc Fv_6.out _).ext x7
                have Fn_7 : Hid (H3 w7 (w6.heap.size) (.int .i64 n0) (.int .i64 n1) (.int .i64 n2)) := (h3_at rfl).ext x7
                have E7 : Ext w w7 := Ext.trans (Ext.alloc E6 _) x7
                clear x7 E6 Fa_6 Fb_6 Fx_6 Fy_6 Fv_6 da0 da1 da2
                have da0 := fun o => ((Fa_7.out.alloc o)).1
                have da1 := fun o => ((Fa_7.out.alloc o)).2.1
                have da2 := fun o => ((Fa_7.out.alloc o)).2.2.1
                have db0 := fun o => ((Fb_7.out.alloc o)).1
                have db1 := fun o => ((Fb_7.out.alloc o)).2.1
                have db2 := fun o => ((Fb_7.out.alloc o)).2.2.1
                have dx0 := fun o => ((Fx_7.out.alloc o)).1
                have dx1 := fun o => ((Fx_7.out.alloc o)).2.1
                have dx2 := fun o => ((Fx_7.out.alloc o)).2.2.1
                have dy0 := fun o => ((Fy_7.out.alloc o)).1
                have dy1 := fun o => ((Fy_7.out.alloc o)).2.1
                have dy2 := fun o => ((Fy_7.out.alloc o)).2.2.1
                have dv0 := fun o => ((Fv_7.out.alloc o)).1
                have dv1 := fun o => ((Fv_7.out.alloc o)).2.1
                have dv2 := fun o => ((Fv_7.out.alloc o)).2.2.1
                have dn0 := fun o => ((Fn_7.out.alloc o)).1
                have dn1 := fun o => ((Fn_7.out.alloc o)).2.1
                have dn2 := fun o => ((Fn_7.out.alloc o)).2.2.1
                go_wp2_with (go_at_call 10; refine (num3_any _ _).mono ?_; rintro e wx ⟨rfl, hwx⟩; have hwy := hwx.symm; clear hwx; subst hwy)
                refine (HAB.out _).mono ?_
                rintro e w8 ⟨rfl, x8⟩
                have Fa_8 : Hid (H3 w8 (wr.heap.size) (.int .i64 a0) (.int .i64 a1) (.int .i64 a2)) := (H3.alloc Fa_7.out _).ext x8
                have Fb_8 : Hid (H3 w8 (wr.heap.size + 1) (.int .i64 b0) (.int .i64 b1) (.int .i64 b2)) := (H3.alloc Fb_7.out _).ext x8
                have Fx_8 : Hid (H3 w8 (w3.heap.size) (.int .i64 a0) (.int .i64 a1) (.int .i64 a2)) := (H3.alloc Fx_7.out _).ext x8
                have Fy_8 : Hid (H3 w8 (w4.heap.size) (.int .i64 0) (.int .i64 0) (.int .i64 0)) := (H3.alloc Fy_7.out _).ext x8
                have Fv_8 : Hid (H3 w8 (w5.heap.size) (.int .i64 n0) (.int .i64 n1) (.int .i64 n2)) := (H3.alloc Fv_7.out _).ext x8
                have Fn_8 : Hid (H3 w8 (w6.heap.size) (.int .i64 n0) (.int .i64 n1) (.int .i64 n2)) := (H3.alloc Fn_7.out _).ext x8
                have Fd_8 : Hid (H3 w8 (w7.heap.size) (.int .i64 0) (.int .i64 0) (.int .i64 0)) := (h3_at rfl).ext x8
                have E8 : Ext w w8 := Ext.trans (Ext.alloc E7 _) x8
                clear x8 E7 Fa_7 Fb_7 Fx_7 Fy_7 Fv_7 Fn_7 da0 da1 da2 db0 db1 db2 dx0 dx1 dx2 dy0 dy1 dy2 dv0 dv1 dv2 dn0 dn1 dn2
                have da0 := fun o => ((Fa_8.out.alloc o)).1
                have da1 := fun o => ((Fa_8.out.alloc o)).2.1
                have da2 := fun o => ((Fa_8.out.alloc o)).2.2.1
                have db0 := fun o => ((Fb_8.out.alloc o)).1
                have db1 := fun o => ((Fb_8.out.alloc o)).2.1
                have db2 := fun o => ((Fb_8.out.alloc o)).2.2.1
                go_wp2_with fail
                refine (HBA.out _).mono ?_
                rintro e w9 ⟨rfl, x9⟩
                have Fa_9 : Hid (H3 w9 (wr.heap.size) (.int .i64 a0) (.int .i64 a1) (.int .i64 a2)) := (H3.alloc Fa_8.out _).ext x9
                have Fb_9 : Hid (H3 w9 (wr.heap.size + 1) (.int .i64 b0) (.int .i64 b1) (.int .i64 b2)) := (H3.alloc Fb_8.out _).ext x9
                have Fx_9 : Hid (H3 w9 (w3.heap.size) (.int .i64 a0) (.int .i64 a1) (.int .i64 a2)) := (H3.alloc Fx_8.out _).ext x9
                have Fy_9 : Hid (H3 w9 (w4.heap.size) (.int .i64 0) (.int .i64 0) (.int .i64 0)) := (H3.alloc Fy_8.out _).ext x9
                have Fv_9 : Hid (H3 w9 (w5.heap.size) (.int .i64 n0) (.int .i64 n1) (.int .i64 n2)) := (H3.alloc Fv_8.out _).ext x9
                have Fn_9 : Hid (H3 w9 (w6.heap.size) (.int .i64 n0) (.int .i64 n1) (.int .i64 n2)) := (H3.alloc Fn_8.out _).ext x9
                have Fd_9 : Hid (H3 w9 (w7.heap.size) (.int .i64 0) (.int .i64 0) (.int .i64 0)) := (H3.alloc Fd_8.out _).ext x9
                have Fs_9 : Hid (H3 w9 (w8.heap.size) (.int .i64 0) (.int .i64 0) (.int .i64 0)) := (h3_at rfl).ext x9
                have E9 : Ext w w9 := Ext.trans (Ext.alloc E8 _) x9
                clear x9 E8 Fa_8 Fb_8 Fx_8 Fy_8 Fv_8 Fn_8 Fd_8 da0 da1 da2 db0 db1 db2
                have da0 := fun o => ((Fa_9.out.alloc o)).1
                have da1 := fun o => ((Fa_9.out.alloc o)).2.1
                have da2 := fun o => ((Fa_9.out.alloc o)).2.2.1
                have db0 := fun o => ((Fb_9.out.alloc o)).1
                have db1 := fun o => ((Fb_9.out.alloc o)).2.1
                have db2 := fun o => ((Fb_9.out.alloc o)).2.2.1
                have ds0 := fun o => ((Fs_9.out.alloc o)).1
                have ds1 := fun o => ((Fs_9.out.alloc o)).2.1
                have ds2 := fun o => ((Fs_9.out.alloc o)).2.2.1
                go_wp2_with (go_at_call 10; refine (num3_any _ _).mono ?_; rintro e wx ⟨rfl, hwx⟩; have hwy := hwx.symm; clear hwx; subst hwy)
                go_roundw
                case rel => exact ⟨k + 1, by omega, by go_num, E9.alloc _⟩
                case measure => simp [intOf]; omega
        · clear z0 z1 z2 z3 z4 z5 q0 q1 q2 q3 q4 q5 s0 s1 s2 s3 s4 s5
          cases g1 : ok3 a0 a1 a2
          · have HMa : Hid (∀ w', Calls Try.prog 6 #[.agg #[.int .i64 a0, .int .i64 a1, .int .i64 a2]] w' fun e w'' => e = .returned (.bool false) ∧ Ext w' w'') := fun w' => by have h := mayv_any a0 a1 a2 w'; rw [g1] at h; exact h
            clear g1
            go_wp2_with fail
            refine (HMa.out _).mono ?_
            rintro e w1 ⟨rfl, x1⟩
            have Fa_1 : Hid (H3 w1 (wr.heap.size + 1) (.int .i64 a0) (.int .i64 a1) (.int .i64 a2)) := (H3.drew (h3_at (by simp))).ext x1
            have Fb_1 : Hid (H3 w1 (wr.heap.size) (.int .i64 b0) (.int .i64 b1) (.int .i64 b2)) := (H3.drew (H3.alloc (h3_at rfl) _)).ext x1
            have E1 : Ext w w1 := Ext.trans (Ext.drew (Ext.alloc (Ext.alloc hx _) _)) x1
            clear x1
            obtain ⟨cb0, cb1, cb2, cb3, cb4, cb5, cb6⟩ := Fb_1.out
            go_wp2_with fail
            go_roundw
            case rel => exact ⟨k + 1, by omega, by go_num, E1⟩
            case measure => simp [intOf]; omega
          · have HMa : Hid (∀ w', Calls Try.prog 6 #[.agg #[.int .i64 a0, .int .i64 a1, .int .i64 a2]] w' fun e w'' => e = .returned (.bool true) ∧ Ext w' w'') := fun w' => by have h := mayv_any a0 a1 a2 w'; rw [g1] at h; exact h
            cases g2 : ok3 b0 b1 b2
            · have HMb : Hid (∀ w', Calls Try.prog 6 #[.agg #[.int .i64 b0, .int .i64 b1, .int .i64 b2]] w' fun e w'' => e = .returned (.bool false) ∧ Ext w' w'') := fun w' => by have h := mayv_any b0 b1 b2 w'; rw [g2] at h; exact h
              clear g1 g2
              go_wp2_with fail
              refine (HMa.out _).mono ?_
              rintro e w1 ⟨rfl, x1⟩
              have Fa_1 : Hid (H3 w1 (wr.heap.size + 1) (.int .i64 a0) (.int .i64 a1) (.int .i64 a2)) := (H3.drew (h3_at (by simp))).ext x1
              have Fb_1 : Hid (H3 w1 (wr.heap.size) (.int .i64 b0) (.int .i64 b1) (.int .i64 b2)) := (H3.drew (H3.alloc (h3_at rfl) _)).ext x1
              have E1 : Ext w w1 := Ext.trans (Ext.drew (Ext.alloc (Ext.alloc hx _) _)) x1
              clear x1
              obtain ⟨cb0, cb1, cb2, cb3, cb4, cb5, cb6⟩ := Fb_1.out
              go_wp2_with fail
              refine (HMb.out _).mono ?_
              rintro e w2 ⟨rfl, x2⟩
              have Fa_2 : Hid (H3 w2 (wr.heap.size + 1) (.int .i64 a0) (.int .i64 a1) (.int .i64 a2)) := (Fa_1.out).ext x2
              have Fb_2 : Hid (H3 w2 (wr.heap.size) (.int .i64 b0) (.int .i64 b1) (.int .i64 b2)) := (Fb_1.out).ext x2
              have E2 : Ext w w2 := Ext.trans (E1) x2
              clear x2 E1 Fa_1 Fb_1 cb0 cb1 cb2 cb3 cb4 cb5 cb6
              go_wp2_with fail
              go_roundw
              case rel => exact ⟨k + 1, by omega, by go_num, E2⟩
              case measure => simp [intOf]; omega
            · have HMb : Hid (∀ w', Calls Try.prog 6 #[.agg #[.int .i64 b0, .int .i64 b1, .int .i64 b2]] w' fun e w'' => e = .returned (.bool true) ∧ Ext w' w'') := fun w' => by have h := mayv_any b0 b1 b2 w'; rw [g2] at h; exact h
              have HS1 : Hid (∀ w', Calls Try.prog 7 #[.agg #[.int .i64 a0, .int .i64 a1, .int .i64 a2], .int .i64 1073741824] w' fun e w'' => e = .returned (.tuple #[.agg #[.int .i64 a0, .int .i64 a1, .int .i64 a2], .int .i64 0]) ∧ Ext w' w'') := fun w' => scale_one a0 a1 a2 w' g1
              have HS0 : Hid (∀ w', Calls Try.prog 7 #[.agg #[.int .i64 a0, .int .i64 a1, .int .i64 a2], .int .i64 0] w' fun e w'' => e = .returned (.tuple #[.agg #[.int .i64 0, .int .i64 0, .int .i64 0], .int .i64 0]) ∧ Ext w' w'') := fun w' => scale_zero a0 a1 a2 w' g1
              have HSm0 : Hid (∀ w', Calls Try.prog 7 #[.agg #[.int .i64 a0, .int .i64 a1, .int .i64 a2], .int .i64 (-1073741824)] w' fun e w'' => e = .returned (.tuple #[.agg #[.int .i64 (-a0), .int .i64 (-a1), .int .i64 (-a2)], .int .i64 0]) ∧ Ext w' w'') := fun w' => scale_neg a0 a1 a2 w' g1
              have HN0 : Hid (∀ w', Calls Try.prog 8 #[.agg #[.int .i64 a0, .int .i64 a1, .int .i64 a2]] w' fun e w'' => e = .returned (.tuple #[.agg #[.int .i64 (-a0), .int .i64 (-a1), .int .i64 (-a2)], .int .i64 0]) ∧ Ext w' w'') := fun w' => neg_is a0 a1 a2 w' g1
              have HD : Hid (∀ w', Calls Try.prog 9 #[.agg #[.int .i64 a0, .int .i64 a1, .int .i64 a2], .agg #[.int .i64 a0, .int .i64 a1, .int .i64 a2]] w' fun e w'' => e = .returned (.tuple #[.agg #[.int .i64 0, .int .i64 0, .int .i64 0], .int .i64 0]) ∧ Ext w' w'') := fun w' => sub_self a0 a1 a2 w' g1
              obtain ⟨n0, n1, n2, HSm, HN⟩ : ∃ n0 n1 n2 : Int, Hid (∀ w', Calls Try.prog 7 #[.agg #[.int .i64 a0, .int .i64 a1, .int .i64 a2], .int .i64 (-1073741824)] w' fun e w'' => e = .returned (.tuple #[.agg #[.int .i64 n0, .int .i64 n1, .int .i64 n2], .int .i64 0]) ∧ Ext w' w'') ∧ Hid (∀ w', Calls Try.prog 8 #[.agg #[.int .i64 a0, .int .i64 a1, .int .i64 a2]] w' fun e w'' => e = .returned (.tuple #[.agg #[.int .i64 n0, .int .i64 n1, .int .i64 n2], .int .i64 0]) ∧ Ext w' w'') := ⟨_, _, _, HSm0, HN0⟩
              clear HSm0 HN0
              rcases sums_two a0 a1 a2 b0 b1 b2 g1 g2 with ⟨s0, s1, s2, HAB, HBA, HSB⟩ | ⟨HAB, HBA⟩
              · clear g1 g2
                go_wp2_with fail
                refine (HMa.out _).mono ?_
                rintro e w1 ⟨rfl, x1⟩
                have Fa_1 : Hid (H3 w1 (wr.heap.size + 1) (.int .i64 a0) (.int .i64 a1) (.int .i64 a2)) := (H3.drew (h3_at (by simp))).ext x1
                have Fb_1 : Hid (H3 w1 (wr.heap.size) (.int .i64 b0) (.int .i64 b1) (.int .i64 b2)) := (H3.drew (H3.alloc (h3_at rfl) _)).ext x1
                have E1 : Ext w w1 := Ext.trans (Ext.drew (Ext.alloc (Ext.alloc hx _) _)) x1
                clear x1
                obtain ⟨cb0, cb1, cb2, cb3, cb4, cb5, cb6⟩ := Fb_1.out
                go_wp2_with fail
                refine (HMb.out _).mono ?_
                rintro e w2 ⟨rfl, x2⟩
                have Fa_2 : Hid (H3 w2 (wr.heap.size + 1) (.int .i64 a0) (.int .i64 a1) (.int .i64 a2)) := (Fa_1.out).ext x2
                have Fb_2 : Hid (H3 w2 (wr.heap.size) (.int .i64 b0) (.int .i64 b1) (.int .i64 b2)) := (Fb_1.out).ext x2
                have E2 : Ext w w2 := Ext.trans (E1) x2
                clear x2 E1 Fa_1 Fb_1 cb0 cb1 cb2 cb3 cb4 cb5 cb6
                obtain ⟨ca0, ca1, ca2, ca3, ca4, ca5, ca6⟩ := Fa_2.out
                go_wp2_with fail
                refine (HS1.out _).mono ?_
                rintro e w3 ⟨rfl, x3⟩
                have Fa_3 : Hid (H3 w3 (wr.heap.size + 1) (.int .i64 a0) (.int .i64 a1) (.int .i64 a2)) := (Fa_2.out).ext x3
                have Fb_3 : Hid (H3 w3 (wr.heap.size) (.int .i64 b0) (.int .i64 b1) (.int .i64 b2)) := (Fb_2.out).ext x3
                have E3 : Ext w w3 := Ext.trans (E2) x3
                clear x3 E2 Fa_2 Fb_2 ca0 ca1 ca2 ca3 ca4 ca5 ca6
                have da0 := fun o => ((Fa_3.out.alloc o)).1
                have da1 := fun o => ((Fa_3.out.alloc o)).2.1
                have da2 := fun o => ((Fa_3.out.alloc o)).2.2.1
                go_wp2_with fail
                refine (HS0.out _).mono ?_
                rintro e w4 ⟨rfl, x4⟩
                have Fa_4 : Hid (H3 w4 (wr.heap.size + 1) (.int .i64 a0) (.int .i64 a1) (.int .i64 a2)) := (H3.alloc Fa_3.out _).ext x4
                have Fb_4 : Hid (H3 w4 (wr.heap.size) (.int .i64 b0) (.int .i64 b1) (.int .i64 b2)) := (H3.alloc Fb_3.out _).ext x4
                have Fx_4 : Hid (H3 w4 (w3.heap.size) (.int .i64 a0) (.int .i64 a1) (.int .i64 a2)) := (h3_at rfl).ext x4
                have E4 : Ext w w4 := Ext.trans (Ext.alloc E3 _) x4
                clear x4 E3 Fa_3 Fb_3 da0 da1 da2
                have da0 := fun o => ((Fa_4.out.alloc o)).1
                have da1 := fun o => ((Fa_4.out.alloc o)).2.1
                have da2 := fun o => ((Fa_4.out.alloc o)).2.2.1
                go_wp2_with fail
                refine (HSm.out _).mono ?_
                rintro e w5 ⟨rfl, x5⟩
                have Fa_5 : Hid (H3 w5 (wr.heap.size + 1) (.int .i64 a0) (.int .i64 a1) (.int .i64 a2)) := (H3.alloc Fa_4.out _).ext x5
                have Fb_5 : Hid (H3 w5 (wr.heap.size) (.int .i64 b0) (.int .i64 b1) (.int .i64 b2)) := (H3.alloc Fb_4.out _).ext x5
                have Fx_5 : Hid (H3 w5 (w3.heap.size) (.int .i64 a0) (.int .i64 a1) (.int .i64 a2)) := (H3.alloc Fx_4.out _).ext x5
                have Fy_5 : Hid (H3 w5 (w4.heap.size) (.int .i64 0) (.int .i64 0) (.int .i64 0)) := (h3_at rfl).ext x5
                have E5 : Ext w w5 := Ext.trans (Ext.alloc E4 _) x5
                clear x5 E4 Fa_4 Fb_4 Fx_4 da0 da1 da2
                have da0 := fun o => ((Fa_5.out.alloc o)).1
                have da1 := fun o => ((Fa_5.out.alloc o)).2.1
                have da2 := fun o => ((Fa_5.out.alloc o)).2.2.1
                go_wp2_with fail
                refine (HN.out _).mono ?_
                rintro e w6 ⟨rfl, x6⟩
                have Fa_6 : Hid (H3 w6 (wr.heap.size + 1) (.int .i64 a0) (.int .i64 a1) (.int .i64 a2)) := (H3.alloc Fa_5.out _).ext x6
                have Fb_6 : Hid (H3 w6 (wr.heap.size) (.int .i64 b0) (.int .i64 b1) (.int .i64 b2)) := (H3.alloc Fb_5.out _).ext x6
                have Fx_6 : Hid (H3 w6 (w3.heap.size) (.int .i64 a0) (.int .i64 a1) (.int .i64 a2)) := (H3.alloc Fx_5.out _).ext x6
                have Fy_6 : Hid (H3 w6 (w4.heap.size) (.int .i64 0) (.int .i64 0) (.int .i64 0)) := (H3.alloc Fy_5.out _).ext x6
                have Fv_6 : Hid (H3 w6 (w5.heap.size) (.int .i64 n0) (.int .i64 n1) (.int .i64 n2)) := (h3_at rfl).ext x6
                have E6 : Ext w w6 := Ext.trans (Ext.alloc E5 _) x6
                clear x6 E5 Fa_5 Fb_5 Fx_5 Fy_5 da0 da1 da2
                have da0 := fun o => ((Fa_6.out.alloc o)).1
                have da1 := fun o => ((Fa_6.out.alloc o)).2.1
                have da2 := fun o => ((Fa_6.out.alloc o)).2.2.1
                go_wp2_with fail
                refine (HD.out _).mono ?_
                rintro e w7 ⟨rfl, x7⟩
                have Fa_7 : Hid (H3 w7 (wr.heap.size + 1) (.int .i64 a0) (.int .i64 a1) (.int .i64 a2)) := (H3.alloc Fa_6.out _).ext x7
                have Fb_7 : Hid (H3 w7 (wr.heap.size) (.int .i64 b0) (.int .i64 b1) (.int .i64 b2)) := (H3.alloc Fb_6.out _).ext x7
                have Fx_7 : Hid (H3 w7 (w3.heap.size) (.int .i64 a0) (.int .i64 a1) (.int .i64 a2)) := (H3.alloc Fx_6.out _).ext x7
                have Fy_7 : Hid (H3 w7 (w4.heap.size) (.int .i64 0) (.int .i64 0) (.int .i64 0)) := (H3.alloc Fy_6.out _).ext x7
                have Fv_7 : Hid (H3 w7 (w5.heap.size) (.int .i64 n0) (.int .i64 n1) (.int .i64 n2)) := (H3.alloc Fv_6.out _).ext x7
                have Fn_7 : Hid (H3 w7 (w6.heap.size) (.int .i64 n0) (.int .i64 n1) (.int .i64 n2)) := (h3_at rfl).ext x7
                have E7 : Ext w w7 := Ext.trans (Ext.alloc E6 _) x7
                clear x7 E6 Fa_6 Fb_6 Fx_6 Fy_6 Fv_6 da0 da1 da2
                have da0 := fun o => ((Fa_7.out.alloc o)).1
                have da1 := fun o => ((Fa_7.out.alloc o)).2.1
                have da2 := fun o => ((Fa_7.out.alloc o)).2.2.1
                have db0 := fun o => ((Fb_7.out.alloc o)).1
                have db1 := fun o => ((Fb_7.out.alloc o)).2.1
                have db2 := fun o => ((Fb_7.out.alloc o)).2.2.1
                have dx0 := fun o => ((Fx_7.out.alloc o)).1
                have dx1 := fun o => ((Fx_7.out.alloc o)).2.1
                have dx2 := fun o => ((Fx_7.out.alloc o)).2.2.1
                have dy0 := fun o => ((Fy_7.out.alloc o)).1
                have dy1 := fun o => ((Fy_7.out.alloc o)).2.1
                have dy2 := fun o => ((Fy_7.out.alloc o)).2.2.1
                have dv0 := fun o => ((Fv_7.out.alloc o)).1
                have dv1 := fun o => ((Fv_7.out.alloc o)).2.1
                have dv2 := fun o => ((Fv_7.out.alloc o)).2.2.1
                have dn0 := fun o => ((Fn_7.out.alloc o)).1
                have dn1 := fun o => ((Fn_7.out.alloc o)).2.1
                have dn2 := fun o => ((Fn_7.out.alloc o)).2.2.1
                go_wp2_with (go_at_call 10; refine (num3_any _ _).mono ?_; rintro e wx ⟨rfl, hwx⟩; have hwy := hwx.symm; clear hwx; subst hwy)
                refine (HAB.out _).mono ?_
                rintro e w8 ⟨rfl, x8⟩
                have Fa_8 : Hid (H3 w8 (wr.heap.size + 1) (.int .i64 a0) (.int .i64 a1) (.int .i64 a2)) := (H3.alloc Fa_7.out _).ext x8
                have Fb_8 : Hid (H3 w8 (wr.heap.size) (.int .i64 b0) (.int .i64 b1) (.int .i64 b2)) := (H3.alloc Fb_7.out _).ext x8
                have Fx_8 : Hid (H3 w8 (w3.heap.size) (.int .i64 a0) (.int .i64 a1) (.int .i64 a2)) := (H3.alloc Fx_7.out _).ext x8
                have Fy_8 : Hid (H3 w8 (w4.heap.size) (.int .i64 0) (.int .i64 0) (.int .i64 0)) := (H3.alloc Fy_7.out _).ext x8
                have Fv_8 : Hid (H3 w8 (w5.heap.size) (.int .i64 n0) (.int .i64 n1) (.int .i64 n2)) := (H3.alloc Fv_7.out _).ext x8
                have Fn_8 : Hid (H3 w8 (w6.heap.size) (.int .i64 n0) (.int .i64 n1) (.int .i64 n2)) := (H3.alloc Fn_7.out _).ext x8
                have Fd_8 : Hid (H3 w8 (w7.heap.size) (.int .i64 0) (.int .i64 0) (.int .i64 0)) := (h3_at rfl).ext x8
                have E8 : Ext w w8 := Ext.trans (Ext.alloc E7 _) x8
                clear x8 E7 Fa_7 Fb_7 Fx_7 Fy_7 Fv_7 Fn_7 da0 da1 da2 db0 db1 db2 dx0 dx1 dx2 dy0 dy1 dy2 dv0 dv1 dv2 dn0 dn1 dn2
                have da0 := fun o => ((Fa_8.out.alloc o)).1
                have da1 := fun o => ((Fa_8.out.alloc o)).2.1
                have da2 := fun o => ((Fa_8.out.alloc o)).2.2.1
                have db0 := fun o => ((Fb_8.out.alloc o)).1
                have db1 := fun o => ((Fb_8.out.alloc o)).2.1
                have db2 := fun o => ((Fb_8.out.alloc o)).2.2.1
                go_wp2_with fail
                refine (HBA.out _).mono ?_
                rintro e w9 ⟨rfl, x9⟩
                have Fa_9 : Hid (H3 w9 (wr.heap.size + 1) (.int .i64 a0) (.int .i64 a1) (.int .i64 a2)) := (H3.alloc Fa_8.out _).ext x9
                have Fb_9 : Hid (H3 w9 (wr.heap.size) (.int .i64 b0) (.int .i64 b1) (.int .i64 b2)) := (H3.alloc Fb_8.out _).ext x9
                have Fx_9 : Hid (H3 w9 (w3.heap.size) (.int .i64 a0) (.int .i64 a1) (.int .i64 a2)) := (H3.alloc Fx_8.out _).ext x9
                have Fy_9 : Hid (H3 w9 (w4.heap.size) (.int .i64 0) (.int .i64 0) (.int .i64 0)) := (H3.alloc Fy_8.out _).ext x9
                have Fv_9 : Hid (H3 w9 (w5.heap.size) (.int .i64 n0) (.int .i64 n1) (.int .i64 n2)) := (H3.alloc Fv_8.out _).ext x9
                have Fn_9 : Hid (H3 w9 (w6.heap.size) (.int .i64 n0) (.int .i64 n1) (.int .i64 n2)) := (H3.alloc Fn_8.out _).ext x9
                have Fd_9 : Hid (H3 w9 (w7.heap.size) (.int .i64 0) (.int .i64 0) (.int .i64 0)) := (H3.alloc Fd_8.out _).ext x9
                have Fs_9 : Hid (H3 w9 (w8.heap.size) (.int .i64 s0) (.int .i64 s1) (.int .i64 s2)) := (h3_at rfl).ext x9
                have E9 : Ext w w9 := Ext.trans (Ext.alloc E8 _) x9
                clear x9 E8 Fa_8 Fb_8 Fx_8 Fy_8 Fv_8 Fn_8 Fd_8 da0 da1 da2 db0 db1 db2
                have da0 := fun o => ((Fa_9.out.alloc o)).1
                have da1 := fun o => ((Fa_9.out.alloc o)).2.1
                have da2 := fun o => ((Fa_9.out.alloc o)).2.2.1
                have db0 := fun o => ((Fb_9.out.alloc o)).1
                have db1 := fun o => ((Fb_9.out.alloc o)).2.1
                have db2 := fun o => ((Fb_9.out.alloc o)).2.2.1
                have ds0 := fun o => ((Fs_9.out.alloc o)).1
                have ds1 := fun o => ((Fs_9.out.alloc o)).2.1
                have ds2 := fun o => ((Fs_9.out.alloc o)).2.2.1
                go_wp2_with (go_at_call 10; refine (num3_any _ _).mono ?_; rintro e wx ⟨rfl, hwx⟩; have hwy := hwx.symm; clear hwx; subst hwy)
                refine (HSB.out _).mono ?_
                rintro e w10 ⟨rfl, x10⟩
                have Fa_10 : Hid (H3 w10 (wr.heap.size + 1) (.int .i64 a0) (.int .i64 a1) (.int .i64 a2)) := (H3.alloc Fa_9.out _).ext x10
                have Fb_10 : Hid (H3 w10 (wr.heap.size) (.int .i64 b0) (.int .i64 b1) (.int .i64 b2)) := (H3.alloc Fb_9.out _).ext x10
                have Fx_10 : Hid (H3 w10 (w3.heap.size) (.int .i64 a0) (.int .i64 a1) (.int .i64 a2)) := (H3.alloc Fx_9.out _).ext x10
                have Fy_10 : Hid (H3 w10 (w4.heap.size) (.int .i64 0) (.int .i64 0) (.int .i64 0)) := (H3.alloc Fy_9.out _).ext x10
                have Fv_10 : Hid (H3 w10 (w5.heap.size) (.int .i64 n0) (.int .i64 n1) (.int .i64 n2)) := (H3.alloc Fv_9.out _).ext x10
                have Fn_10 : Hid (H3 w10 (w6.heap.size) (.int .i64 n0) (.int .i64 n1) (.int .i64 n2)) := (H3.alloc Fn_9.out _).ext x10
                have Fd_10 : Hid (H3 w10 (w7.heap.size) (.int .i64 0) (.int .i64 0) (.int .i64 0)) := (H3.alloc Fd_9.out _).ext x10
                have Fs_10 : Hid (H3 w10 (w8.heap.size) (.int .i64 s0) (.int .i64 s1) (.int .i64 s2)) := (H3.alloc Fs_9.out _).ext x10
                have Ft_10 : Hid (H3 w10 (w9.heap.size) (.int .i64 s0) (.int .i64 s1) (.int .i64 s2)) := (h3_at rfl).ext x10
                have E10 : Ext w w10 := Ext.trans (Ext.alloc E9 _) x10
                clear x10 E9 Fa_9 Fb_9 Fx_9 Fy_9 Fv_9 Fn_9 Fd_9 Fs_9 da0 da1 da2 db0 db1 db2 ds0 ds1 ds2
                have da0 := fun o => ((Fa_10.out.alloc o)).1
                have da1 := fun o => ((Fa_10.out.alloc o)).2.1
                have da2 := fun o => ((Fa_10.out.alloc o)).2.2.1
                go_wp2_with (go_at_call 10; refine (num3_any _ _).mono ?_; rintro e wx ⟨rfl, hwx⟩; have hwy := hwx.symm; clear hwx; subst hwy)
                go_roundw
                case rel => exact ⟨k + 1, by omega, by go_num, E10.alloc _⟩
                case measure => simp [intOf]; omega
              · clear g1 g2
                go_wp2_with fail
                refine (HMa.out _).mono ?_
                rintro e w1 ⟨rfl, x1⟩
                have Fa_1 : Hid (H3 w1 (wr.heap.size + 1) (.int .i64 a0) (.int .i64 a1) (.int .i64 a2)) := (H3.drew (h3_at (by simp))).ext x1
                have Fb_1 : Hid (H3 w1 (wr.heap.size) (.int .i64 b0) (.int .i64 b1) (.int .i64 b2)) := (H3.drew (H3.alloc (h3_at rfl) _)).ext x1
                have E1 : Ext w w1 := Ext.trans (Ext.drew (Ext.alloc (Ext.alloc hx _) _)) x1
                clear x1
                obtain ⟨cb0, cb1, cb2, cb3, cb4, cb5, cb6⟩ := Fb_1.out
                go_wp2_with fail
                refine (HMb.out _).mono ?_
                rintro e w2 ⟨rfl, x2⟩
                have Fa_2 : Hid (H3 w2 (wr.heap.size + 1) (.int .i64 a0) (.int .i64 a1) (.int .i64 a2)) := (Fa_1.out).ext x2
                have Fb_2 : Hid (H3 w2 (wr.heap.size) (.int .i64 b0) (.int .i64 b1) (.int .i64 b2)) := (Fb_1.out).ext x2
                have E2 : Ext w w2 := Ext.trans (E1) x2
                clear x2 E1 Fa_1 Fb_1 cb0 cb1 cb2 cb3 cb4 cb5 cb6
                obtain ⟨ca0, ca1, ca2, ca3, ca4, ca5, ca6⟩ := Fa_2.out
                go_wp2_with fail
                refine (HS1.out _).mono ?_
                rintro e w3 ⟨rfl, x3⟩
                have Fa_3 : Hid (H3 w3 (wr.heap.size + 1) (.int .i64 a0) (.int .i64 a1) (.int .i64 a2)) := (Fa_2.out).ext x3
                have Fb_3 : Hid (H3 w3 (wr.heap.size) (.int .i64 b0) (.int .i64 b1) (.int .i64 b2)) := (Fb_2.out).ext x3
                have E3 : Ext w w3 := Ext.trans (E2) x3
                clear x3 E2 Fa_2 Fb_2 ca0 ca1 ca2 ca3 ca4 ca5 ca6
                have da0 := fun o => ((Fa_3.out.alloc o)).1
                have da1 := fun o => ((Fa_3.out.alloc o)).2.1
                have da2 := fun o => ((Fa_3.out.alloc o)).2.2.1
                go_wp2_with fail
                refine (HS0.out _).mono ?_
                rintro e w4 ⟨rfl, x4⟩
                have Fa_4 : Hid (H3 w4 (wr.heap.size + 1) (.int .i64 a0) (.int .i64 a1) (.int .i64 a2)) := (H3.alloc Fa_3.out _).ext x4
                have Fb_4 : Hid (H3 w4 (wr.heap.size) (.int .i64 b0) (.int .i64 b1) (.int .i64 b2)) := (H3.alloc Fb_3.out _).ext x4
                have Fx_4 : Hid (H3 w4 (w3.heap.size) (.int .i64 a0) (.int .i64 a1) (.int .i64 a2)) := (h3_at rfl).ext x4
                have E4 : Ext w w4 := Ext.trans (Ext.alloc E3 _) x4
                clear x4 E3 Fa_3 Fb_3 da0 da1 da2
                have da0 := fun o => ((Fa_4.out.alloc o)).1
                have da1 := fun o => ((Fa_4.out.alloc o)).2.1
                have da2 := fun o => ((Fa_4.out.alloc o)).2.2.1
                go_wp2_with fail
                refine (HSm.out _).mono ?_
                rintro e w5 ⟨rfl, x5⟩
                have Fa_5 : Hid (H3 w5 (wr.heap.size + 1) (.int .i64 a0) (.int .i64 a1) (.int .i64 a2)) := (H3.alloc Fa_4.out _).ext x5
                have Fb_5 : Hid (H3 w5 (wr.heap.size) (.int .i64 b0) (.int .i64 b1) (.int .i64 b2)) := (H3.alloc Fb_4.out _).ext x5
                have Fx_5 : Hid (H3 w5 (w3.heap.size) (.int .i64 a0) (.int .i64 a1) (.int .i64 a2)) := (H3.alloc Fx_4.out _).ext x5
                have Fy_5 : Hid (H3 w5 (w4.heap.size) (.int .i64 0) (.int .i64 0) (.int .i64 0)) := (h3_at rfl).ext x5
                have E5 : Ext w w5 := Ext.trans (Ext.alloc E4 _) x5
                clear x5 E4 Fa_4 Fb_4 Fx_4 da0 da1 da2
                have da0 := fun o => ((Fa_5.out.alloc o)).1
                have da1 := fun o => ((Fa_5.out.alloc o)).2.1
                have da2 := fun o => ((Fa_5.out.alloc o)).2.2.1
                go_wp2_with fail
                refine (HN.out _).mono ?_
                rintro e w6 ⟨rfl, x6⟩
                have Fa_6 : Hid (H3 w6 (wr.heap.size + 1) (.int .i64 a0) (.int .i64 a1) (.int .i64 a2)) := (H3.alloc Fa_5.out _).ext x6
                have Fb_6 : Hid (H3 w6 (wr.heap.size) (.int .i64 b0) (.int .i64 b1) (.int .i64 b2)) := (H3.alloc Fb_5.out _).ext x6
                have Fx_6 : Hid (H3 w6 (w3.heap.size) (.int .i64 a0) (.int .i64 a1) (.int .i64 a2)) := (H3.alloc Fx_5.out _).ext x6
                have Fy_6 : Hid (H3 w6 (w4.heap.size) (.int .i64 0) (.int .i64 0) (.int .i64 0)) := (H3.alloc Fy_5.out _).ext x6
                have Fv_6 : Hid (H3 w6 (w5.heap.size) (.int .i64 n0) (.int .i64 n1) (.int .i64 n2)) := (h3_at rfl).ext x6
                have E6 : Ext w w6 := Ext.trans (Ext.alloc E5 _) x6
                clear x6 E5 Fa_5 Fb_5 Fx_5 Fy_5 da0 da1 da2
                have da0 := fun o => ((Fa_6.out.alloc o)).1
                have da1 := fun o => ((Fa_6.out.alloc o)).2.1
                have da2 := fun o => ((Fa_6.out.alloc o)).2.2.1
                go_wp2_with fail
                refine (HD.out _).mono ?_
                rintro e w7 ⟨rfl, x7⟩
                have Fa_7 : Hid (H3 w7 (wr.heap.size + 1) (.int .i64 a0) (.int .i64 a1) (.int .i64 a2)) := (H3.alloc Fa_6.out _).ext x7
                have Fb_7 : Hid (H3 w7 (wr.heap.size) (.int .i64 b0) (.int .i64 b1) (.int .i64 b2)) := (H3.alloc Fb_6.out _).ext x7
                have Fx_7 : Hid (H3 w7 (w3.heap.size) (.int .i64 a0) (.int .i64 a1) (.int .i64 a2)) := (H3.alloc Fx_6.out _).ext x7
                have Fy_7 : Hid (H3 w7 (w4.heap.size) (.int .i64 0) (.int .i64 0) (.int .i64 0)) := (H3.alloc Fy_6.out _).ext x7
                have Fv_7 : Hid (H3 w7 (w5.heap.size) (.int .i64 n0) (.int .i64 n1) (.int .i64 n2)) := (H3.alloc Fv_6.out _).ext x7
                have Fn_7 : Hid (H3 w7 (w6.heap.size) (.int .i64 n0) (.int .i64 n1) (.int .i64 n2)) := (h3_at rfl).ext x7
                have E7 : Ext w w7 := Ext.trans (Ext.alloc E6 _) x7
                clear x7 E6 Fa_6 Fb_6 Fx_6 Fy_6 Fv_6 da0 da1 da2
                have da0 := fun o => ((Fa_7.out.alloc o)).1
                have da1 := fun o => ((Fa_7.out.alloc o)).2.1
                have da2 := fun o => ((Fa_7.out.alloc o)).2.2.1
                have db0 := fun o => ((Fb_7.out.alloc o)).1
                have db1 := fun o => ((Fb_7.out.alloc o)).2.1
                have db2 := fun o => ((Fb_7.out.alloc o)).2.2.1
                have dx0 := fun o => ((Fx_7.out.alloc o)).1
                have dx1 := fun o => ((Fx_7.out.alloc o)).2.1
                have dx2 := fun o => ((Fx_7.out.alloc o)).2.2.1
                have dy0 := fun o => ((Fy_7.out.alloc o)).1
                have dy1 := fun o => ((Fy_7.out.alloc o)).2.1
                have dy2 := fun o => ((Fy_7.out.alloc o)).2.2.1
                have dv0 := fun o => ((Fv_7.out.alloc o)).1
                have dv1 := fun o => ((Fv_7.out.alloc o)).2.1
                have dv2 := fun o => ((Fv_7.out.alloc o)).2.2.1
                have dn0 := fun o => ((Fn_7.out.alloc o)).1
                have dn1 := fun o => ((Fn_7.out.alloc o)).2.1
                have dn2 := fun o => ((Fn_7.out.alloc o)).2.2.1
                go_wp2_with (go_at_call 10; refine (num3_any _ _).mono ?_; rintro e wx ⟨rfl, hwx⟩; have hwy := hwx.symm; clear hwx; subst hwy)
                refine (HAB.out _).mono ?_
                rintro e w8 ⟨rfl, x8⟩
                have Fa_8 : Hid (H3 w8 (wr.heap.size + 1) (.int .i64 a0) (.int .i64 a1) (.int .i64 a2)) := (H3.alloc Fa_7.out _).ext x8
                have Fb_8 : Hid (H3 w8 (wr.heap.size) (.int .i64 b0) (.int .i64 b1) (.int .i64 b2)) := (H3.alloc Fb_7.out _).ext x8
                have Fx_8 : Hid (H3 w8 (w3.heap.size) (.int .i64 a0) (.int .i64 a1) (.int .i64 a2)) := (H3.alloc Fx_7.out _).ext x8
                have Fy_8 : Hid (H3 w8 (w4.heap.size) (.int .i64 0) (.int .i64 0) (.int .i64 0)) := (H3.alloc Fy_7.out _).ext x8
                have Fv_8 : Hid (H3 w8 (w5.heap.size) (.int .i64 n0) (.int .i64 n1) (.int .i64 n2)) := (H3.alloc Fv_7.out _).ext x8
                have Fn_8 : Hid (H3 w8 (w6.heap.size) (.int .i64 n0) (.int .i64 n1) (.int .i64 n2)) := (H3.alloc Fn_7.out _).ext x8
                have Fd_8 : Hid (H3 w8 (w7.heap.size) (.int .i64 0) (.int .i64 0) (.int .i64 0)) := (h3_at rfl).ext x8
                have E8 : Ext w w8 := Ext.trans (Ext.alloc E7 _) x8
                clear x8 E7 Fa_7 Fb_7 Fx_7 Fy_7 Fv_7 Fn_7 da0 da1 da2 db0 db1 db2 dx0 dx1 dx2 dy0 dy1 dy2 dv0 dv1 dv2 dn0 dn1 dn2
                have da0 := fun o => ((Fa_8.out.alloc o)).1
                have da1 := fun o => ((Fa_8.out.alloc o)).2.1
                have da2 := fun o => ((Fa_8.out.alloc o)).2.2.1
                have db0 := fun o => ((Fb_8.out.alloc o)).1
                have db1 := fun o => ((Fb_8.out.alloc o)).2.1
                have db2 := fun o => ((Fb_8.out.alloc o)).2.2.1
                go_wp2_with fail
                refine (HBA.out _).mono ?_
                rintro e w9 ⟨rfl, x9⟩
                have Fa_9 : Hid (H3 w9 (wr.heap.size + 1) (.int .i64 a0) (.int .i64 a1) (.int .i64 a2)) := (H3.alloc Fa_8.out _).ext x9
                have Fb_9 : Hid (H3 w9 (wr.heap.size) (.int .i64 b0) (.int .i64 b1) (.int .i64 b2)) := (H3.alloc Fb_8.out _).ext x9
                have Fx_9 : Hid (H3 w9 (w3.heap.size) (.int .i64 a0) (.int .i64 a1) (.int .i64 a2)) := (H3.alloc Fx_8.out _).ext x9
                have Fy_9 : Hid (H3 w9 (w4.heap.size) (.int .i64 0) (.int .i64 0) (.int .i64 0)) := (H3.alloc Fy_8.out _).ext x9
                have Fv_9 : Hid (H3 w9 (w5.heap.size) (.int .i64 n0) (.int .i64 n1) (.int .i64 n2)) := (H3.alloc Fv_8.out _).ext x9
                have Fn_9 : Hid (H3 w9 (w6.heap.size) (.int .i64 n0) (.int .i64 n1) (.int .i64 n2)) := (H3.alloc Fn_8.out _).ext x9
                have Fd_9 : Hid (H3 w9 (w7.heap.size) (.int .i64 0) (.int .i64 0) (.int .i64 0)) := (H3.alloc Fd_8.out _).ext x9
                have Fs_9 : Hid (H3 w9 (w8.heap.size) (.int .i64 0) (.int .i64 0) (.int .i64 0)) := (h3_at rfl).ext x9
                have E9 : Ext w w9 := Ext.trans (Ext.alloc E8 _) x9
                clear x9 E8 Fa_8 Fb_8 Fx_8 Fy_8 Fv_8 Fn_8 Fd_8 da0 da1 da2 db0 db1 db2
                have da0 := fun o => ((Fa_9.out.alloc o)).1
                have da1 := fun o => ((Fa_9.out.alloc o)).2.1
                have da2 := fun o => ((Fa_9.out.alloc o)).2.2.1
                have db0 := fun o => ((Fb_9.out.alloc o)).1
                have db1 := fun o => ((Fb_9.out.alloc o)).2.1
                have db2 := fun o => ((Fb_9.out.alloc o)).2.2.1
                have ds0 := fun o => ((Fs_9.out.alloc o)).1
                have ds1 := fun o => ((Fs_9.out.alloc o)).2.1
                have ds2 := fun o => ((Fs_9.out.alloc o)).2.2.1
                go_wp2_with (go_at_call 10; refine (num3_any _ _).mono ?_; rintro e wx ⟨rfl, hwx⟩; have hwy := hwx.symm; clear hwx; subst hwy)
                go_roundw
                case rel => exact ⟨k + 1, by omega, by go_num, E9.alloc _⟩
                case measure => simp [intOf]; omega
      · go_wp2_with fail
        refine (wakes3_any _).mono ?_
        rintro e w1 ⟨rfl, x1⟩
        go_wp2_with fail
        go_ret
        exact ⟨rfl, hx.trans x1⟩
    · go_wp2_with fail
      refine (wakes3_any _).mono ?_
      rintro e w1 ⟨rfl, x1⟩
      go_wp2_with fail
      go_ret
      exact ⟨rfl, hx.trans x1⟩

set_option maxHeartbeats 1000000 in
set_option maxRecDepth 20000 in
theorem scales_none (a : Option Addr) (cap : Nat) (w : World) :
    Calls Try.prog 3 #[.slice a 0 cap] w fun e w' => e = .returned (.bool true) ∧ Ext w w' := by
  go_enter Try.func3, Try.ntmps3
  go_wp2_with fail
  refine wp_loop_rounds 1 ?_
  rw [rounds_succ]
  go_wp2_with fail
  refine (wakes3_any _).mono ?_
  rintro e w1 ⟨rfl, x1⟩
  go_wp2_with fail
  go_ret
  exact ⟨rfl, x1⟩
end Go.Proofs.Ytlfpiefnknpagaa
