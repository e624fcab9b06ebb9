/- FxOrder: by a word above 0 a greater word has no lower product and no lower quotient; ratios of multiples are the ratio; the other way round signs change alone. -/
import Derived.Test.YtpokfpcaaacbnabTwos
import Derived.Test.YtpokfpcaaacbnabMay
import Derived.Test.YtpokfpcaaacbnabOrderNum
namespace Go.Proofs.Ytpokfpcaaacbnab
open Go.RowKit

theorem ratio_is {n d x e : Int} (h : shareR n 1 d = (x, e)) (w : World) (h1 : -9223372036854775808 ≤ n) (h2 : n ≤ 9223372036854775807) (k1 : -9223372036854775808 ≤ d) (k2 : d ≤ 9223372036854775807) :
    Calls Try.prog 26 #[.int .i64 n, .int .i64 d] w fun e' w' => e' = .returned (.tuple #[.int .i64 x, .int .i64 e]) ∧ Ext w w' := by
  have k := ratio_any n d w h1 h2 k1 k2
  rw [h] at k
  exact k

set_option maxHeartbeats 4000000 in
set_option maxRecDepth 20000 in
theorem order_any (b off len cap : Nat) (Z : Nat → Nat → Int) (w : World) (hl : len ≤ maxLen) (hc : Twos w b off len Z) :
    Calls Try.prog 5 #[.slice (some ⟨b, off, none⟩) len cap] w fun e w' => e = .returned (.bool true) ∧ Ext w w' := by
  have hl' : len ≤ 9223372036854775807 := by unfold maxLen at hl; omega
  clear hl
  go_enter Try.func5, Try.ntmps5
  go_wp2_with fail
  go_loopw [3] (fun i wr => ∃ k : Nat, (k ≤ len ∧ k ≤ 30) ∧ i = .int .i64 k ∧ Ext w wr) (fun i _ => len - (intOf i).toNat)
  case atStart => exact ⟨0, ⟨Nat.zero_le _, by omega⟩, rfl, Ext.refl _⟩
  case round =>
    obtain ⟨k, ⟨hk, hk30⟩, rfl, hx⟩ := hrel
    by_cases hlt : k + 1 < len
    · by_cases h30 : k < 30
      · obtain ⟨A, C, _, _, _, _, z0, z1, _, _, _, _, ⟨ba, ba'⟩, ⟨bc, bc'⟩, _⟩ := (hc.ext hx).row (show k < len by omega)
        obtain ⟨B, _, _, _, _, _, y0, _, _, _, _, _, ⟨bb, bb'⟩, _⟩ := (hc.ext hx).row hlt
        have hlt' : (k : Int) < (len : Int) := by omega
        have hlt2 : (k : Int) + 1 < (len : Int) := by omega
        cases hA : okW A
        · go_wp2_with fail
          go_quiet (fail)
          go_wp2_with (first | (go_at_call 7; refine (may_any _ _).mono ?_; rintro e wx ⟨rfl, hwx⟩; have hwy := hwx.symm; clear hwx; subst hwy) | (go_at_call 17; refine (num_any _ _).mono ?_; rintro e wx ⟨rfl, hwx⟩; have hwy := hwx.symm; clear hwx; subst hwy))
          go_roundw
          case rel => exact ⟨k + 1, ⟨by omega, by omega⟩, by go_num, hx.drewN _⟩
          case measure => simp [intOf]; omega
        · cases hB : okW B
          · go_wp2_with fail
            go_quiet (fail)
            go_wp2_with (first | (go_at_call 7; refine (may_any _ _).mono ?_; rintro e wx ⟨rfl, hwx⟩; have hwy := hwx.symm; clear hwx; subst hwy) | (go_at_call 17; refine (num_any _ _).mono ?_; rintro e wx ⟨rfl, hwx⟩; have hwy := hwx.symm; clear hwx; subst hwy))
            go_roundw
            case rel => exact ⟨k + 1, ⟨by omega, by omega⟩, by go_num, hx.drewN _⟩
            case measure => simp [intOf]; omega
          · cases hC : okW C
            · go_wp2_with fail
              go_quiet (fail)
              go_wp2_with (first | (go_at_call 7; refine (may_any _ _).mono ?_; rintro e wx ⟨rfl, hwx⟩; have hwy := hwx.symm; clear hwx; subst hwy) | (go_at_call 17; refine (num_any _ _).mono ?_; rintro e wx ⟨rfl, hwx⟩; have hwy := hwx.symm; clear hwx; subst hwy))
              go_roundw
              case rel => exact ⟨k + 1, ⟨by omega, by omega⟩, by go_num, hx.drewN _⟩
              case measure => simp [intOf]; omega
            · by_cases hpos : 0 < C
              · by_cases hgt : B < A
                · have hle : B ≤ A := by omega
                  as_aux_lemma =>
                    have o1 := mul_ord B A C hB hA hC hle hpos
                    have o2 := div_ord B A C hB hA hC hle hpos
                    obtain ⟨m, r1, r2, r3, m1, m2⟩ := ratio_facts B C hB hpos
                    have g1 := okW_bounds hB
                    have g2 := okW_bounds hC
                    have W1 := o1.ways
                    have W2 := o2.ways
                    have HM1 : Hid (∀ w, Calls Try.prog 15 #[.int .i64 B, .int .i64 C] w fun e w' => e = .returned (.tuple #[.int .i64 (mulR B C).1, .int .i64 (mulR B C).2]) ∧ Ext w w') := fun w => mul_any B C w
                    have HM2 : Hid (∀ w, Calls Try.prog 15 #[.int .i64 A, .int .i64 C] w fun e w' => e = .returned (.tuple #[.int .i64 (mulR A C).1, .int .i64 (mulR A C).2]) ∧ Ext w w') := fun w => mul_any A C w
                    have HD1 : Hid (∀ w, Calls Try.prog 16 #[.int .i64 B, .int .i64 C] w fun e w' => e = .returned (.tuple #[.int .i64 (divR B C).1, .int .i64 (divR B C).2]) ∧ Ext w w') := fun w => div_any B C w
                    have HD2 : Hid (∀ w, Calls Try.prog 16 #[.int .i64 A, .int .i64 C] w fun e w' => e = .returned (.tuple #[.int .i64 (divR A C).1, .int .i64 (divR A C).2]) ∧ Ext w w') := fun w => div_any A C w
                    have HR1 : Hid (∀ w, Calls Try.prog 26 #[.int .i64 B, .int .i64 C] w fun e w' => e = .returned (.tuple #[.int .i64 m, .int .i64 0]) ∧ Ext w w') := fun w => ratio_is r1 w (by omega) (by omega) (by omega) (by omega)
                    have HR2 : Hid (∀ w, Calls Try.prog 26 #[.int .i64 (3 * B), .int .i64 (3 * C)] w fun e w' => e = .returned (.tuple #[.int .i64 m, .int .i64 0]) ∧ Ext w w') := fun w => ratio_is r2 w (by omega) (by omega) (by omega) (by omega)
                    have HR3 : Hid (∀ w, Calls Try.prog 26 #[.int .i64 (-B), .int .i64 C] w fun e w' => e = .returned (.tuple #[.int .i64 (-m), .int .i64 0]) ∧ Ext w w') := fun w => ratio_is r3 w (by omega) (by omega) (by omega) (by omega)
                    clear o1 o2 r1 r2 r3
                    generalize (mulR B C).1 = p1 at *
                    generalize (mulR B C).2 = e1 at *
                    generalize (mulR A C).1 = p2 at *
                    generalize (mulR A C).2 = e2 at *
                    generalize (divR B C).1 = q1 at *
                    generalize (divR B C).2 = f1 at *
                    generalize (divR A C).1 = q2 at *
                    generalize (divR A C).2 = f2 at *
                    have V1 : Hid _ := W1
                    have V2 : Hid _ := W2
                    clear W1 W2
                    go_wp2_with fail
                    go_quiet (fail)
                    go_wp2_with (go_at_call 7; refine (may_any _ _).mono ?_; rintro e wx ⟨rfl, hwx⟩; have hwy := hwx.symm; clear hwx; subst hwy)
                    refine (HM1.out _).mono ?_
                    rintro e w1 ⟨rfl, x1⟩
                    go_wp2_with fail
                    refine (HM2.out _).mono ?_
                    rintro e w2 ⟨rfl, x2⟩
                    go_wp2_with fail
                    refine (HD1.out _).mono ?_
                    rintro e w3 ⟨rfl, x3⟩
                    go_wp2_with fail
                    refine (HD2.out _).mono ?_
                    rintro e w4 ⟨rfl, x4⟩
                    have x5 : Hid (Ext w w4) := ((((hx.drewN _).trans x1).trans x2).trans x3).trans x4
                    clear x1 x2 x3 x4 HM1 HM2 HD1 HD2
                    rcases V1.out with t1 | ⟨t1, t2⟩ | ⟨t1, t2, t3⟩
                    all_goals
                      rcases V2.out with s1 | ⟨s1, s2⟩ | ⟨s1, s2, s3⟩
                      all_goals
                        clear V1 V2
                        as_aux_lemma =>
                          go_wp2_with (go_at_call 17; refine (num_any _ _).mono ?_; rintro e wx ⟨rfl, hwx⟩; have hwy := hwx.symm; clear hwx; subst hwy)
                          refine (HR1.out _).mono ?_
                          rintro e w6 ⟨rfl, x6⟩
                          go_wp2_with fail
                          refine (HR2.out _).mono ?_
                          rintro e w7 ⟨rfl, x7⟩
                          go_wp2_with fail
                          refine (HR3.out _).mono ?_
                          rintro e w8 ⟨rfl, x8⟩
                          go_wp2_with (go_at_call 17; refine (num_any _ _).mono ?_; rintro e wx ⟨rfl, hwx⟩; have hwy := hwx.symm; clear hwx; subst hwy)
                          go_roundw
                          case rel => exact ⟨k + 1, ⟨by omega, by omega⟩, by go_num, ((x5.out.trans x6).trans x7).trans x8⟩
                          case measure => simp [intOf]; omega
                · have hle : A ≤ B := by omega
                  as_aux_lemma =>
                    have o1 := mul_ord A B C hA hB hC hle hpos
                    have o2 := div_ord A B C hA hB hC hle hpos
                    obtain ⟨m, r1, r2, r3, m1, m2⟩ := ratio_facts A C hA hpos
                    have g1 := okW_bounds hA
                    have g2 := okW_bounds hC
                    have W1 := o1.ways
                    have W2 := o2.ways
                    have HM1 : Hid (∀ w, Calls Try.prog 15 #[.int .i64 A, .int .i64 C] w fun e w' => e = .returned (.tuple #[.int .i64 (mulR A C).1, .int .i64 (mulR A C).2]) ∧ Ext w w') := fun w => mul_any A C w
                    have HM2 : Hid (∀ w, Calls Try.prog 15 #[.int .i64 B, .int .i64 C] w fun e w' => e = .returned (.tuple #[.int .i64 (mulR B C).1, .int .i64 (mulR B C).2]) ∧ Ext w w') := fun w => mul_any B C w
                    have HD1 : Hid (∀ w, Calls Try.prog 16 #[.int .i64 A, .int .i64 C] w fun e w' => e = .returned (.tuple #[.int .i64 (divR A C).1, .int .i64 (divR A C).2]) ∧ Ext w w') := fun w => div_any A C w
                    have HD2 : Hid (∀ w, Calls Try.prog 16 #[.int .i64 B, .int .i64 C] w fun e w' => e = .returned (.tuple #[.int .i64 (divR B C).1, .int .i64 (divR B C).2]) ∧ Ext w w') := fun w => div_any B C w
                    have HR1 : Hid (∀ w, Calls Try.prog 26 #[.int .i64 A, .int .i64 C] w fun e w' => e = .returned (.tuple #[.int .i64 m, .int .i64 0]) ∧ Ext w w') := fun w => ratio_is r1 w (by omega) (by omega) (by omega) (by omega)
                    have HR2 : Hid (∀ w, Calls Try.prog 26 #[.int .i64 (3 * A), .int .i64 (3 * C)] w fun e w' => e = .returned (.tuple #[.int .i64 m, .int .i64 0]) ∧ Ext w w') := fun w => ratio_is r2 w (by omega) (by omega) (by omega) (by omega)
                    have HR3 : Hid (∀ w, Calls Try.prog 26 #[.int .i64 (-A), .int .i64 C] w fun e w' => e = .returned (.tuple #[.int .i64 (-m), .int .i64 0]) ∧ Ext w w') := fun w => ratio_is r3 w (by omega) (by omega) (by omega) (by omega)
                    clear o1 o2 r1 r2 r3
                    generalize (mulR A C).1 = p1 at *
                    generalize (mulR A C).2 = e1 at *
                    generalize (mulR B C).1 = p2 at *
                    generalize (mulR B C).2 = e2 at *
                    generalize (divR A C).1 = q1 at *
                    generalize (divR A C).2 = f1 at *
                    generalize (divR B C).1 = q2 at *
                    generalize (divR B C).2 = f2 at *
                    have V1 : Hid _ := W1
                    have V2 : Hid _ := W2
                    clear W1 W2
                    go_wp2_with fail
                    go_quiet (fail)
                    go_wp2_with (go_at_call 7; refine (may_any _ _).mono ?_; rintro e wx ⟨rfl, hwx⟩; have hwy := hwx.symm; clear hwx; subst hwy)
                    refine (HM1.out _).mono ?_
                    rintro e w1 ⟨rfl, x1⟩
                    go_wp2_with fail
                    refine (HM2.out _).mono ?_
                    rintro e w2 ⟨rfl, x2⟩
                    go_wp2_with fail
                    refine (HD1.out _).mono ?_
                    rintro e w3 ⟨rfl, x3⟩
                    go_wp2_with fail
                    refine (HD2.out _).mono ?_
                    rintro e w4 ⟨rfl, x4⟩
                    have x5 : Hid (Ext w w4) := ((((hx.drewN _).trans x1).trans x2).trans x3).trans x4
                    clear x1 x2 x3 x4 HM1 HM2 HD1 HD2
                    rcases V1.out with t1 | ⟨t1, t2⟩ | ⟨t1, t2, t3⟩
                    all_goals
                      rcases V2.out with s1 | ⟨s1, s2⟩ | ⟨s1, s2, s3⟩
                      all_goals
                        clear V1 V2
                        as_aux_lemma =>
                          go_wp2_with (go_at_call 17; refine (num_any _ _).mono ?_; rintro e wx ⟨rfl, hwx⟩; have hwy := hwx.symm; clear hwx; subst hwy)
                          refine (HR1.out _).mono ?_
                          rintro e w6 ⟨rfl, x6⟩
                          go_wp2_with fail
                          refine (HR2.out _).mono ?_
                          rintro e w7 ⟨rfl, x7⟩
                          go_wp2_with fail
                          refine (HR3.out _).mono ?_
                          rintro e w8 ⟨rfl, x8⟩
                          go_wp2_with (go_at_call 17; refine (num_any _ _).mono ?_; rintro e wx ⟨rfl, hwx⟩; have hwy := hwx.symm; clear hwx; subst hwy)
                          go_roundw
                          case rel => exact ⟨k + 1, ⟨by omega, by omega⟩, by go_num, ((x5.out.trans x6).trans x7).trans x8⟩
                          case measure => simp [intOf]; omega
              · go_wp2_with fail
                go_quiet (fail)
                go_wp2_with (first | (go_at_call 7; refine (may_any _ _).mono ?_; rintro e wx ⟨rfl, hwx⟩; have hwy := hwx.symm; clear hwx; subst hwy) | (go_at_call 17; refine (num_any _ _).mono ?_; rintro e wx ⟨rfl, hwx⟩; have hwy := hwx.symm; clear hwx; subst hwy))
                go_roundw
                case rel => exact ⟨k + 1, ⟨by omega, by omega⟩, by go_num, hx.drewN _⟩
                case measure => simp [intOf]; omega
      · go_wp2_with fail
        refine (wakes_any _).mono ?_
        rintro e w1 ⟨rfl, x1⟩
        go_wp2_with fail
        go_ret
        exact ⟨rfl, hx.trans x1⟩
    · go_wp2_with fail
      refine (wakes_any _).mono ?_
      rintro e w1 ⟨rfl, x1⟩
      go_wp2_with fail
      go_ret
      exact ⟨rfl, hx.trans x1⟩

set_option maxHeartbeats 1000000 in
set_option maxRecDepth 20000 in
theorem order_none (a : Option Addr) (cap : Nat) (w : World) :
    Calls Try.prog 5 #[.slice a 0 cap] w fun e w' => e = .returned (.bool true) ∧ Ext w w' := by
  go_enter Try.func5, Try.ntmps5
  go_wp2_with fail
  refine wp_loop_rounds 1 ?_
  rw [rounds_succ]
  go_wp2_with fail
  refine (wakes_any _).mono ?_
  rintro e w1 ⟨rfl, x1⟩
  go_wp2_with fail
  go_ret
  exact ⟨rfl, x1⟩
end Go.Proofs.Ytpokfpcaaacbnab
