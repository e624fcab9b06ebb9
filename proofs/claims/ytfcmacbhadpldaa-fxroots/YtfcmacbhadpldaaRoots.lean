/- FxRoots. -/
import Derived.Test.YtfcmacbhadpldaaRefRoots
import Derived.Test.YtfcmacbhadpldaaClamp
import Derived.Test.YtfcmacbhadpldaaBoth
namespace Go.Proofs.Ytfcmacbhadpldaa
open Go.RowKit

theorem is_eq (x x' e : Int) (w : World) (h : x = x') :
    Calls Try.prog 12 #[.int .i64 x, .int .i64 e, .int .i64 x', .int .i64 e] w fun e w' => e = .returned (.bool true) ∧ w' = w := by
  rw [← h]
  exact is_same x e w
theorem sqrt_unique {a s r : Nat} (h1 : s * s ≤ a) (h2 : a < (s + 1) * (s + 1)) (k1 : r * r ≤ a) (k2 : a < (r + 1) * (r + 1)) : r = s := by
  rcases Nat.lt_trichotomy r s with h | h | h
  · have := Nat.mul_le_mul (show r + 1 ≤ s from h) (show r + 1 ≤ s from h); omega
  · exact h
  · have := Nat.mul_le_mul (show s + 1 ≤ r from h) (show s + 1 ≤ r from h); omega
set_option maxRecDepth 20000 in
theorem Ext.alh {w w' : World} {u0 u1 u2 u3 u4 u5 : Value} {T : TypeId} (h : Ext (w.alloc (.cells #[u0, u1, u2, u3, u4, u5] T)) w') : w'.cell? ⟨w.heap.size, 0, none⟩ = some u0 ∧ w'.cell? ⟨w.heap.size, 4, none⟩ = some u4 ∧ w'.cell? ⟨w.heap.size, 5, none⟩ = some u5 := by
  obtain ⟨h0, h1, h2, h3, h4, h5⟩ := h.cells6
  exact ⟨h0, h4, h5⟩

set_option maxHeartbeats 4000000 in
set_option maxRecDepth 20000 in
theorem roots_any (b off len cap : Nat) (Z : Nat → Nat → Int) (w : World) (hl : len ≤ maxLen) (hc : Twos w b off len Z) :
    Calls Try.prog 7 #[.slice (some ⟨b, off, none⟩) len cap] w fun e w' => e = .returned (.bool true) ∧ Ext w w' := by
  have hl' : len ≤ 9223372036854775807 := by unfold maxLen at hl; omega
  clear hl
  go_enter Try.func7, Try.ntmps7
  go_wp2_with fail
  go_loopw [3] (fun i wr => ∃ k : Nat, k ≤ len ∧ i = .int .i64 k ∧ Ext w wr) (fun i _ => len - (intOf i).toNat)
  case atStart => exact ⟨0, Nat.zero_le _, rfl, Ext.refl _⟩
  case round =>
    obtain ⟨k, hk, rfl, hx⟩ := hrel
    by_cases hlt : k < len
    · by_cases h30 : k < 30
      · obtain ⟨A, B, N, D, Lo, Hi, z0, z1, z2, z3, z4, z5, ⟨ba, ba'⟩, ⟨bb, bb'⟩, ⟨bn, bn'⟩, ⟨bd, bd'⟩, ⟨bl, bl'⟩, ⟨bh, bh'⟩⟩ := (hc.ext hx).row hlt
        have hlt' : (k : Int) < (len : Int) := by omega
        cases ha : okW A
        · have hno : (okW A && decide (0 ≤ A)) = false := by rw [ha]; rfl
          have hcl : (okW A && (okW Lo && okW Hi) && decide (Lo ≤ Hi)) = false := by rw [ha]; rfl
          have HCl : Hid (∀ w, Calls Try.prog 29 #[.int .i64 A, .int .i64 Lo, .int .i64 Hi] w fun e w' => e = .returned (.tuple #[.int .i64 0, .int .i64 1]) ∧ Ext w w') := fun w => clamp_no A Lo Hi w hcl
          have HMX : Hid True := trivial
          clear hcl
          have HQ3 : Hid _ := fun w => sqrt_no A w hno
          have HO3 : Hid _ := fun w => root_no A w hno
          clear hno
          go_wp2_with (first | (go_at_call 10; refine (may_any _ _).mono ?_; rintro e wx ⟨rfl, hwx⟩; have hwy := hwx.symm; clear hwx; subst hwy) | (go_at_call 12; refine (is_eq _ _ _ _ (by first | rfl | (have := HMX.out; omega))).mono ?_; rintro e wx ⟨rfl, hwx⟩; have hwy := hwx.symm; clear hwx; subst hwy))
          refine (HQ3.out _).mono ?_
          rintro e w1 ⟨rfl, x1⟩
          have E1 : Hid (Ext (wr.alloc (.cells #[.int .i64 A, .int .i64 B, .int .i64 N, .int .i64 D, .int .i64 Lo, .int .i64 Hi] 24)) w1) := x1
          clear x1 
          obtain ⟨cA, cL, cH⟩ := E1.out.alh
          go_wp2_with (first | (go_at_call 10; refine (may_any _ _).mono ?_; rintro e wx ⟨rfl, hwx⟩; have hwy := hwx.symm; clear hwx; subst hwy) | (go_at_call 12; refine (is_eq _ _ _ _ (by first | rfl | (have := HMX.out; omega))).mono ?_; rintro e wx ⟨rfl, hwx⟩; have hwy := hwx.symm; clear hwx; subst hwy))
          refine (HO3.out _).mono ?_
          rintro e w2 ⟨rfl, x2⟩
          have E2 : Hid (Ext (wr.alloc (.cells #[.int .i64 A, .int .i64 B, .int .i64 N, .int .i64 D, .int .i64 Lo, .int .i64 Hi] 24)) w2) := E1.out.trans x2
          clear x2 cA cL cH
          obtain ⟨cA, cL, cH⟩ := E2.out.alh
          go_wp2_with (first | (go_at_call 10; refine (may_any _ _).mono ?_; rintro e wx ⟨rfl, hwx⟩; have hwy := hwx.symm; clear hwx; subst hwy) | (go_at_call 12; refine (is_eq _ _ _ _ (by first | rfl | (have := HMX.out; omega))).mono ?_; rintro e wx ⟨rfl, hwx⟩; have hwy := hwx.symm; clear hwx; subst hwy))
          refine (HCl.out _).mono ?_
          rintro e w3 ⟨rfl, x3⟩
          have E3 : Hid (Ext (wr.alloc (.cells #[.int .i64 A, .int .i64 B, .int .i64 N, .int .i64 D, .int .i64 Lo, .int .i64 Hi] 24)) w3) := E2.out.trans x3
          clear x3 cA cL cH
          obtain ⟨cA, cL, cH⟩ := E3.out.alh
          go_wp2_with (first | (go_at_call 10; refine (may_any _ _).mono ?_; rintro e wx ⟨rfl, hwx⟩; have hwy := hwx.symm; clear hwx; subst hwy) | (go_at_call 12; refine (is_eq _ _ _ _ (by first | rfl | (have := HMX.out; omega))).mono ?_; rintro e wx ⟨rfl, hwx⟩; have hwy := hwx.symm; clear hwx; subst hwy))
          all_goals
            go_roundw
            case rel => exact ⟨k + 1, by omega, by go_num, (hx.alloc _).trans E3.out⟩
            case measure => simp [intOf]; omega
        · have gAA := okW_bounds ha
          by_cases h0 : 0 ≤ A
          · cases hL : okW Lo
            · obtain ⟨n, rfl⟩ := Int.eq_ofNat_of_zero_le h0
              have hb := okW_bounds ha
              have HQ2 : Hid (∀ w, Calls Try.prog 25 #[.int .i64 (n : Int)] w fun e w' => (∃ s : Nat, e = .returned (.int .i64 (s : Int)) ∧ s * s ≤ n ∧ n < (s + 1) * (s + 1)) ∧ Ext w w') := fun w => refsqrt_any n w hb.2
              have HO2 : Hid (∀ w, Calls Try.prog 26 #[.int .i64 (n : Int)] w fun e w' => (∃ s : Nat, e = .returned (.tuple #[.int .i64 (s : Int), .int .i64 0]) ∧ NearRoot (n * 1073741824) s) ∧ Ext w w') := fun w => refroot_any n w hb.2
              have HQ1 : Hid (∀ s : Nat, s * s ≤ n → n < (s + 1) * (s + 1) → ∀ w, Calls Try.prog 27 #[.int .i64 (n : Int)] w fun e w' => e = .returned (.tuple #[.int .i64 (s : Int), .int .i64 0]) ∧ Ext w w') := fun s h1 h2 w => (sqrt_yes (n : Int) w ha h0).mono fun e w' ⟨⟨R, hR, g1, g2, _⟩, x⟩ => ⟨by rw [hR, sqrt_unique (r := R) h1 h2 (Int.ofNat_le.1 g1) (Int.ofNat_lt.1 g2)], x⟩
              have HO1 : Hid (∀ s : Nat, NearRoot (n * 1073741824) s → ∀ w, Calls Try.prog 28 #[.int .i64 (n : Int)] w fun e w' => e = .returned (.tuple #[.int .i64 (s : Int), .int .i64 0]) ∧ Ext w w') := fun s hs w => (root_yes (n : Int) w ha h0).mono fun e w' ⟨⟨X, hX, g1, _⟩, x⟩ => ⟨by rw [hX, nearRoot_unique g1 (by rw [Int.toNat_natCast]; exact hs)], x⟩
              generalize hAA : (n : Int) = A at *
              have hn0 : ¬ A < 0 := by omega
              have hn1 : decide (A < 0) = false := decide_eq_false hn0
              clear hAA
              have hcl : (okW A && (okW Lo && okW Hi) && decide (Lo ≤ Hi)) = false := by rw [hL]; simp
              have HCl : Hid (∀ w, Calls Try.prog 29 #[.int .i64 A, .int .i64 Lo, .int .i64 Hi] w fun e w' => e = .returned (.tuple #[.int .i64 0, .int .i64 1]) ∧ Ext w w') := fun w => clamp_no A Lo Hi w hcl
              have HMX : Hid True := trivial
              clear hcl
              go_wp2_with (first | (go_at_call 10; refine (may_any _ _).mono ?_; rintro e wx ⟨rfl, hwx⟩; have hwy := hwx.symm; clear hwx; subst hwy) | (go_at_call 12; refine (is_eq _ _ _ _ (by first | rfl | (have := HMX.out; omega))).mono ?_; rintro e wx ⟨rfl, hwx⟩; have hwy := hwx.symm; clear hwx; subst hwy))
              refine (HQ2.out _).mono ?_
              rintro e w1 ⟨⟨s, rfl, g1, g2⟩, x1⟩
              have E1 : Hid (Ext (wr.alloc (.cells #[.int .i64 A, .int .i64 B, .int .i64 N, .int .i64 D, .int .i64 Lo, .int .i64 Hi] 24)) w1) := x1
              clear x1 
              obtain ⟨cA, cL, cH⟩ := E1.out.alh
              have HQ3 : Hid _ := HQ1.out s g1 g2
              clear g1 g2 HQ1 HQ2
              go_wp2_with (first | (go_at_call 10; refine (may_any _ _).mono ?_; rintro e wx ⟨rfl, hwx⟩; have hwy := hwx.symm; clear hwx; subst hwy) | (go_at_call 12; refine (is_eq _ _ _ _ (by first | rfl | (have := HMX.out; omega))).mono ?_; rintro e wx ⟨rfl, hwx⟩; have hwy := hwx.symm; clear hwx; subst hwy))
              refine (HO2.out _).mono ?_
              rintro e w2 ⟨⟨t, rfl, g3⟩, x2⟩
              have E2 : Hid (Ext (wr.alloc (.cells #[.int .i64 A, .int .i64 B, .int .i64 N, .int .i64 D, .int .i64 Lo, .int .i64 Hi] 24)) w2) := E1.out.trans x2
              clear x2 cA cL cH
              obtain ⟨cA, cL, cH⟩ := E2.out.alh
              have HO3 : Hid _ := HO1.out t g3
              clear g3 HO1 HO2
              go_wp2_with (first | (go_at_call 10; refine (may_any _ _).mono ?_; rintro e wx ⟨rfl, hwx⟩; have hwy := hwx.symm; clear hwx; subst hwy) | (go_at_call 12; refine (is_eq _ _ _ _ (by first | rfl | (have := HMX.out; omega))).mono ?_; rintro e wx ⟨rfl, hwx⟩; have hwy := hwx.symm; clear hwx; subst hwy))
              refine (HQ3.out _).mono ?_
              rintro e w3 ⟨rfl, x3⟩
              have E3 : Hid (Ext (wr.alloc (.cells #[.int .i64 A, .int .i64 B, .int .i64 N, .int .i64 D, .int .i64 Lo, .int .i64 Hi] 24)) w3) := E2.out.trans x3
              clear x3 cA cL cH
              obtain ⟨cA, cL, cH⟩ := E3.out.alh
              go_wp2_with (first | (go_at_call 10; refine (may_any _ _).mono ?_; rintro e wx ⟨rfl, hwx⟩; have hwy := hwx.symm; clear hwx; subst hwy) | (go_at_call 12; refine (is_eq _ _ _ _ (by first | rfl | (have := HMX.out; omega))).mono ?_; rintro e wx ⟨rfl, hwx⟩; have hwy := hwx.symm; clear hwx; subst hwy))
              refine (HO3.out _).mono ?_
              rintro e w4 ⟨rfl, x4⟩
              have E4 : Hid (Ext (wr.alloc (.cells #[.int .i64 A, .int .i64 B, .int .i64 N, .int .i64 D, .int .i64 Lo, .int .i64 Hi] 24)) w4) := E3.out.trans x4
              clear x4 cA cL cH
              obtain ⟨cA, cL, cH⟩ := E4.out.alh
              go_wp2_with (first | (go_at_call 10; refine (may_any _ _).mono ?_; rintro e wx ⟨rfl, hwx⟩; have hwy := hwx.symm; clear hwx; subst hwy) | (go_at_call 12; refine (is_eq _ _ _ _ (by first | rfl | (have := HMX.out; omega))).mono ?_; rintro e wx ⟨rfl, hwx⟩; have hwy := hwx.symm; clear hwx; subst hwy))
              refine (HCl.out _).mono ?_
              rintro e w5 ⟨rfl, x5⟩
              have E5 : Hid (Ext (wr.alloc (.cells #[.int .i64 A, .int .i64 B, .int .i64 N, .int .i64 D, .int .i64 Lo, .int .i64 Hi] 24)) w5) := E4.out.trans x5
              clear x5 cA cL cH
              obtain ⟨cA, cL, cH⟩ := E5.out.alh
              go_wp2_with (first | (go_at_call 10; refine (may_any _ _).mono ?_; rintro e wx ⟨rfl, hwx⟩; have hwy := hwx.symm; clear hwx; subst hwy) | (go_at_call 12; refine (is_eq _ _ _ _ (by first | rfl | (have := HMX.out; omega))).mono ?_; rintro e wx ⟨rfl, hwx⟩; have hwy := hwx.symm; clear hwx; subst hwy))
              all_goals
                go_roundw
                case rel => exact ⟨k + 1, by omega, by go_num, (hx.alloc _).trans E5.out⟩
                case measure => simp [intOf]; omega
            · cases hH : okW Hi
              · obtain ⟨n, rfl⟩ := Int.eq_ofNat_of_zero_le h0
                have hb := okW_bounds ha
                have HQ2 : Hid (∀ w, Calls Try.prog 25 #[.int .i64 (n : Int)] w fun e w' => (∃ s : Nat, e = .returned (.int .i64 (s : Int)) ∧ s * s ≤ n ∧ n < (s + 1) * (s + 1)) ∧ Ext w w') := fun w => refsqrt_any n w hb.2
                have HO2 : Hid (∀ w, Calls Try.prog 26 #[.int .i64 (n : Int)] w fun e w' => (∃ s : Nat, e = .returned (.tuple #[.int .i64 (s : Int), .int .i64 0]) ∧ NearRoot (n * 1073741824) s) ∧ Ext w w') := fun w => refroot_any n w hb.2
                have HQ1 : Hid (∀ s : Nat, s * s ≤ n → n < (s + 1) * (s + 1) → ∀ w, Calls Try.prog 27 #[.int .i64 (n : Int)] w fun e w' => e = .returned (.tuple #[.int .i64 (s : Int), .int .i64 0]) ∧ Ext w w') := fun s h1 h2 w => (sqrt_yes (n : Int) w ha h0).mono fun e w' ⟨⟨R, hR, g1, g2, _⟩, x⟩ => ⟨by rw [hR, sqrt_unique (r := R) h1 h2 (Int.ofNat_le.1 g1) (Int.ofNat_lt.1 g2)], x⟩
                have HO1 : Hid (∀ s : Nat, NearRoot (n * 1073741824) s → ∀ w, Calls Try.prog 28 #[.int .i64 (n : Int)] w fun e w' => e = .returned (.tuple #[.int .i64 (s : Int), .int .i64 0]) ∧ Ext w w') := fun s hs w => (root_yes (n : Int) w ha h0).mono fun e w' ⟨⟨X, hX, g1, _⟩, x⟩ => ⟨by rw [hX, nearRoot_unique g1 (by rw [Int.toNat_natCast]; exact hs)], x⟩
                generalize hAA : (n : Int) = A at *
                have hn0 : ¬ A < 0 := by omega
                have hn1 : decide (A < 0) = false := decide_eq_false hn0
                clear hAA
                have hcl : (okW A && (okW Lo && okW Hi) && decide (Lo ≤ Hi)) = false := by rw [hH]; simp
                have HCl : Hid (∀ w, Calls Try.prog 29 #[.int .i64 A, .int .i64 Lo, .int .i64 Hi] w fun e w' => e = .returned (.tuple #[.int .i64 0, .int .i64 1]) ∧ Ext w w') := fun w => clamp_no A Lo Hi w hcl
                have HMX : Hid True := trivial
                clear hcl
                go_wp2_with (first | (go_at_call 10; refine (may_any _ _).mono ?_; rintro e wx ⟨rfl, hwx⟩; have hwy := hwx.symm; clear hwx; subst hwy) | (go_at_call 12; refine (is_eq _ _ _ _ (by first | rfl | (have := HMX.out; omega))).mono ?_; rintro e wx ⟨rfl, hwx⟩; have hwy := hwx.symm; clear hwx; subst hwy))
                refine (HQ2.out _).mono ?_
                rintro e w1 ⟨⟨s, rfl, g1, g2⟩, x1⟩
                have E1 : Hid (Ext (wr.alloc (.cells #[.int .i64 A, .int .i64 B, .int .i64 N, .int .i64 D, .int .i64 Lo, .int .i64 Hi] 24)) w1) := x1
                clear x1 
                obtain ⟨cA, cL, cH⟩ := E1.out.alh
                have HQ3 : Hid _ := HQ1.out s g1 g2
                clear g1 g2 HQ1 HQ2
                go_wp2_with (first | (go_at_call 10; refine (may_any _ _).mono ?_; rintro e wx ⟨rfl, hwx⟩; have hwy := hwx.symm; clear hwx; subst hwy) | (go_at_call 12; refine (is_eq _ _ _ _ (by first | rfl | (have := HMX.out; omega))).mono ?_; rintro e wx ⟨rfl, hwx⟩; have hwy := hwx.symm; clear hwx; subst hwy))
                refine (HO2.out _).mono ?_
                rintro e w2 ⟨⟨t, rfl, g3⟩, x2⟩
                have E2 : Hid (Ext (wr.alloc (.cells #[.int .i64 A, .int .i64 B, .int .i64 N, .int .i64 D, .int .i64 Lo, .int .i64 Hi] 24)) w2) := E1.out.trans x2
                clear x2 cA cL cH
                obtain ⟨cA, cL, cH⟩ := E2.out.alh
                have HO3 : Hid _ := HO1.out t g3
                clear g3 HO1 HO2
                go_wp2_with (first | (go_at_call 10; refine (may_any _ _).mono ?_; rintro e wx ⟨rfl, hwx⟩; have hwy := hwx.symm; clear hwx; subst hwy) | (go_at_call 12; refine (is_eq _ _ _ _ (by first | rfl | (have := HMX.out; omega))).mono ?_; rintro e wx ⟨rfl, hwx⟩; have hwy := hwx.symm; clear hwx; subst hwy))
                refine (HQ3.out _).mono ?_
                rintro e w3 ⟨rfl, x3⟩
                have E3 : Hid (Ext (wr.alloc (.cells #[.int .i64 A, .int .i64 B, .int .i64 N, .int .i64 D, .int .i64 Lo, .int .i64 Hi] 24)) w3) := E2.out.trans x3
                clear x3 cA cL cH
                obtain ⟨cA, cL, cH⟩ := E3.out.alh
                go_wp2_with (first | (go_at_call 10; refine (may_any _ _).mono ?_; rintro e wx ⟨rfl, hwx⟩; have hwy := hwx.symm; clear hwx; subst hwy) | (go_at_call 12; refine (is_eq _ _ _ _ (by first | rfl | (have := HMX.out; omega))).mono ?_; rintro e wx ⟨rfl, hwx⟩; have hwy := hwx.symm; clear hwx; subst hwy))
                refine (HO3.out _).mono ?_
                rintro e w4 ⟨rfl, x4⟩
                have E4 : Hid (Ext (wr.alloc (.cells #[.int .i64 A, .int .i64 B, .int .i64 N, .int .i64 D, .int .i64 Lo, .int .i64 Hi] 24)) w4) := E3.out.trans x4
                clear x4 cA cL cH
                obtain ⟨cA, cL, cH⟩ := E4.out.alh
                go_wp2_with (first | (go_at_call 10; refine (may_any _ _).mono ?_; rintro e wx ⟨rfl, hwx⟩; have hwy := hwx.symm; clear hwx; subst hwy) | (go_at_call 12; refine (is_eq _ _ _ _ (by first | rfl | (have := HMX.out; omega))).mono ?_; rintro e wx ⟨rfl, hwx⟩; have hwy := hwx.symm; clear hwx; subst hwy))
                refine (HCl.out _).mono ?_
                rintro e w5 ⟨rfl, x5⟩
                have E5 : Hid (Ext (wr.alloc (.cells #[.int .i64 A, .int .i64 B, .int .i64 N, .int .i64 D, .int .i64 Lo, .int .i64 Hi] 24)) w5) := E4.out.trans x5
                clear x5 cA cL cH
                obtain ⟨cA, cL, cH⟩ := E5.out.alh
                go_wp2_with (first | (go_at_call 10; refine (may_any _ _).mono ?_; rintro e wx ⟨rfl, hwx⟩; have hwy := hwx.symm; clear hwx; subst hwy) | (go_at_call 12; refine (is_eq _ _ _ _ (by first | rfl | (have := HMX.out; omega))).mono ?_; rintro e wx ⟨rfl, hwx⟩; have hwy := hwx.symm; clear hwx; subst hwy))
                all_goals
                  go_roundw
                  case rel => exact ⟨k + 1, by omega, by go_num, (hx.alloc _).trans E5.out⟩
                  case measure => simp [intOf]; omega
              · by_cases hle : Lo ≤ Hi
                · have hgt : decide (Hi < Lo) = false := decide_eq_false (by omega)
                  have hgt' : ¬ Hi < Lo := by omega
                  have gL := okW_bounds hL
                  have gH := okW_bounds hH
                  obtain ⟨n, rfl⟩ := Int.eq_ofNat_of_zero_le h0
                  have hb := okW_bounds ha
                  have HQ2 : Hid (∀ w, Calls Try.prog 25 #[.int .i64 (n : Int)] w fun e w' => (∃ s : Nat, e = .returned (.int .i64 (s : Int)) ∧ s * s ≤ n ∧ n < (s + 1) * (s + 1)) ∧ Ext w w') := fun w => refsqrt_any n w hb.2
                  have HO2 : Hid (∀ w, Calls Try.prog 26 #[.int .i64 (n : Int)] w fun e w' => (∃ s : Nat, e = .returned (.tuple #[.int .i64 (s : Int), .int .i64 0]) ∧ NearRoot (n * 1073741824) s) ∧ Ext w w') := fun w => refroot_any n w hb.2
                  have HQ1 : Hid (∀ s : Nat, s * s ≤ n → n < (s + 1) * (s + 1) → ∀ w, Calls Try.prog 27 #[.int .i64 (n : Int)] w fun e w' => e = .returned (.tuple #[.int .i64 (s : Int), .int .i64 0]) ∧ Ext w w') := fun s h1 h2 w => (sqrt_yes (n : Int) w ha h0).mono fun e w' ⟨⟨R, hR, g1, g2, _⟩, x⟩ => ⟨by rw [hR, sqrt_unique (r := R) h1 h2 (Int.ofNat_le.1 g1) (Int.ofNat_lt.1 g2)], x⟩
                  have HO1 : Hid (∀ s : Nat, NearRoot (n * 1073741824) s → ∀ w, Calls Try.prog 28 #[.int .i64 (n : Int)] w fun e w' => e = .returned (.tuple #[.int .i64 (s : Int), .int .i64 0]) ∧ Ext w w') := fun s hs w => (root_yes (n : Int) w ha h0).mono fun e w' ⟨⟨X, hX, g1, _⟩, x⟩ => ⟨by rw [hX, nearRoot_unique g1 (by rw [Int.toNat_natCast]; exact hs)], x⟩
                  generalize hAA : (n : Int) = A at *
                  have hn0 : ¬ A < 0 := by omega
                  have hn1 : decide (A < 0) = false := decide_eq_false hn0
                  clear hAA
                  obtain ⟨mm, hmm⟩ : ∃ mm : Int, max Lo (min A Hi) = mm := ⟨_, rfl⟩
                  have HCl : Hid (∀ w, Calls Try.prog 29 #[.int .i64 A, .int .i64 Lo, .int .i64 Hi] w fun e w' => e = .returned (.tuple #[.int .i64 mm, .int .i64 0]) ∧ Ext w w') := fun w => by rw [← hmm]; exact clamp_yes A Lo Hi w ha hL hH hle
                  have HMX : Hid (max Lo (min A Hi) = mm) := hmm
                  clear hmm
                  go_wp2_with (first | (go_at_call 10; refine (may_any _ _).mono ?_; rintro e wx ⟨rfl, hwx⟩; have hwy := hwx.symm; clear hwx; subst hwy) | (go_at_call 12; refine (is_eq _ _ _ _ (by first | rfl | (have := HMX.out; omega))).mono ?_; rintro e wx ⟨rfl, hwx⟩; have hwy := hwx.symm; clear hwx; subst hwy))
                  refine (HQ2.out _).mono ?_
                  rintro e w1 ⟨⟨s, rfl, g1, g2⟩, x1⟩
                  have E1 : Hid (Ext (wr.alloc (.cells #[.int .i64 A, .int .i64 B, .int .i64 N, .int .i64 D, .int .i64 Lo, .int .i64 Hi] 24)) w1) := x1
                  clear x1 
                  obtain ⟨cA, cL, cH⟩ := E1.out.alh
                  have HQ3 : Hid _ := HQ1.out s g1 g2
                  clear g1 g2 HQ1 HQ2
                  go_wp2_with (first | (go_at_call 10; refine (may_any _ _).mono ?_; rintro e wx ⟨rfl, hwx⟩; have hwy := hwx.symm; clear hwx; subst hwy) | (go_at_call 12; refine (is_eq _ _ _ _ (by first | rfl | (have := HMX.out; omega))).mono ?_; rintro e wx ⟨rfl, hwx⟩; have hwy := hwx.symm; clear hwx; subst hwy))
                  refine (HO2.out _).mono ?_
                  rintro e w2 ⟨⟨t, rfl, g3⟩, x2⟩
                  have E2 : Hid (Ext (wr.alloc (.cells #[.int .i64 A, .int .i64 B, .int .i64 N, .int .i64 D, .int .i64 Lo, .int .i64 Hi] 24)) w2) := E1.out.trans x2
                  clear x2 cA cL cH
                  obtain ⟨cA, cL, cH⟩ := E2.out.alh
                  have HO3 : Hid _ := HO1.out t g3
                  clear g3 HO1 HO2
                  go_wp2_with (first | (go_at_call 10; refine (may_any _ _).mono ?_; rintro e wx ⟨rfl, hwx⟩; have hwy := hwx.symm; clear hwx; subst hwy) | (go_at_call 12; refine (is_eq _ _ _ _ (by first | rfl | (have := HMX.out; omega))).mono ?_; rintro e wx ⟨rfl, hwx⟩; have hwy := hwx.symm; clear hwx; subst hwy))
                  all_goals
                    refine (HQ3.out _).mono ?_
                    rintro e w3 ⟨rfl, x3⟩
                    have E3 : Hid (Ext (wr.alloc (.cells #[.int .i64 A, .int .i64 B, .int .i64 N, .int .i64 D, .int .i64 Lo, .int .i64 Hi] 24)) w3) := E2.out.trans x3
                    clear x3 cA cL cH
                    obtain ⟨cA, cL, cH⟩ := E3.out.alh
                    go_wp2_with (first | (go_at_call 10; refine (may_any _ _).mono ?_; rintro e wx ⟨rfl, hwx⟩; have hwy := hwx.symm; clear hwx; subst hwy) | (go_at_call 12; refine (is_eq _ _ _ _ (by first | rfl | (have := HMX.out; omega))).mono ?_; rintro e wx ⟨rfl, hwx⟩; have hwy := hwx.symm; clear hwx; subst hwy))
                    refine (HO3.out _).mono ?_
                    rintro e w4 ⟨rfl, x4⟩
                    have E4 : Hid (Ext (wr.alloc (.cells #[.int .i64 A, .int .i64 B, .int .i64 N, .int .i64 D, .int .i64 Lo, .int .i64 Hi] 24)) w4) := E3.out.trans x4
                    clear x4 cA cL cH
                    obtain ⟨cA, cL, cH⟩ := E4.out.alh
                    go_wp2_with (first | (go_at_call 10; refine (may_any _ _).mono ?_; rintro e wx ⟨rfl, hwx⟩; have hwy := hwx.symm; clear hwx; subst hwy) | (go_at_call 12; refine (is_eq _ _ _ _ (by first | rfl | (have := HMX.out; omega))).mono ?_; rintro e wx ⟨rfl, hwx⟩; have hwy := hwx.symm; clear hwx; subst hwy))
                    refine (HCl.out _).mono ?_
                    rintro e w5 ⟨rfl, x5⟩
                    have E5 : Hid (Ext (wr.alloc (.cells #[.int .i64 A, .int .i64 B, .int .i64 N, .int .i64 D, .int .i64 Lo, .int .i64 Hi] 24)) w5) := E4.out.trans x5
                    clear x5 cA cL cH
                    obtain ⟨cA, cL, cH⟩ := E5.out.alh
                    go_wp2_with (first | (go_at_call 10; refine (may_any _ _).mono ?_; rintro e wx ⟨rfl, hwx⟩; have hwy := hwx.symm; clear hwx; subst hwy) | (go_at_call 12; refine (is_eq _ _ _ _ (by first | rfl | (have := HMX.out; omega))).mono ?_; rintro e wx ⟨rfl, hwx⟩; have hwy := hwx.symm; clear hwx; subst hwy))
                    all_goals
                      go_roundw
                      case rel => exact ⟨k + 1, by omega, by go_num, (hx.alloc _).trans E5.out⟩
                      case measure => simp [intOf]; omega
                · have hgt : decide (Hi < Lo) = true := decide_eq_true (by omega)
                  have hgt' : Hi < Lo := by omega
                  obtain ⟨n, rfl⟩ := Int.eq_ofNat_of_zero_le h0
                  have hb := okW_bounds ha
                  have HQ2 : Hid (∀ w, Calls Try.prog 25 #[.int .i64 (n : Int)] w fun e w' => (∃ s : Nat, e = .returned (.int .i64 (s : Int)) ∧ s * s ≤ n ∧ n < (s + 1) * (s + 1)) ∧ Ext w w') := fun w => refsqrt_any n w hb.2
                  have HO2 : Hid (∀ w, Calls Try.prog 26 #[.int .i64 (n : Int)] w fun e w' => (∃ s : Nat, e = .returned (.tuple #[.int .i64 (s : Int), .int .i64 0]) ∧ NearRoot (n * 1073741824) s) ∧ Ext w w') := fun w => refroot_any n w hb.2
                  have HQ1 : Hid (∀ s : Nat, s * s ≤ n → n < (s + 1) * (s + 1) → ∀ w, Calls Try.prog 27 #[.int .i64 (n : Int)] w fun e w' => e = .returned (.tuple #[.int .i64 (s : Int), .int .i64 0]) ∧ Ext w w') := fun s h1 h2 w => (sqrt_yes (n : Int) w ha h0).mono fun e w' ⟨⟨R, hR, g1, g2, _⟩, x⟩ => ⟨by rw [hR, sqrt_unique (r := R) h1 h2 (Int.ofNat_le.1 g1) (Int.ofNat_lt.1 g2)], x⟩
                  have HO1 : Hid (∀ s : Nat, NearRoot (n * 1073741824) s → ∀ w, Calls Try.prog 28 #[.int .i64 (n : Int)] w fun e w' => e = .returned (.tuple #[.int .i64 (s : Int), .int .i64 0]) ∧ Ext w w') := fun s hs w => (root_yes (n : Int) w ha h0).mono fun e w' ⟨⟨X, hX, g1, _⟩, x⟩ => ⟨by rw [hX, nearRoot_unique g1 (by rw [Int.toNat_natCast]; exact hs)], x⟩
                  generalize hAA : (n : Int) = A at *
                  have hn0 : ¬ A < 0 := by omega
                  have hn1 : decide (A < 0) = false := decide_eq_false hn0
                  clear hAA
                  have hcl : (okW A && (okW Lo && okW Hi) && decide (Lo ≤ Hi)) = false := by rw [decide_eq_false hle]; simp
                  have HCl : Hid (∀ w, Calls Try.prog 29 #[.int .i64 A, .int .i64 Lo, .int .i64 Hi] w fun e w' => e = .returned (.tuple #[.int .i64 0, .int .i64 1]) ∧ Ext w w') := fun w => clamp_no A Lo Hi w hcl
                  have HMX : Hid True := trivial
                  clear hcl
                  go_wp2_with (first | (go_at_call 10; refine (may_any _ _).mono ?_; rintro e wx ⟨rfl, hwx⟩; have hwy := hwx.symm; clear hwx; subst hwy) | (go_at_call 12; refine (is_eq _ _ _ _ (by first | rfl | (have := HMX.out; omega))).mono ?_; rintro e wx ⟨rfl, hwx⟩; have hwy := hwx.symm; clear hwx; subst hwy))
                  refine (HQ2.out _).mono ?_
                  rintro e w1 ⟨⟨s, rfl, g1, g2⟩, x1⟩
                  have E1 : Hid (Ext (wr.alloc (.cells #[.int .i64 A, .int .i64 B, .int .i64 N, .int .i64 D, .int .i64 Lo, .int .i64 Hi] 24)) w1) := x1
                  clear x1 
                  obtain ⟨cA, cL, cH⟩ := E1.out.alh
                  have HQ3 : Hid _ := HQ1.out s g1 g2
                  clear g1 g2 HQ1 HQ2
                  go_wp2_with (first | (go_at_call 10; refine (may_any _ _).mono ?_; rintro e wx ⟨rfl, hwx⟩; have hwy := hwx.symm; clear hwx; subst hwy) | (go_at_call 12; refine (is_eq _ _ _ _ (by first | rfl | (have := HMX.out; omega))).mono ?_; rintro e wx ⟨rfl, hwx⟩; have hwy := hwx.symm; clear hwx; subst hwy))
                  refine (HO2.out _).mono ?_
                  rintro e w2 ⟨⟨t, rfl, g3⟩, x2⟩
                  have E2 : Hid (Ext (wr.alloc (.cells #[.int .i64 A, .int .i64 B, .int .i64 N, .int .i64 D, .int .i64 Lo, .int .i64 Hi] 24)) w2) := E1.out.trans x2
                  clear x2 cA cL cH
                  obtain ⟨cA, cL, cH⟩ := E2.out.alh
                  have HO3 : Hid _ := HO1.out t g3
                  clear g3 HO1 HO2
                  go_wp2_with (first | (go_at_call 10; refine (may_any _ _).mono ?_; rintro e wx ⟨rfl, hwx⟩; have hwy := hwx.symm; clear hwx; subst hwy) | (go_at_call 12; refine (is_eq _ _ _ _ (by first | rfl | (have := HMX.out; omega))).mono ?_; rintro e wx ⟨rfl, hwx⟩; have hwy := hwx.symm; clear hwx; subst hwy))
                  refine (HQ3.out _).mono ?_
                  rintro e w3 ⟨rfl, x3⟩
                  have E3 : Hid (Ext (wr.alloc (.cells #[.int .i64 A, .int .i64 B, .int .i64 N, .int .i64 D, .int .i64 Lo, .int .i64 Hi] 24)) w3) := E2.out.trans x3
                  clear x3 cA cL cH
                  obtain ⟨cA, cL, cH⟩ := E3.out.alh
                  go_wp2_with (first | (go_at_call 10; refine (may_any _ _).mono ?_; rintro e wx ⟨rfl, hwx⟩; have hwy := hwx.symm; clear hwx; subst hwy) | (go_at_call 12; refine (is_eq _ _ _ _ (by first | rfl | (have := HMX.out; omega))).mono ?_; rintro e wx ⟨rfl, hwx⟩; have hwy := hwx.symm; clear hwx; subst hwy))
                  refine (HO3.out _).mono ?_
                  rintro e w4 ⟨rfl, x4⟩
                  have E4 : Hid (Ext (wr.alloc (.cells #[.int .i64 A, .int .i64 B, .int .i64 N, .int .i64 D, .int .i64 Lo, .int .i64 Hi] 24)) w4) := E3.out.trans x4
                  clear x4 cA cL cH
                  obtain ⟨cA, cL, cH⟩ := E4.out.alh
                  go_wp2_with (first | (go_at_call 10; refine (may_any _ _).mono ?_; rintro e wx ⟨rfl, hwx⟩; have hwy := hwx.symm; clear hwx; subst hwy) | (go_at_call 12; refine (is_eq _ _ _ _ (by first | rfl | (have := HMX.out; omega))).mono ?_; rintro e wx ⟨rfl, hwx⟩; have hwy := hwx.symm; clear hwx; subst hwy))
                  refine (HCl.out _).mono ?_
                  rintro e w5 ⟨rfl, x5⟩
                  have E5 : Hid (Ext (wr.alloc (.cells #[.int .i64 A, .int .i64 B, .int .i64 N, .int .i64 D, .int .i64 Lo, .int .i64 Hi] 24)) w5) := E4.out.trans x5
                  clear x5 cA cL cH
                  obtain ⟨cA, cL, cH⟩ := E5.out.alh
                  go_wp2_with (first | (go_at_call 10; refine (may_any _ _).mono ?_; rintro e wx ⟨rfl, hwx⟩; have hwy := hwx.symm; clear hwx; subst hwy) | (go_at_call 12; refine (is_eq _ _ _ _ (by first | rfl | (have := HMX.out; omega))).mono ?_; rintro e wx ⟨rfl, hwx⟩; have hwy := hwx.symm; clear hwx; subst hwy))
                  all_goals
                    go_roundw
                    case rel => exact ⟨k + 1, by omega, by go_num, (hx.alloc _).trans E5.out⟩
                    case measure => simp [intOf]; omega
          · have hno : (okW A && decide (0 ≤ A)) = false := by rw [decide_eq_false h0]; simp
            have hn0 : A < 0 := by omega
            have hn1 : decide (A < 0) = true := decide_eq_true hn0
            cases hL : okW Lo
            · have HQ3 : Hid _ := fun w => sqrt_no A w hno
              have HO3 : Hid _ := fun w => root_no A w hno
              clear hno
              have hcl : (okW A && (okW Lo && okW Hi) && decide (Lo ≤ Hi)) = false := by rw [hL]; simp
              have HCl : Hid (∀ w, Calls Try.prog 29 #[.int .i64 A, .int .i64 Lo, .int .i64 Hi] w fun e w' => e = .returned (.tuple #[.int .i64 0, .int .i64 1]) ∧ Ext w w') := fun w => clamp_no A Lo Hi w hcl
              have HMX : Hid True := trivial
              clear hcl
              go_wp2_with (first | (go_at_call 10; refine (may_any _ _).mono ?_; rintro e wx ⟨rfl, hwx⟩; have hwy := hwx.symm; clear hwx; subst hwy) | (go_at_call 12; refine (is_eq _ _ _ _ (by first | rfl | (have := HMX.out; omega))).mono ?_; rintro e wx ⟨rfl, hwx⟩; have hwy := hwx.symm; clear hwx; subst hwy))
              refine (HQ3.out _).mono ?_
              rintro e w1 ⟨rfl, x1⟩
              have E1 : Hid (Ext (wr.alloc (.cells #[.int .i64 A, .int .i64 B, .int .i64 N, .int .i64 D, .int .i64 Lo, .int .i64 Hi] 24)) w1) := x1
              clear x1 
              obtain ⟨cA, cL, cH⟩ := E1.out.alh
              go_wp2_with (first | (go_at_call 10; refine (may_any _ _).mono ?_; rintro e wx ⟨rfl, hwx⟩; have hwy := hwx.symm; clear hwx; subst hwy) | (go_at_call 12; refine (is_eq _ _ _ _ (by first | rfl | (have := HMX.out; omega))).mono ?_; rintro e wx ⟨rfl, hwx⟩; have hwy := hwx.symm; clear hwx; subst hwy))
              refine (HO3.out _).mono ?_
              rintro e w2 ⟨rfl, x2⟩
              have E2 : Hid (Ext (wr.alloc (.cells #[.int .i64 A, .int .i64 B, .int .i64 N, .int .i64 D, .int .i64 Lo, .int .i64 Hi] 24)) w2) := E1.out.trans x2
              clear x2 cA cL cH
              obtain ⟨cA, cL, cH⟩ := E2.out.alh
              go_wp2_with (first | (go_at_call 10; refine (may_any _ _).mono ?_; rintro e wx ⟨rfl, hwx⟩; have hwy := hwx.symm; clear hwx; subst hwy) | (go_at_call 12; refine (is_eq _ _ _ _ (by first | rfl | (have := HMX.out; omega))).mono ?_; rintro e wx ⟨rfl, hwx⟩; have hwy := hwx.symm; clear hwx; subst hwy))
              refine (HCl.out _).mono ?_
              rintro e w3 ⟨rfl, x3⟩
              have E3 : Hid (Ext (wr.alloc (.cells #[.int .i64 A, .int .i64 B, .int .i64 N, .int .i64 D, .int .i64 Lo, .int .i64 Hi] 24)) w3) := E2.out.trans x3
              clear x3 cA cL cH
              obtain ⟨cA, cL, cH⟩ := E3.out.alh
              go_wp2_with (first | (go_at_call 10; refine (may_any _ _).mono ?_; rintro e wx ⟨rfl, hwx⟩; have hwy := hwx.symm; clear hwx; subst hwy) | (go_at_call 12; refine (is_eq _ _ _ _ (by first | rfl | (have := HMX.out; omega))).mono ?_; rintro e wx ⟨rfl, hwx⟩; have hwy := hwx.symm; clear hwx; subst hwy))
              all_goals
                go_roundw
                case rel => exact ⟨k + 1, by omega, by go_num, (hx.alloc _).trans E3.out⟩
                case measure => simp [intOf]; omega
            · cases hH : okW Hi
              · have HQ3 : Hid _ := fun w => sqrt_no A w hno
                have HO3 : Hid _ := fun w => root_no A w hno
                clear hno
                have hcl : (okW A && (okW Lo && okW Hi) && decide (Lo ≤ Hi)) = false := by rw [hH]; simp
                have HCl : Hid (∀ w, Calls Try.prog 29 #[.int .i64 A, .int .i64 Lo, .int .i64 Hi] w fun e w' => e = .returned (.tuple #[.int .i64 0, .int .i64 1]) ∧ Ext w w') := fun w => clamp_no A Lo Hi w hcl
                have HMX : Hid True := trivial
                clear hcl
                go_wp2_with (first | (go_at_call 10; refine (may_any _ _).mono ?_; rintro e wx ⟨rfl, hwx⟩; have hwy := hwx.symm; clear hwx; subst hwy) | (go_at_call 12; refine (is_eq _ _ _ _ (by first | rfl | (have := HMX.out; omega))).mono ?_; rintro e wx ⟨rfl, hwx⟩; have hwy := hwx.symm; clear hwx; subst hwy))
                refine (HQ3.out _).mono ?_
                rintro e w1 ⟨rfl, x1⟩
                have E1 : Hid (Ext (wr.alloc (.cells #[.int .i64 A, .int .i64 B, .int .i64 N, .int .i64 D, .int .i64 Lo, .int .i64 Hi] 24)) w1) := x1
                clear x1 
                obtain ⟨cA, cL, cH⟩ := E1.out.alh
                go_wp2_with (first | (go_at_call 10; refine (may_any _ _).mono ?_; rintro e wx ⟨rfl, hwx⟩; have hwy := hwx.symm; clear hwx; subst hwy) | (go_at_call 12; refine (is_eq _ _ _ _ (by first | rfl | (have := HMX.out; omega))).mono ?_; rintro e wx ⟨rfl, hwx⟩; have hwy := hwx.symm; clear hwx; subst hwy))
                refine (HO3.out _).mono ?_
                rintro e w2 ⟨rfl, x2⟩
                have E2 : Hid (Ext (wr.alloc (.cells #[.int .i64 A, .int .i64 B, .int .i64 N, .int .i64 D, .int .i64 Lo, .int .i64 Hi] 24)) w2) := E1.out.trans x2
                clear x2 cA cL cH
                obtain ⟨cA, cL, cH⟩ := E2.out.alh
                go_wp2_with (first | (go_at_call 10; refine (may_any _ _).mono ?_; rintro e wx ⟨rfl, hwx⟩; have hwy := hwx.symm; clear hwx; subst hwy) | (go_at_call 12; refine (is_eq _ _ _ _ (by first | rfl | (have := HMX.out; omega))).mono ?_; rintro e wx ⟨rfl, hwx⟩; have hwy := hwx.symm; clear hwx; subst hwy))
                refine (HCl.out _).mono ?_
                rintro e w3 ⟨rfl, x3⟩
                have E3 : Hid (Ext (wr.alloc (.cells #[.int .i64 A, .int .i64 B, .int .i64 N, .int .i64 D, .int .i64 Lo, .int .i64 Hi] 24)) w3) := E2.out.trans x3
                clear x3 cA cL cH
                obtain ⟨cA, cL, cH⟩ := E3.out.alh
                go_wp2_with (first | (go_at_call 10; refine (may_any _ _).mono ?_; rintro e wx ⟨rfl, hwx⟩; have hwy := hwx.symm; clear hwx; subst hwy) | (go_at_call 12; refine (is_eq _ _ _ _ (by first | rfl | (have := HMX.out; omega))).mono ?_; rintro e wx ⟨rfl, hwx⟩; have hwy := hwx.symm; clear hwx; subst hwy))
                all_goals
                  go_roundw
                  case rel => exact ⟨k + 1, by omega, by go_num, (hx.alloc _).trans E3.out⟩
                  case measure => simp [intOf]; omega
              · by_cases hle : Lo ≤ Hi
                · have hgt : decide (Hi < Lo) = false := decide_eq_false (by omega)
                  have hgt' : ¬ Hi < Lo := by omega
                  have gL := okW_bounds hL
                  have gH := okW_bounds hH
                  have HQ3 : Hid _ := fun w => sqrt_no A w hno
                  have HO3 : Hid _ := fun w => root_no A w hno
                  clear hno
                  obtain ⟨mm, hmm⟩ : ∃ mm : Int, max Lo (min A Hi) = mm := ⟨_, rfl⟩
                  have HCl : Hid (∀ w, Calls Try.prog 29 #[.int .i64 A, .int .i64 Lo, .int .i64 Hi] w fun e w' => e = .returned (.tuple #[.int .i64 mm, .int .i64 0]) ∧ Ext w w') := fun w => by rw [← hmm]; exact clamp_yes A Lo Hi w ha hL hH hle
                  have HMX : Hid (max Lo (min A Hi) = mm) := hmm
                  clear hmm
                  go_wp2_with (first | (go_at_call 10; refine (may_any _ _).mono ?_; rintro e wx ⟨rfl, hwx⟩; have hwy := hwx.symm; clear hwx; subst hwy) | (go_at_call 12; refine (is_eq _ _ _ _ (by first | rfl | (have := HMX.out; omega))).mono ?_; rintro e wx ⟨rfl, hwx⟩; have hwy := hwx.symm; clear hwx; subst hwy))
                  all_goals
                    refine (HQ3.out _).mono ?_
                    rintro e w1 ⟨rfl, x1⟩
                    have E1 : Hid (Ext (wr.alloc (.cells #[.int .i64 A, .int .i64 B, .int .i64 N, .int .i64 D, .int .i64 Lo, .int .i64 Hi] 24)) w1) := x1
                    clear x1 
                    obtain ⟨cA, cL, cH⟩ := E1.out.alh
                    go_wp2_with (first | (go_at_call 10; refine (may_any _ _).mono ?_; rintro e wx ⟨rfl, hwx⟩; have hwy := hwx.symm; clear hwx; subst hwy) | (go_at_call 12; refine (is_eq _ _ _ _ (by first | rfl | (have := HMX.out; omega))).mono ?_; rintro e wx ⟨rfl, hwx⟩; have hwy := hwx.symm; clear hwx; subst hwy))
                    refine (HO3.out _).mono ?_
                    rintro e w2 ⟨rfl, x2⟩
                    have E2 : Hid (Ext (wr.alloc (.cells #[.int .i64 A, .int .i64 B, .int .i64 N, .int .i64 D, .int .i64 Lo, .int .i64 Hi] 24)) w2) := E1.out.trans x2
                    clear x2 cA cL cH
                    obtain ⟨cA, cL, cH⟩ := E2.out.alh
                    go_wp2_with (first | (go_at_call 10; refine (may_any _ _).mono ?_; rintro e wx ⟨rfl, hwx⟩; have hwy := hwx.symm; clear hwx; subst hwy) | (go_at_call 12; refine (is_eq _ _ _ _ (by first | rfl | (have := HMX.out; omega))).mono ?_; rintro e wx ⟨rfl, hwx⟩; have hwy := hwx.symm; clear hwx; subst hwy))
                    refine (HCl.out _).mono ?_
                    rintro e w3 ⟨rfl, x3⟩
                    have E3 : Hid (Ext (wr.alloc (.cells #[.int .i64 A, .int .i64 B, .int .i64 N, .int .i64 D, .int .i64 Lo, .int .i64 Hi] 24)) w3) := E2.out.trans x3
                    clear x3 cA cL cH
                    obtain ⟨cA, cL, cH⟩ := E3.out.alh
                    go_wp2_with (first | (go_at_call 10; refine (may_any _ _).mono ?_; rintro e wx ⟨rfl, hwx⟩; have hwy := hwx.symm; clear hwx; subst hwy) | (go_at_call 12; refine (is_eq _ _ _ _ (by first | rfl | (have := HMX.out; omega))).mono ?_; rintro e wx ⟨rfl, hwx⟩; have hwy := hwx.symm; clear hwx; subst hwy))
                    all_goals
                      go_roundw
                      case rel => exact ⟨k + 1, by omega, by go_num, (hx.alloc _).trans E3.out⟩
                      case measure => simp [intOf]; omega
                · have hgt : decide (Hi < Lo) = true := decide_eq_true (by omega)
                  have hgt' : Hi < Lo := by omega
                  have HQ3 : Hid _ := fun w => sqrt_no A w hno
                  have HO3 : Hid _ := fun w => root_no A w hno
                  clear hno
                  have hcl : (okW A && (okW Lo && okW Hi) && decide (Lo ≤ Hi)) = false := by rw [decide_eq_false hle]; simp
                  have HCl : Hid (∀ w, Calls Try.prog 29 #[.int .i64 A, .int .i64 Lo, .int .i64 Hi] w fun e w' => e = .returned (.tuple #[.int .i64 0, .int .i64 1]) ∧ Ext w w') := fun w => clamp_no A Lo Hi w hcl
                  have HMX : Hid True := trivial
                  clear hcl
                  go_wp2_with (first | (go_at_call 10; refine (may_any _ _).mono ?_; rintro e wx ⟨rfl, hwx⟩; have hwy := hwx.symm; clear hwx; subst hwy) | (go_at_call 12; refine (is_eq _ _ _ _ (by first | rfl | (have := HMX.out; omega))).mono ?_; rintro e wx ⟨rfl, hwx⟩; have hwy := hwx.symm; clear hwx; subst hwy))
                  refine (HQ3.out _).mono ?_
                  rintro e w1 ⟨rfl, x1⟩
                  have E1 : Hid (Ext (wr.alloc (.cells #[.int .i64 A, .int .i64 B, .int .i64 N, .int .i64 D, .int .i64 Lo, .int .i64 Hi] 24)) w1) := x1
                  clear x1 
                  obtain ⟨cA, cL, cH⟩ := E1.out.alh
                  go_wp2_with (first | (go_at_call 10; refine (may_any _ _).mono ?_; rintro e wx ⟨rfl, hwx⟩; have hwy := hwx.symm; clear hwx; subst hwy) | (go_at_call 12; refine (is_eq _ _ _ _ (by first | rfl | (have := HMX.out; omega))).mono ?_; rintro e wx ⟨rfl, hwx⟩; have hwy := hwx.symm; clear hwx; subst hwy))
                  refine (HO3.out _).mono ?_
                  rintro e w2 ⟨rfl, x2⟩
                  have E2 : Hid (Ext (wr.alloc (.cells #[.int .i64 A, .int .i64 B, .int .i64 N, .int .i64 D, .int .i64 Lo, .int .i64 Hi] 24)) w2) := E1.out.trans x2
                  clear x2 cA cL cH
                  obtain ⟨cA, cL, cH⟩ := E2.out.alh
                  go_wp2_with (first | (go_at_call 10; refine (may_any _ _).mono ?_; rintro e wx ⟨rfl, hwx⟩; have hwy := hwx.symm; clear hwx; subst hwy) | (go_at_call 12; refine (is_eq _ _ _ _ (by first | rfl | (have := HMX.out; omega))).mono ?_; rintro e wx ⟨rfl, hwx⟩; have hwy := hwx.symm; clear hwx; subst hwy))
                  refine (HCl.out _).mono ?_
                  rintro e w3 ⟨rfl, x3⟩
                  have E3 : Hid (Ext (wr.alloc (.cells #[.int .i64 A, .int .i64 B, .int .i64 N, .int .i64 D, .int .i64 Lo, .int .i64 Hi] 24)) w3) := E2.out.trans x3
                  clear x3 cA cL cH
                  obtain ⟨cA, cL, cH⟩ := E3.out.alh
                  go_wp2_with (first | (go_at_call 10; refine (may_any _ _).mono ?_; rintro e wx ⟨rfl, hwx⟩; have hwy := hwx.symm; clear hwx; subst hwy) | (go_at_call 12; refine (is_eq _ _ _ _ (by first | rfl | (have := HMX.out; omega))).mono ?_; rintro e wx ⟨rfl, hwx⟩; have hwy := hwx.symm; clear hwx; subst hwy))
                  all_goals
                    go_roundw
                    case rel => exact ⟨k + 1, by omega, by go_num, (hx.alloc _).trans E3.out⟩
                    case measure => simp [intOf]; omega
      · go_wp2_with fail
        refine (wakes_any _).mono ?_
        rintro e w1 ⟨rfl, x1⟩
        go_wp2_with fail
        go_ret
        exact ⟨rfl, hx.trans x1⟩
    · go_wp2_with fail
      refine (wakes_any _).mono ?_
      rintro e w1 ⟨rfl, x1⟩
      go_wp2_with fail
      go_ret
      exact ⟨rfl, hx.trans x1⟩

set_option maxHeartbeats 1000000 in
set_option maxRecDepth 20000 in
theorem roots_none (a : Option Addr) (cap : Nat) (w : World) :
    Calls Try.prog 7 #[.slice a 0 cap] w fun e w' => e = .returned (.bool true) ∧ Ext w w' := by
  go_enter Try.func7, Try.ntmps7
  go_wp2_with fail
  refine wp_loop_rounds 1 ?_
  rw [rounds_succ]
  go_wp2_with fail
  refine (wakes_any _).mono ?_
  rintro e w1 ⟨rfl, x1⟩
  go_wp2_with fail
  go_ret
  exact ⟨rfl, x1⟩
end Go.Proofs.Ytfcmacbhadpldaa
