/- FxLaws: by 1 products and quotients change nothing; sums go both ways and back; a root squared is not above its word, the next one's square is; products go both ways. -/
import Derived.Test.YtfcmacbhadpldaaMay
import Derived.Test.YtfcmacbhadpldaaLawsNum
import Derived.Deep.RegionHeld
namespace Go.Proofs.Ytfcmacbhadpldaa
open Go.RowKit

structure Held6 (W : World) (a b c : Nat) (d1 d2 d3 : Bool) (u1 u2 u3 : Value) : Prop where
  a0 : W.cell? ⟨a, 0, none⟩ = some (.bool d1)
  a1 : W.cell? ⟨a, 1, none⟩ = some u1
  b0 : W.cell? ⟨b, 0, none⟩ = some (.bool d2)
  b1 : W.cell? ⟨b, 1, none⟩ = some u2
  c0 : W.cell? ⟨c, 0, none⟩ = some (.bool d3)
  c1 : W.cell? ⟨c, 1, none⟩ = some u3
theorem Held6.ext {W W' : World} {a b c : Nat} {d1 d2 d3 : Bool} {u1 u2 u3 : Value} (h : Held6 W a b c d1 d2 d3 u1 u2 u3) (hx : Ext W W') : Held6 W' a b c d1 d2 d3 u1 u2 u3 :=
  ⟨hx.kept h.a0, hx.kept h.a1, hx.kept h.b0, hx.kept h.b1, hx.kept h.c0, hx.kept h.c1⟩
theorem held6_start {w2 w6 w8 : World} {d1 d2 d3 : Bool} {u1 u2 u3 : Value} (h1 : w6.cell? ⟨w2.heap.size, 0, none⟩ = some (.bool d1) ∧ w6.cell? ⟨w2.heap.size, 1, none⟩ = some u1) (h2 : w8.cell? ⟨w6.heap.size, 0, none⟩ = some (.bool d2) ∧ w8.cell? ⟨w6.heap.size, 1, none⟩ = some u2) (hx : Ext w6 w8) :
    Held6 (w8.alloc (.cells #[.bool d3, u3] 44)) w2.heap.size w6.heap.size w8.heap.size d1 d2 d3 u1 u2 u3 := by
  have e := (Ext.refl w8).alloc (.cells #[.bool d3, u3] 44)
  exact ⟨e.kept (hx.kept h1.1), e.kept (hx.kept h1.2), e.kept h2.1, e.kept h2.2, by simp [go_sem], by simp [go_sem]⟩

set_option maxRecDepth 20000 in
theorem Ext.ab {w w' : World} {u0 u1 u2 u3 u4 u5 : Value} {T : TypeId} (h : Ext (w.alloc (.cells #[u0, u1, u2, u3, u4, u5] T)) w') : w'.cell? ⟨w.heap.size, 0, none⟩ = some u0 ∧ w'.cell? ⟨w.heap.size, 1, none⟩ = some u1 := by
  obtain ⟨h0, h1, _⟩ := h.cells6
  exact ⟨h0, h1⟩

set_option maxHeartbeats 4000000 in
set_option maxRecDepth 20000 in
theorem laws_any (b off len cap : Nat) (Z : Nat → Nat → Int) (w : World) (hl : len ≤ maxLen) (hc : Twos w b off len Z) :
    Calls Try.prog 8 #[.slice (some ⟨b, off, none⟩) len cap] w fun e w' => e = .returned (.bool true) ∧ Ext w w' := by
  have hl' : len ≤ 9223372036854775807 := by unfold maxLen at hl; omega
  clear hl
  go_enter Try.func8, Try.ntmps8
  go_wp2_with fail
  go_loopw [3] (fun i wr => ∃ k : Nat, k ≤ len ∧ i = .int .i64 k ∧ Ext w wr) (fun i _ => len - (intOf i).toNat)
  case atStart => exact ⟨0, Nat.zero_le _, rfl, Ext.refl _⟩
  case round =>
    obtain ⟨k, hk, rfl, hx⟩ := hrel
    by_cases hlt : k < len
    · by_cases h30 : k < 30
      · obtain ⟨A, B, N, D, Lo, Hi, z0, z1, z2, z3, z4, z5, ⟨ba, ba'⟩, ⟨bb, bb'⟩, ⟨bn, bn'⟩, ⟨bd, bd'⟩, ⟨bl, bl'⟩, ⟨bh, bh'⟩⟩ := (hc.ext hx).row hlt
        have hlt' : (k : Int) < (len : Int) := by omega
        cases hA : okW A
        · go_wp2_with (go_at_call 10; refine (may_any _ _).mono ?_; rintro e wx ⟨rfl, hwx⟩; have hwy := hwx.symm; clear hwx; subst hwy)
          go_roundw
          case rel => exact ⟨k + 1, by omega, by go_num, hx.alloc _⟩
          case measure => simp [intOf]; omega
        · cases hB : okW B
          · go_wp2_with (go_at_call 10; refine (may_any _ _).mono ?_; rintro e wx ⟨rfl, hwx⟩; have hwy := hwx.symm; clear hwx; subst hwy)
            go_roundw
            case rel => exact ⟨k + 1, by omega, by go_num, hx.alloc _⟩
            case measure => simp [intOf]; omega
          · have gA := okW_bounds hA
            have gB := okW_bounds hB
            have HM1 : Hid (∀ w, Calls Try.prog 9 #[.int .i64 A, .int .i64 1073741824] w fun e w' => e = .returned (.tuple #[.int .i64 A, .int .i64 0]) ∧ Ext w w') := fun w => mul_is (mul_one A hA) w
            have HD1 : Hid (∀ w, Calls Try.prog 14 #[.int .i64 A, .int .i64 1073741824] w fun e w' => e = .returned (.tuple #[.int .i64 A, .int .i64 0]) ∧ Ext w w') := fun w => div_is (div_one A hA) w
            have HM2 : Hid (∀ w, Calls Try.prog 9 #[.int .i64 A, .int .i64 B] w fun e w' => e = .returned (.tuple #[.int .i64 (mulR A B).1, .int .i64 (mulR A B).2]) ∧ Ext w w') := fun w => mul_any A B w
            have HM3 : Hid (∀ w, Calls Try.prog 9 #[.int .i64 B, .int .i64 A] w fun e w' => e = .returned (.tuple #[.int .i64 (mulR A B).1, .int .i64 (mulR A B).2]) ∧ Ext w w') := fun w => by rw [mul_comm2 A B]; exact mul_any B A w
            generalize (mulR A B).1 = p at *
            generalize (mulR A B).2 = pe at *
            obtain ⟨n, hn1, hn2, hn3⟩ : ∃ n : Int, max A (-A) = n ∧ 0 ≤ n ∧ n < 35184372088832 := ⟨_, rfl, by omega, by omega⟩
            have hnw : okW n = true := by unfold okW; simp only [Bool.and_eq_true, decide_eq_true_eq]; omega
            have HQ : Hid (∀ w, Calls Try.prog 27 #[.int .i64 n] w fun e w' => (∃ R : Nat, e = .returned (.tuple #[.int .i64 (R : Int), .int .i64 0]) ∧ ((R * R : Nat) : Int) ≤ n ∧ n < (((R + 1) * (R + 1) : Nat) : Int) ∧ (R : Int) < 274877906944) ∧ Ext w w') := fun w => sqrt_yes n w hnw hn2
            have HO : Hid (∀ w, Calls Try.prog 28 #[.int .i64 n] w fun e w' => (∃ X : Nat, e = .returned (.tuple #[.int .i64 (X : Int), .int .i64 0]) ∧ NearRoot (n.toNat * 1073741824) X ∧ (X : Int) ≤ 274877906944) ∧ Ext w w') := fun w => root_yes n w hnw hn2
            clear hnw
            have HFn : Hid (∀ w, Calls Try.prog 32 #[.int .i64 n] w fun e w' => (∃ r, e = .returned r ∧ IsI w' r n) ∧ Ext w w') := fun w => from_any n w (by omega) (by omega)
            have HF1 : Hid (∀ w, Calls Try.prog 32 #[.int .i64 1] w fun e w' => (∃ r, e = .returned r ∧ IsI w' r 1) ∧ Ext w w') := fun w => from_any 1 w (by omega) (by omega)
            go_wp2_with (first | (go_at_call 21; refine (num_any _ _).mono ?_; rintro e wx ⟨rfl, hwx⟩; have hwy := hwx.symm; clear hwx; subst hwy) | (go_at_call 10; refine (may_any _ _).mono ?_; rintro e wx ⟨rfl, hwx⟩; have hwy := hwx.symm; clear hwx; subst hwy))
            refine (HM1.out _).mono ?_
            rintro e w1 ⟨rfl, x1⟩
            have E1 : Hid (Ext (wr.alloc (.cells #[.int .i64 A, .int .i64 B, .int .i64 N, .int .i64 D, .int .i64 Lo, .int .i64 Hi] 24)) w1) := x1
            obtain ⟨cA, cB⟩ := E1.out.ab
            go_wp2_with (first | (go_at_call 21; refine (num_any _ _).mono ?_; rintro e wx ⟨rfl, hwx⟩; have hwy := hwx.symm; clear hwx; subst hwy) | (go_at_call 10; refine (may_any _ _).mono ?_; rintro e wx ⟨rfl, hwx⟩; have hwy := hwx.symm; clear hwx; subst hwy))
            refine (HD1.out _).mono ?_
            rintro e w2 ⟨rfl, x2⟩
            have E2 : Hid (Ext (wr.alloc (.cells #[.int .i64 A, .int .i64 B, .int .i64 N, .int .i64 D, .int .i64 Lo, .int .i64 Hi] 24)) w2) := E1.out.trans x2
            clear cA cB
            obtain ⟨cA, cB⟩ := E2.out.ab
            go_wp2_with (first | (go_at_call 21; refine (num_any _ _).mono ?_; rintro e wx ⟨rfl, hwx⟩; have hwy := hwx.symm; clear hwx; subst hwy) | (go_at_call 10; refine (may_any _ _).mono ?_; rintro e wx ⟨rfl, hwx⟩; have hwy := hwx.symm; clear hwx; subst hwy))
            refine (HM2.out _).mono ?_
            rintro e w3 ⟨rfl, x3⟩
            have E3 : Hid (Ext (wr.alloc (.cells #[.int .i64 A, .int .i64 B, .int .i64 N, .int .i64 D, .int .i64 Lo, .int .i64 Hi] 24)) w3) := E2.out.trans x3
            clear cA cB
            obtain ⟨cA, cB⟩ := E3.out.ab
            go_wp2_with (first | (go_at_call 21; refine (num_any _ _).mono ?_; rintro e wx ⟨rfl, hwx⟩; have hwy := hwx.symm; clear hwx; subst hwy) | (go_at_call 10; refine (may_any _ _).mono ?_; rintro e wx ⟨rfl, hwx⟩; have hwy := hwx.symm; clear hwx; subst hwy))
            refine (HM3.out _).mono ?_
            rintro e w4 ⟨rfl, x4⟩
            have E4 : Hid (Ext (wr.alloc (.cells #[.int .i64 A, .int .i64 B, .int .i64 N, .int .i64 D, .int .i64 Lo, .int .i64 Hi] 24)) w4) := E3.out.trans x4
            clear cA cB
            obtain ⟨cA, cB⟩ := E4.out.ab
            clear x1 x2 x3 x4 E1 E2 E3 HM1 HD1 HM2 HM3
            have hpe : (pe != pe) = false := by simp
            have hpp : (p != p) = false := by simp
            cases hs : okW (A + B)
            · have HA : Hid (∀ w, Calls Try.prog 20 #[.int .i64 A, .int .i64 B] w fun e w' => e = .returned (.tuple #[.int .i64 0, .int .i64 2]) ∧ Ext w w') := fun w => add_is (addR_no hA hB hs) w
              go_wp2_with (first | (go_at_call 21; refine (num_any _ _).mono ?_; rintro e wx ⟨rfl, hwx⟩; have hwy := hwx.symm; clear hwx; subst hwy) | (go_at_call 10; refine (may_any _ _).mono ?_; rintro e wx ⟨rfl, hwx⟩; have hwy := hwx.symm; clear hwx; subst hwy))
              refine (HA.out _).mono ?_
              rintro e w5 ⟨rfl, x5⟩
              have E5 : Hid (Ext (wr.alloc (.cells #[.int .i64 A, .int .i64 B, .int .i64 N, .int .i64 D, .int .i64 Lo, .int .i64 Hi] 24)) w5) := E4.out.trans x5
              clear cA cB
              obtain ⟨cA, cB⟩ := E5.out.ab
              clear x5 E4 HA hs
              go_wp2_with (first | (go_at_call 21; refine (num_any _ _).mono ?_; rintro e wx ⟨rfl, hwx⟩; have hwy := hwx.symm; clear hwx; subst hwy) | (go_at_call 10; refine (may_any _ _).mono ?_; rintro e wx ⟨rfl, hwx⟩; have hwy := hwx.symm; clear hwx; subst hwy))
              refine (HQ.out _).mono ?_
              rintro e w7 ⟨⟨R, rfl, r1, r2, r3⟩, x7⟩
              have E7 : Hid (Ext (wr.alloc (.cells #[.int .i64 A, .int .i64 B, .int .i64 N, .int .i64 D, .int .i64 Lo, .int .i64 Hi] 24)) w7) := E5.out.trans x7
              clear cA cB
              obtain ⟨cA, cB⟩ := E7.out.ab
              obtain ⟨v, hv⟩ : ∃ v : Int, (R : Int) = v := ⟨_, rfl⟩
              have v0 : 0 ≤ v := by rw [← hv]; exact Int.natCast_nonneg _
              have v1 : v * v ≤ n := by rw [← hv]; simpa using r1
              have v2 : n < (v + 1) * (v + 1) := by rw [← hv]; simpa using r2
              have v3 : v < 274877906944 := by rw [← hv]; exact r3
              have b1 := sq_bound v 274877906944 v0 (by omega)
              have b2 := sq_bound (v + 1) 274877906945 (by omega) (by omega)
              have HFv : Hid (∀ w, Calls Try.prog 32 #[.int .i64 v] w fun e w' => (∃ r, e = .returned r ∧ IsI w' r v) ∧ Ext w w') := fun w => from_any v w (by omega) (by omega)
              have HFv1 : Hid (∀ w, Calls Try.prog 32 #[.int .i64 (v + 1)] w fun e w' => (∃ r, e = .returned r ∧ IsI w' r (v + 1)) ∧ Ext w w') := fun w => from_any (v + 1) w (by omega) (by omega)
              have HT1 : Hid (∀ a b w', IsI w' a v → IsI w' b v → Calls Try.prog 31 #[a, b] w' fun e w'' => (∃ r', e = .returned r' ∧ IsI w'' r' (v * v)) ∧ Ext w' w'') := fun a b w' ha hb => times_isI v v a b w' ha hb (smallI_of _ (by omega) (by omega)) (smallI_of _ (by omega) (by omega)) (smallI_of _ (by omega) (by omega))
              have HT2 : Hid (∀ a b w', IsI w' a (v + 1) → IsI w' b (v + 1) → Calls Try.prog 31 #[a, b] w' fun e w'' => (∃ r', e = .returned r' ∧ IsI w'' r' ((v + 1) * (v + 1))) ∧ Ext w' w'') := fun a b w' ha hb => times_isI (v + 1) (v + 1) a b w' ha hb (smallI_of _ (by omega) (by omega)) (smallI_of _ (by omega) (by omega)) (smallI_of _ (by omega) (by omega))
              obtain ⟨c1, HC1, hc1⟩ : ∃ c : Int, Hid (∀ a b w', IsI w' a (v * v) → IsI w' b n → Calls Try.prog 30 #[a, b] w' fun e w'' => e = .returned (.int .i64 c) ∧ Ext w' w'') ∧ c ≤ 0 := ⟨_, fun a b w' ha hb => cmp_isI (v * v) n a b w' ha hb (smallI_of _ (by omega) (by omega)) (smallI_of _ (by omega) (by omega)) (smallI_of _ (by omega) (by omega)), sgn_nonpos (by omega)⟩
              obtain ⟨c2, HC2, hc2⟩ : ∃ c : Int, Hid (∀ a b w', IsI w' a ((v + 1) * (v + 1)) → IsI w' b n → Calls Try.prog 30 #[a, b] w' fun e w'' => e = .returned (.int .i64 c) ∧ Ext w' w'') ∧ 0 < c := ⟨_, fun a b w' ha hb => cmp_isI ((v + 1) * (v + 1)) n a b w' ha hb (smallI_of _ (by omega) (by omega)) (smallI_of _ (by omega) (by omega)) (smallI_of _ (by omega) (by omega)), sgn_pos (by omega)⟩
              rw [hv]
              clear hv r1 r2 r3 v1 v2 b1 b2 HQ
              go_wp2_with (first | (go_at_call 21; refine (num_any _ _).mono ?_; rintro e wx ⟨rfl, hwx⟩; have hwy := hwx.symm; clear hwx; subst hwy) | (go_at_call 10; refine (may_any _ _).mono ?_; rintro e wx ⟨rfl, hwx⟩; have hwy := hwx.symm; clear hwx; subst hwy))
              refine (HFv.out _).mono ?_
              rintro e w8 ⟨⟨r8, rfl, i8⟩, x8⟩
              have E8 : Hid (Ext (wr.alloc (.cells #[.int .i64 A, .int .i64 B, .int .i64 N, .int .i64 D, .int .i64 Lo, .int .i64 Hi] 24)) w8) := E7.out.trans x8
              go_wp2_with (first | (go_at_call 21; refine (num_any _ _).mono ?_; rintro e wx ⟨rfl, hwx⟩; have hwy := hwx.symm; clear hwx; subst hwy) | (go_at_call 10; refine (may_any _ _).mono ?_; rintro e wx ⟨rfl, hwx⟩; have hwy := hwx.symm; clear hwx; subst hwy))
              refine (HFv.out _).mono ?_
              rintro e w9 ⟨⟨r9, rfl, i9⟩, x9⟩
              have E9 : Hid (Ext (wr.alloc (.cells #[.int .i64 A, .int .i64 B, .int .i64 N, .int .i64 D, .int .i64 Lo, .int .i64 Hi] 24)) w9) := E8.out.trans x9
              go_wp2_with (first | (go_at_call 21; refine (num_any _ _).mono ?_; rintro e wx ⟨rfl, hwx⟩; have hwy := hwx.symm; clear hwx; subst hwy) | (go_at_call 10; refine (may_any _ _).mono ?_; rintro e wx ⟨rfl, hwx⟩; have hwy := hwx.symm; clear hwx; subst hwy))
              refine (HT1.out _ _ _ (i8.ext x9) i9).mono ?_
              rintro e w10 ⟨⟨r10, rfl, i10⟩, x10⟩
              have E10 : Hid (Ext (wr.alloc (.cells #[.int .i64 A, .int .i64 B, .int .i64 N, .int .i64 D, .int .i64 Lo, .int .i64 Hi] 24)) w10) := E9.out.trans x10
              go_wp2_with (first | (go_at_call 21; refine (num_any _ _).mono ?_; rintro e wx ⟨rfl, hwx⟩; have hwy := hwx.symm; clear hwx; subst hwy) | (go_at_call 10; refine (may_any _ _).mono ?_; rintro e wx ⟨rfl, hwx⟩; have hwy := hwx.symm; clear hwx; subst hwy))
              refine (HFn.out _).mono ?_
              rintro e w11 ⟨⟨r11, rfl, i11⟩, x11⟩
              have E11 : Hid (Ext (wr.alloc (.cells #[.int .i64 A, .int .i64 B, .int .i64 N, .int .i64 D, .int .i64 Lo, .int .i64 Hi] 24)) w11) := E10.out.trans x11
              go_wp2_with (first | (go_at_call 21; refine (num_any _ _).mono ?_; rintro e wx ⟨rfl, hwx⟩; have hwy := hwx.symm; clear hwx; subst hwy) | (go_at_call 10; refine (may_any _ _).mono ?_; rintro e wx ⟨rfl, hwx⟩; have hwy := hwx.symm; clear hwx; subst hwy))
              refine (HC1.out _ _ _ (i10.ext x11) i11).mono ?_
              rintro e w12 ⟨rfl, x12⟩
              have E12 : Hid (Ext (wr.alloc (.cells #[.int .i64 A, .int .i64 B, .int .i64 N, .int .i64 D, .int .i64 Lo, .int .i64 Hi] 24)) w12) := E11.out.trans x12
              go_wp2_with (first | (go_at_call 21; refine (num_any _ _).mono ?_; rintro e wx ⟨rfl, hwx⟩; have hwy := hwx.symm; clear hwx; subst hwy) | (go_at_call 10; refine (may_any _ _).mono ?_; rintro e wx ⟨rfl, hwx⟩; have hwy := hwx.symm; clear hwx; subst hwy))
              refine (HFv1.out _).mono ?_
              rintro e w13 ⟨⟨r13, rfl, i13⟩, x13⟩
              have E13 : Hid (Ext (wr.alloc (.cells #[.int .i64 A, .int .i64 B, .int .i64 N, .int .i64 D, .int .i64 Lo, .int .i64 Hi] 24)) w13) := E12.out.trans x13
              go_wp2_with (first | (go_at_call 21; refine (num_any _ _).mono ?_; rintro e wx ⟨rfl, hwx⟩; have hwy := hwx.symm; clear hwx; subst hwy) | (go_at_call 10; refine (may_any _ _).mono ?_; rintro e wx ⟨rfl, hwx⟩; have hwy := hwx.symm; clear hwx; subst hwy))
              refine (HFv1.out _).mono ?_
              rintro e w14 ⟨⟨r14, rfl, i14⟩, x14⟩
              have E14 : Hid (Ext (wr.alloc (.cells #[.int .i64 A, .int .i64 B, .int .i64 N, .int .i64 D, .int .i64 Lo, .int .i64 Hi] 24)) w14) := E13.out.trans x14
              go_wp2_with (first | (go_at_call 21; refine (num_any _ _).mono ?_; rintro e wx ⟨rfl, hwx⟩; have hwy := hwx.symm; clear hwx; subst hwy) | (go_at_call 10; refine (may_any _ _).mono ?_; rintro e wx ⟨rfl, hwx⟩; have hwy := hwx.symm; clear hwx; subst hwy))
              refine (HT2.out _ _ _ (i13.ext x14) i14).mono ?_
              rintro e w15 ⟨⟨r15, rfl, i15⟩, x15⟩
              have E15 : Hid (Ext (wr.alloc (.cells #[.int .i64 A, .int .i64 B, .int .i64 N, .int .i64 D, .int .i64 Lo, .int .i64 Hi] 24)) w15) := E14.out.trans x15
              go_wp2_with (first | (go_at_call 21; refine (num_any _ _).mono ?_; rintro e wx ⟨rfl, hwx⟩; have hwy := hwx.symm; clear hwx; subst hwy) | (go_at_call 10; refine (may_any _ _).mono ?_; rintro e wx ⟨rfl, hwx⟩; have hwy := hwx.symm; clear hwx; subst hwy))
              refine (HFn.out _).mono ?_
              rintro e w16 ⟨⟨r16, rfl, i16⟩, x16⟩
              have E16 : Hid (Ext (wr.alloc (.cells #[.int .i64 A, .int .i64 B, .int .i64 N, .int .i64 D, .int .i64 Lo, .int .i64 Hi] 24)) w16) := E15.out.trans x16
              go_wp2_with (first | (go_at_call 21; refine (num_any _ _).mono ?_; rintro e wx ⟨rfl, hwx⟩; have hwy := hwx.symm; clear hwx; subst hwy) | (go_at_call 10; refine (may_any _ _).mono ?_; rintro e wx ⟨rfl, hwx⟩; have hwy := hwx.symm; clear hwx; subst hwy))
              refine (HC2.out _ _ _ (i15.ext x16) i16).mono ?_
              rintro e w17 ⟨rfl, x17⟩
              have E17 : Hid (Ext (wr.alloc (.cells #[.int .i64 A, .int .i64 B, .int .i64 N, .int .i64 D, .int .i64 Lo, .int .i64 Hi] 24)) w17) := E16.out.trans x17
              clear x8 x9 x10 x11 x12 x13 x14 x15 x16 x17 E7 E8 E9 E10 E11 E12 E13 E14 E15 E16 i8 i9 i10 i11 i13 i14 i15 i16 HFv HFv1 HT1 HT2 HC1 HC2 cA cB
              go_wp2_with fail
              refine (HO.out _).mono ?_
              rintro e w18 ⟨⟨X, rfl, n1, n2⟩, x18⟩
              have E18 : Hid (Ext (wr.alloc (.cells #[.int .i64 A, .int .i64 B, .int .i64 N, .int .i64 D, .int .i64 Lo, .int .i64 Hi] 24)) w18) := E17.out.trans x18
              obtain ⟨f1, f2⟩ := near_int n.toNat X n1
              rw [Int.toNat_of_nonneg hn2] at f1 f2
              obtain ⟨x, hx1⟩ : ∃ x : Int, (X : Int) = x := ⟨_, rfl⟩
              have x0 : 0 ≤ x := by rw [← hx1]; exact Int.natCast_nonneg _
              rw [hx1] at f1 f2 n2 ⊢
              clear hx1 n1 x18 E17 HO
              obtain ⟨U, hU, hU0, hU1⟩ : ∃ U : Int, Hid (x * 2 ^ 1 + 1 = U) ∧ 0 ≤ U ∧ U ≤ 549755813889 := ⟨x * 2 ^ 1 + 1, rfl, by omega, by omega⟩
              obtain ⟨L, hL, hL0, hL1⟩ : ∃ L : Int, Hid (x * 2 ^ 1 - 1 = L) ∧ -1 ≤ L ∧ L ≤ 549755813889 := ⟨x * 2 ^ 1 - 1, rfl, by omega, by omega⟩
              obtain ⟨F, hF, hF0, hF1⟩ : ∃ F : Int, Hid (n * 2 ^ 32 = F) ∧ 0 ≤ F ∧ F < 151115727451828646838272 := ⟨n * 2 ^ 32, rfl, by omega, by omega⟩
              have eU : 2 * x + 1 = U := by have := hU.out; omega
              have eL : 2 * x - 1 = L := by have := hL.out; omega
              rw [hF.out, eU] at f1
              rw [hF.out, eL] at f2
              clear eU eL
              have bU := sq_bound U 549755813889 hU0 hU1
              have bL : 0 ≤ L * L ∧ L * L ≤ 549755813889 * 549755813889 := by
                by_cases h : 0 ≤ L
                · exact sq_bound L 549755813889 h hL1
                · obtain rfl : L = -1 := by omega
                  decide
              have HFx : Hid (∀ w, Calls Try.prog 32 #[.int .i64 x] w fun e w' => (∃ r, e = .returned r ∧ IsI w' r x) ∧ Ext w w') := fun w => from_any x w (by omega) (by omega)
              have HLx : Hid (∀ a w', IsI w' a x → Calls Try.prog 34 #[a, .int .i64 1] w' fun e w'' => (∃ r', e = .returned r' ∧ IsI w'' r' (x * 2 ^ 1)) ∧ Ext w' w'') := fun a w' ha => left_isI x 1 a w' ha (smallI_of _ (by omega) (by omega)) (by omega) (smallI_of _ (by omega) (by omega))
              have HLn : Hid (∀ a w', IsI w' a n → Calls Try.prog 34 #[a, .int .i64 32] w' fun e w'' => (∃ r', e = .returned r' ∧ IsI w'' r' F) ∧ Ext w' w'') := by
                intro a w' ha
                have h := left_isI n 32 a w' ha (smallI_of _ (by omega) (by omega)) (by omega) (smallI_of _ (by omega) (by omega))
                rw [hF.out] at h
                exact h
              have HPU : Hid (∀ a b w', IsI w' a (x * 2 ^ 1) → IsI w' b 1 → Calls Try.prog 33 #[a, b] w' fun e w'' => (∃ r', e = .returned r' ∧ IsI w'' r' U) ∧ Ext w' w'') := by
                intro a b w' ha hb
                have h := plus_isI (x * 2 ^ 1) 1 a b w' ha hb (smallI_of _ (by omega) (by omega)) (smallI_of _ (by omega) (by omega)) (smallI_of _ (by omega) (by omega))
                rw [hU.out] at h
                exact h
              have HLL : Hid (∀ a b w', IsI w' a (x * 2 ^ 1) → IsI w' b 1 → Calls Try.prog 35 #[a, b] w' fun e w'' => (∃ r', e = .returned r' ∧ IsI w'' r' L) ∧ Ext w' w'') := by
                intro a b w' ha hb
                have h := less_isI (x * 2 ^ 1) 1 a b w' ha hb (smallI_of _ (by omega) (by omega)) (smallI_of _ (by omega) (by omega)) (smallI_of _ (by omega) (by omega))
                rw [hL.out] at h
                exact h
              have HTU : Hid (∀ a b w', IsI w' a U → IsI w' b U → Calls Try.prog 31 #[a, b] w' fun e w'' => (∃ r', e = .returned r' ∧ IsI w'' r' (U * U)) ∧ Ext w' w'') := fun a b w' ha hb => times_isI U U a b w' ha hb (smallI_of _ (by omega) (by omega)) (smallI_of _ (by omega) (by omega)) (smallI_of _ (by omega) (by omega))
              have HTL : Hid (∀ a b w', IsI w' a L → IsI w' b L → Calls Try.prog 31 #[a, b] w' fun e w'' => (∃ r', e = .returned r' ∧ IsI w'' r' (L * L)) ∧ Ext w' w'') := fun a b w' ha hb => times_isI L L a b w' ha hb (smallI_of _ (by omega) (by omega)) (smallI_of _ (by omega) (by omega)) (smallI_of _ (by omega) (by omega))
              obtain ⟨cu, HCU, hcu⟩ : ∃ c : Int, Hid (∀ a b w', IsI w' a (U * U) → IsI w' b F → Calls Try.prog 30 #[a, b] w' fun e w'' => e = .returned (.int .i64 c) ∧ Ext w' w'') ∧ 0 ≤ c := ⟨_, fun a b w' ha hb => cmp_isI (U * U) F a b w' ha hb (smallI_of _ (by omega) (by omega)) (smallI_of _ (by omega) (by omega)) (smallI_of _ (by omega) (by omega)), sgn_nonneg (by omega)⟩
              obtain ⟨cl, HCL, hcl⟩ : ∃ c : Int, Hid (∀ a b w', IsI w' a (L * L) → IsI w' b F → Calls Try.prog 30 #[a, b] w' fun e w'' => e = .returned (.int .i64 c) ∧ Ext w' w'') ∧ (0 < x → c ≤ 0) := ⟨_, fun a b w' ha hb => cmp_isI (L * L) F a b w' ha hb (smallI_of _ (by omega) (by omega)) (smallI_of _ (by omega) (by omega)) (smallI_of _ (by omega) (by omega)), fun h => sgn_nonpos (by have := f2 h; omega)⟩
              have hclH : Hid (0 < x → cl ≤ 0) := hcl
              clear f1 f2 bU bL hU hL hF hcl hU0 hU1 hL0 hL1 hF0 hF1
              go_wp2_with (first | (go_at_call 21; refine (num_any _ _).mono ?_; rintro e wx ⟨rfl, hwx⟩; have hwy := hwx.symm; clear hwx; subst hwy) | (go_at_call 10; refine (may_any _ _).mono ?_; rintro e wx ⟨rfl, hwx⟩; have hwy := hwx.symm; clear hwx; subst hwy))
              refine (HFx.out _).mono ?_
              rintro e w19 ⟨⟨r19, rfl, i19⟩, x19⟩
              have E19 : Hid (Ext (wr.alloc (.cells #[.int .i64 A, .int .i64 B, .int .i64 N, .int .i64 D, .int .i64 Lo, .int .i64 Hi] 24)) w19) := E18.out.trans x19
              go_wp2_with (first | (go_at_call 21; refine (num_any _ _).mono ?_; rintro e wx ⟨rfl, hwx⟩; have hwy := hwx.symm; clear hwx; subst hwy) | (go_at_call 10; refine (may_any _ _).mono ?_; rintro e wx ⟨rfl, hwx⟩; have hwy := hwx.symm; clear hwx; subst hwy))
              refine (HLx.out _ _ i19).mono ?_
              rintro e w20 ⟨⟨r20, rfl, i20⟩, x20⟩
              have E20 : Hid (Ext (wr.alloc (.cells #[.int .i64 A, .int .i64 B, .int .i64 N, .int .i64 D, .int .i64 Lo, .int .i64 Hi] 24)) w20) := E19.out.trans x20
              go_wp2_with (first | (go_at_call 21; refine (num_any _ _).mono ?_; rintro e wx ⟨rfl, hwx⟩; have hwy := hwx.symm; clear hwx; subst hwy) | (go_at_call 10; refine (may_any _ _).mono ?_; rintro e wx ⟨rfl, hwx⟩; have hwy := hwx.symm; clear hwx; subst hwy))
              refine (HF1.out _).mono ?_
              rintro e w21 ⟨⟨r21, rfl, i21⟩, x21⟩
              have E21 : Hid (Ext (wr.alloc (.cells #[.int .i64 A, .int .i64 B, .int .i64 N, .int .i64 D, .int .i64 Lo, .int .i64 Hi] 24)) w21) := E20.out.trans x21
              go_wp2_with (first | (go_at_call 21; refine (num_any _ _).mono ?_; rintro e wx ⟨rfl, hwx⟩; have hwy := hwx.symm; clear hwx; subst hwy) | (go_at_call 10; refine (may_any _ _).mono ?_; rintro e wx ⟨rfl, hwx⟩; have hwy := hwx.symm; clear hwx; subst hwy))
              refine (HPU.out _ _ _ (i20.ext x21) i21).mono ?_
              rintro e w22 ⟨⟨r22, rfl, i22⟩, x22⟩
              have E22 : Hid (Ext (wr.alloc (.cells #[.int .i64 A, .int .i64 B, .int .i64 N, .int .i64 D, .int .i64 Lo, .int .i64 Hi] 24)) w22) := E21.out.trans x22
              obtain ⟨uu, hru, hu⟩ := i22
              obtain ⟨au, lu, ku, hau⟩ := hu.isSlice
              subst hau
              subst hru
              have IU : Hid (IsI w22 (.agg #[.bool (decide (U < 0)), .slice au lu ku]) U) := ⟨_, rfl, hu⟩
              generalize decide (U < 0) = du at *
              clear hu x19 x20 x21 x22 i19 i20 i21 E18 E19 E20 E21
              go_wp2_with fail
              refine (HFx.out _).mono ?_
              rintro e w23 ⟨⟨r23, rfl, i23⟩, x23⟩
              go_wp2_with fail
              refine (HLx.out _ _ i23).mono ?_
              rintro e w24 ⟨⟨r24, rfl, i24⟩, x24⟩
              go_wp2_with fail
              refine (HF1.out _).mono ?_
              rintro e w25 ⟨⟨r25, rfl, i25⟩, x25⟩
              go_wp2_with fail
              refine (HLL.out _ _ _ (i24.ext x25) i25).mono ?_
              rintro e w26 ⟨⟨r26, rfl, i26⟩, x26⟩
              obtain ⟨ul, hrl, hl2⟩ := i26
              obtain ⟨al, ll, kl, hal⟩ := hl2.isSlice
              subst hal
              subst hrl
              have IL : Hid (IsI w26 (.agg #[.bool (decide (L < 0)), .slice al ll kl]) L) := ⟨_, rfl, hl2⟩
              generalize decide (L < 0) = dl at *
              have Y1 := ((x23.trans x24).trans x25).trans x26
              have cu1 := Y1.cells2
              have Y1' : Hid (Ext w22 w26) := ((Ext.refl w22).alloc _).trans Y1
              have CU1 : Hid _ := cu1
              clear hl2 x23 x24 x25 x26 i23 i24 i25 Y1 cu1
              go_wp2_with fail
              refine (HFn.out _).mono ?_
              rintro e w27 ⟨⟨r27, rfl, i27⟩, x27⟩
              go_wp2_with fail
              refine (HLn.out _ _ i27).mono ?_
              rintro e w28 ⟨⟨r28, rfl, i28⟩, x28⟩
              obtain ⟨uf, hrf, hf2⟩ := i28
              obtain ⟨af, lf, kf, haf⟩ := hf2.isSlice
              subst haf
              subst hrf
              have IF : Hid (IsI w28 (.agg #[.bool (decide (F < 0)), .slice af lf kf]) F) := ⟨_, rfl, hf2⟩
              generalize decide (F < 0) = df at *
              have Y2 := x27.trans x28
              have cl1 := Y2.cells2
              have Y2' : Hid (Ext w26 w28) := ((Ext.refl w26).alloc _).trans Y2
              have H6 : Hid (Held6 (w28.alloc (.cells #[.bool df, .slice af lf kf] 44)) w22.heap.size w26.heap.size w28.heap.size du dl df (.slice au lu ku) (.slice al ll kl) (.slice af lf kf)) := held6_start CU1.out cl1 Y2'.out
              have IU' : Hid (IsI (w28.alloc (.cells #[.bool df, .slice af lf kf] 44)) (.agg #[.bool du, .slice au lu ku]) U) := IU.out.ext ((Y1'.out.trans Y2'.out).alloc _)
              have IL' : Hid (IsI (w28.alloc (.cells #[.bool df, .slice af lf kf] 44)) (.agg #[.bool dl, .slice al ll kl]) L) := IL.out.ext (Y2'.out.alloc _)
              have IF' : Hid (IsI (w28.alloc (.cells #[.bool df, .slice af lf kf] 44)) (.agg #[.bool df, .slice af lf kf]) F) := IF.out.ext ((Ext.refl _).alloc _)
              have XZ : Hid (Ext w (w28.alloc (.cells #[.bool df, .slice af lf kf] 44))) := (((hx.alloc _).trans E22.out).trans (Y1'.out.trans Y2'.out)).alloc _
              clear hf2 x27 x28 i27 Y2 cl1 IU IL IF Y1' Y2' CU1 E22 HFx HLx HF1 HPU HLL HFn HLn
              have hcuB : decide (cu < 0) = false := by simpa using hcu
              by_cases hxp : 0 < x
              · have hcl2 : cl ≤ 0 := hclH.out hxp
                have hclB : decide (0 < cl) = false := by simpa using hcl2
                have hxd : decide (0 < x) = true := by simpa using hxp
                as_aux_lemma =>
                  go_wp2_with fail
                  generalize w28.alloc (.cells #[.bool df, .slice af lf kf] 44) = Wz at *
                  obtain ⟨p0, p1, p2, p3, p4, p5⟩ := H6.out
                  go_region_held (fun w' => w'.cell? ⟨w22.heap.size, 0, none⟩ = some (.bool du) ∧ w'.cell? ⟨w22.heap.size, 1, none⟩ = some (.slice au lu ku) ∧ w'.cell? ⟨w26.heap.size, 0, none⟩ = some (.bool dl) ∧ w'.cell? ⟨w26.heap.size, 1, none⟩ = some (.slice al ll kl) ∧ w'.cell? ⟨w28.heap.size, 0, none⟩ = some (.bool df) ∧ w'.cell? ⟨w28.heap.size, 1, none⟩ = some (.slice af lf kf)) (go_keep) (first | (go_at_call 21; refine (num_any _ _).mono ?_; rintro e wx ⟨rfl, hwx⟩; have hwy := hwx.symm; clear hwx; subst hwy) | (go_at_call_of 31 (Value.agg #[Value.bool du, Value.slice au lu ku]); refine (HTU.out _ _ _ (IU'.out.ext (Ext.refl _).drew) (IU'.out.ext (Ext.refl _).drew)).mono ?_; rintro e w31 ⟨⟨r31, rfl, i31⟩, x31⟩; obtain ⟨q0, q1, q2, q3, q4, q5⟩ := H6.out.ext (cell_drew x31)) | (go_at_call_of 30 r31; refine (HCU.out _ _ _ i31 (IF'.out.ext (cell_drew x31))).mono ?_; rintro e w32 ⟨rfl, x32⟩; obtain ⟨t0, t1, t2, t3, t4, t5⟩ := H6.out.ext ((cell_drew x31).trans x32)) | (go_at_call_of 31 (Value.agg #[Value.bool dl, Value.slice al ll kl]); refine (HTL.out _ _ _ (IL'.out.ext ((cell_drew x31).trans x32)) (IL'.out.ext ((cell_drew x31).trans x32))).mono ?_; rintro e w33 ⟨⟨r33, rfl, i33⟩, x33⟩; obtain ⟨z0, z1, z2, z3, z4, z5⟩ := H6.out.ext (((cell_drew x31).trans x32).trans x33)) | (go_at_call_of 30 r33; refine (HCL.out _ _ _ i33 (IF'.out.ext (((cell_drew x31).trans x32).trans x33))).mono ?_; rintro e w34 ⟨rfl, x34⟩; obtain ⟨y0, y1, y2, y3, y4, y5⟩ := H6.out.ext ((((cell_drew x31).trans x32).trans x33).trans x34)))
                  have XF : Hid (Ext w w34) := XZ.out.trans ((((cell_drew x31).trans x32).trans x33).trans x34)
                  go_wp2_with fail
                  go_roundw
                  case rel => exact ⟨k + 1, by omega, by go_num, XF.out⟩
                  case measure => simp [intOf]; omega
              · have hxd : decide (0 < x) = false := by simpa using hxp
                as_aux_lemma =>
                  go_wp2_with fail
                  generalize w28.alloc (.cells #[.bool df, .slice af lf kf] 44) = Wz at *
                  obtain ⟨p0, p1, p2, p3, p4, p5⟩ := H6.out
                  refine wp_region_held_drew (S := (fun w' => w'.cell? ⟨w22.heap.size, 0, none⟩ = some (.bool du) ∧ w'.cell? ⟨w22.heap.size, 1, none⟩ = some (.slice au lu ku) ∧ w'.cell? ⟨w26.heap.size, 0, none⟩ = some (.bool dl) ∧ w'.cell? ⟨w26.heap.size, 1, none⟩ = some (.slice al ll kl) ∧ w'.cell? ⟨w28.heap.size, 0, none⟩ = some (.bool df) ∧ w'.cell? ⟨w28.heap.size, 1, none⟩ = some (.slice af lf kf))) (by kernel_rfl) ?_ (fun hHeld => ?_)
                  · ((try dsimp only); go_keep)
                  refine wpAnyH_take (i := 0) (oi := { dst := some 196, op := Op.move (Operand.tmp 21), type := 25, pos := "law.go:151", after := #[], guard := none }) (v := .int .i64 0) rfl (by kernel_rfl) (by kernel_rfl) (by kernel_rfl) (fun _ _ _ h => h) (Or.inl ⟨by rfl, ?_⟩) (by assumption) ?_
                  · (intro w hSw; (try dsimp only at hSw); go_simp)
                  simp only [Act.put, List.setIfInBounds_toArray, List.set_cons_zero, List.set_cons_succ]
                  refine wpAnyH_ready (rs := [1]) (by kernel_rfl) (by simp) ?_
                  refine AllReadyH.cons rfl (fun K hK => ?_) AllReadyH.nil
                  go_simp
                  go_wp2_with (first | (go_at_call 21; refine (num_any _ _).mono ?_; rintro e wx ⟨rfl, hwx⟩; have hwy := hwx.symm; clear hwx; subst hwy) | (go_at_call_of 31 (Value.agg #[Value.bool du, Value.slice au lu ku]); refine (HTU.out _ _ _ (IU'.out.ext (Ext.refl _).drew) (IU'.out.ext (Ext.refl _).drew)).mono ?_; rintro e w31 ⟨⟨r31, rfl, i31⟩, x31⟩; obtain ⟨q0, q1, q2, q3, q4, q5⟩ := H6.out.ext (cell_drew x31)) | (go_at_call_of 30 r31; refine (HCU.out _ _ _ i31 (IF'.out.ext (cell_drew x31))).mono ?_; rintro e w32 ⟨rfl, x32⟩; obtain ⟨t0, t1, t2, t3, t4, t5⟩ := H6.out.ext ((cell_drew x31).trans x32)))
                  refine hK.out _ _ ?_ (fun hHeld => ?_)
                  · ((try dsimp only); go_keep)
                  clear hK K
                  refine wpAnyH_take (i := 2) (oi := { dst := some 198, op := Op.binOp BinOp.neq 3 (Operand.tmp 197) (Operand.const (Value.int IntKind.i64 0)) 3, type := 4, pos := "law.go:151", after := #[{ on := 1, ground := Ground.data }], guard := none }) (v := .bool false) rfl (by kernel_rfl) (by kernel_rfl) (by kernel_rfl) (fun _ _ _ h => h) (Or.inl ⟨by rfl, ?_⟩) (by assumption) ?_
                  · (intro w hSw; (try dsimp only at hSw); go_simp)
                  simp only [Act.put, List.setIfInBounds_toArray, List.set_cons_zero, List.set_cons_succ]
                  refine wpAnyH_take (i := 3) (oi := { dst := some 199, op := Op.move (Operand.tmp 198), type := 4, pos := "law.go:151", after := #[{ on := 2, ground := Ground.data }, { on := 1, ground := Ground.chain }], guard := none }) (v := .bool false) rfl (by kernel_rfl) (by kernel_rfl) (by kernel_rfl) (fun _ _ _ h => h) (Or.inl ⟨by rfl, ?_⟩) (by assumption) ?_
                  · (intro w hSw; (try dsimp only at hSw); go_simp)
                  simp only [Act.put, List.setIfInBounds_toArray, List.set_cons_zero, List.set_cons_succ]
                  refine wpAnyH_take (i := 4) (oi := { dst := some 200, op := Op.load 44 (Operand.tmp 22), type := 44, pos := "law.go:151", after := #[{ on := 3, ground := Ground.guard }], guard := some (3, false) }) (v := .agg #[.bool du, .slice au lu ku]) rfl (by kernel_rfl) (by kernel_rfl) (by kernel_rfl) (fun _ _ _ h => h) (Or.inl ⟨by rfl, ?_⟩) (by assumption) ?_
                  · (intro w hSw; (try dsimp only at hSw); go_simp)
                  simp only [Act.put, List.setIfInBounds_toArray, List.set_cons_zero, List.set_cons_succ]
                  refine wpAnyH_take (i := 5) (oi := { dst := some 201, op := Op.load 44 (Operand.tmp 22), type := 44, pos := "law.go:151", after := #[{ on := 3, ground := Ground.guard }], guard := some (3, false) }) (v := .agg #[.bool du, .slice au lu ku]) rfl (by kernel_rfl) (by kernel_rfl) (by kernel_rfl) (fun _ _ _ h => h) (Or.inl ⟨by rfl, ?_⟩) (by assumption) ?_
                  · (intro w hSw; (try dsimp only at hSw); go_simp)
                  simp only [Act.put, List.setIfInBounds_toArray, List.set_cons_zero, List.set_cons_succ]
                  refine wpAnyH_take (i := 7) (oi := { dst := some 203, op := Op.load 44 (Operand.tmp 24), type := 44, pos := "law.go:151", after := #[{ on := 3, ground := Ground.guard }], guard := some (3, false) }) (v := .agg #[.bool df, .slice af lf kf]) rfl (by kernel_rfl) (by kernel_rfl) (by kernel_rfl) (fun _ _ _ h => h) (Or.inl ⟨by rfl, ?_⟩) (by assumption) ?_
                  · (intro w hSw; (try dsimp only at hSw); go_simp)
                  simp only [Act.put, List.setIfInBounds_toArray, List.set_cons_zero, List.set_cons_succ]
                  refine wpAnyH_ready (rs := [6]) (by kernel_rfl) (by simp) ?_
                  refine AllReadyH.cons rfl (fun K hK => ?_) AllReadyH.nil
                  go_simp
                  go_wp2_with (first | (go_at_call 21; refine (num_any _ _).mono ?_; rintro e wx ⟨rfl, hwx⟩; have hwy := hwx.symm; clear hwx; subst hwy) | (go_at_call_of 31 (Value.agg #[Value.bool du, Value.slice au lu ku]); refine (HTU.out _ _ _ (IU'.out.ext (Ext.refl _).drew) (IU'.out.ext (Ext.refl _).drew)).mono ?_; rintro e w31 ⟨⟨r31, rfl, i31⟩, x31⟩; obtain ⟨q0, q1, q2, q3, q4, q5⟩ := H6.out.ext (cell_drew x31)) | (go_at_call_of 30 r31; refine (HCU.out _ _ _ i31 (IF'.out.ext (cell_drew x31))).mono ?_; rintro e w32 ⟨rfl, x32⟩; obtain ⟨t0, t1, t2, t3, t4, t5⟩ := H6.out.ext ((cell_drew x31).trans x32)))
                  refine hK.out _ _ ?_ (fun hHeld => ?_)
                  · ((try dsimp only); go_keep)
                  clear hK K
                  refine wpAnyH_ready (rs := [8]) (by kernel_rfl) (by simp) ?_
                  refine AllReadyH.cons rfl (fun K hK => ?_) AllReadyH.nil
                  go_simp
                  go_wp2_with (first | (go_at_call 21; refine (num_any _ _).mono ?_; rintro e wx ⟨rfl, hwx⟩; have hwy := hwx.symm; clear hwx; subst hwy) | (go_at_call_of 31 (Value.agg #[Value.bool du, Value.slice au lu ku]); refine (HTU.out _ _ _ (IU'.out.ext (Ext.refl _).drew) (IU'.out.ext (Ext.refl _).drew)).mono ?_; rintro e w31 ⟨⟨r31, rfl, i31⟩, x31⟩; obtain ⟨q0, q1, q2, q3, q4, q5⟩ := H6.out.ext (cell_drew x31)) | (go_at_call_of 30 r31; refine (HCU.out _ _ _ i31 (IF'.out.ext (cell_drew x31))).mono ?_; rintro e w32 ⟨rfl, x32⟩; obtain ⟨t0, t1, t2, t3, t4, t5⟩ := H6.out.ext ((cell_drew x31).trans x32)))
                  refine hK.out _ _ ?_ (fun hHeld => ?_)
                  · ((try dsimp only); go_keep)
                  clear hK K
                  refine wpAnyH_take (i := 9) (oi := { dst := some 205, op := Op.binOp BinOp.lss 3 (Operand.tmp 204) (Operand.const (Value.int IntKind.i64 0)) 3, type := 4, pos := "law.go:151", after := #[{ on := 8, ground := Ground.data }, { on := 3, ground := Ground.guard }], guard := some (3, false) }) (v := .bool false) rfl (by kernel_rfl) (by kernel_rfl) (by kernel_rfl) (fun _ _ _ h => h) (Or.inl ⟨by rfl, ?_⟩) (by assumption) ?_
                  · (intro w hSw; (try dsimp only at hSw); go_simp)
                  simp only [Act.put, List.setIfInBounds_toArray, List.set_cons_zero, List.set_cons_succ]
                  refine wpAnyH_take (i := 10) (oi := { dst := some 206, op := Op.pick (Operand.tmp 199) (Operand.const (Value.bool true)) (Operand.tmp 205), type := 4, pos := "law.go:151", after := #[{ on := 3, ground := Ground.data }, { on := 9, ground := Ground.data }], guard := none }) (v := .bool false) rfl (by kernel_rfl) (by kernel_rfl) (by kernel_rfl) (fun _ _ _ h => h) (Or.inl ⟨by rfl, ?_⟩) (by assumption) ?_
                  · (intro w hSw; (try dsimp only at hSw); go_simp)
                  simp only [Act.put, List.setIfInBounds_toArray, List.set_cons_zero, List.set_cons_succ]
                  refine wpAnyH_take (i := 11) (oi := { dst := some 207, op := Op.move (Operand.tmp 206), type := 4, pos := "law.go:151", after := #[{ on := 10, ground := Ground.data }, { on := 8, ground := Ground.chain }], guard := none }) (v := .bool false) rfl (by kernel_rfl) (by kernel_rfl) (by kernel_rfl) (fun _ _ _ h => h) (Or.inl ⟨by rfl, ?_⟩) (by assumption) ?_
                  · (intro w hSw; (try dsimp only at hSw); go_simp)
                  simp only [Act.put, List.setIfInBounds_toArray, List.set_cons_zero, List.set_cons_succ]
                  refine wpAnyH_take (i := 12) (oi := { dst := some 208, op := Op.move (Operand.tmp 20), type := 2, pos := "law.go:151", after := #[{ on := 11, ground := Ground.guard }], guard := some (11, false) }) (v := .int .i64 x) rfl (by kernel_rfl) (by kernel_rfl) (by kernel_rfl) (fun _ _ _ h => h) (Or.inl ⟨by rfl, ?_⟩) (by assumption) ?_
                  · (intro w hSw; (try dsimp only at hSw); go_simp)
                  simp only [Act.put, List.setIfInBounds_toArray, List.set_cons_zero, List.set_cons_succ]
                  refine wpAnyH_take (i := 13) (oi := { dst := some 209, op := Op.binOp BinOp.gtr 2 (Operand.tmp 208) (Operand.const (Value.int IntKind.i64 0)) 2, type := 4, pos := "law.go:151", after := #[{ on := 12, ground := Ground.data }, { on := 11, ground := Ground.guard }], guard := some (11, false) }) (v := .bool false) rfl (by kernel_rfl) (by kernel_rfl) (by kernel_rfl) (fun _ _ _ h => h) (Or.inl ⟨by rfl, ?_⟩) (by assumption) ?_
                  · (intro w hSw; (try dsimp only at hSw); go_simp)
                  simp only [Act.put, List.setIfInBounds_toArray, List.set_cons_zero, List.set_cons_succ]
                  refine wpAnyH_take (i := 14) (oi := { dst := some 210, op := Op.move (Operand.tmp 209), type := 4, pos := "law.go:151", after := #[{ on := 13, ground := Ground.data }, { on := 11, ground := Ground.chain }, { on := 11, ground := Ground.guard }], guard := some (11, false) }) (v := .bool false) rfl (by kernel_rfl) (by kernel_rfl) (by kernel_rfl) (fun _ _ _ h => h) (Or.inl ⟨by rfl, ?_⟩) (by assumption) ?_
                  · (intro w hSw; (try dsimp only at hSw); go_simp)
                  simp only [Act.put, List.setIfInBounds_toArray, List.set_cons_zero, List.set_cons_succ]
                  refine wpAnyH_take (i := 15) (oi := { dst := some 211, op := Op.load 44 (Operand.tmp 23), type := 44, pos := "law.go:151", after := #[{ on := 14, ground := Ground.guard }], guard := some (14, true) }) (v := undef) rfl (by kernel_rfl) (by kernel_rfl) (by kernel_rfl) (fun _ _ _ h => h) (Or.inr ⟨by rfl, rfl⟩) (by assumption) ?_
                  simp only [Act.put, List.setIfInBounds_toArray, List.set_cons_zero, List.set_cons_succ]
                  refine wpAnyH_take (i := 16) (oi := { dst := some 212, op := Op.load 44 (Operand.tmp 23), type := 44, pos := "law.go:151", after := #[{ on := 14, ground := Ground.guard }], guard := some (14, true) }) (v := undef) rfl (by kernel_rfl) (by kernel_rfl) (by kernel_rfl) (fun _ _ _ h => h) (Or.inr ⟨by rfl, rfl⟩) (by assumption) ?_
                  simp only [Act.put, List.setIfInBounds_toArray, List.set_cons_zero, List.set_cons_succ]
                  refine wpAnyH_take (i := 17) (oi := { dst := some 213, op := Op.call { callee := Callee.value (Operand.func 31), args := #[Operand.tmp 211, Operand.tmp 212], argTypes := #[44, 44] }, type := 44, pos := "law.go:151", after := #[{ on := 15, ground := Ground.data }, { on := 16, ground := Ground.data }, { on := 14, ground := Ground.chain }, { on := 14, ground := Ground.guard }], guard := some (14, true) }) (v := undef) rfl (by kernel_rfl) (by kernel_rfl) (by kernel_rfl) (fun _ _ _ h => h) (Or.inr ⟨by rfl, rfl⟩) (by assumption) ?_
                  simp only [Act.put, List.setIfInBounds_toArray, List.set_cons_zero, List.set_cons_succ]
                  refine wpAnyH_take (i := 18) (oi := { dst := some 214, op := Op.load 44 (Operand.tmp 24), type := 44, pos := "law.go:151", after := #[{ on := 14, ground := Ground.guard }], guard := some (14, true) }) (v := undef) rfl (by kernel_rfl) (by kernel_rfl) (by kernel_rfl) (fun _ _ _ h => h) (Or.inr ⟨by rfl, rfl⟩) (by assumption) ?_
                  simp only [Act.put, List.setIfInBounds_toArray, List.set_cons_zero, List.set_cons_succ]
                  refine wpAnyH_take (i := 19) (oi := { dst := some 215, op := Op.call { callee := Callee.value (Operand.func 30), args := #[Operand.tmp 213, Operand.tmp 214], argTypes := #[44, 44] }, type := 3, pos := "law.go:151", after := #[{ on := 17, ground := Ground.data }, { on := 18, ground := Ground.data }, { on := 17, ground := Ground.chain }, { on := 14, ground := Ground.guard }], guard := some (14, true) }) (v := undef) rfl (by kernel_rfl) (by kernel_rfl) (by kernel_rfl) (fun _ _ _ h => h) (Or.inr ⟨by rfl, rfl⟩) (by assumption) ?_
                  simp only [Act.put, List.setIfInBounds_toArray, List.set_cons_zero, List.set_cons_succ]
                  refine wpAnyH_take (i := 20) (oi := { dst := some 216, op := Op.binOp BinOp.gtr 3 (Operand.tmp 215) (Operand.const (Value.int IntKind.i64 0)) 3, type := 4, pos := "law.go:151", after := #[{ on := 19, ground := Ground.data }, { on := 14, ground := Ground.guard }], guard := some (14, true) }) (v := undef) rfl (by kernel_rfl) (by kernel_rfl) (by kernel_rfl) (fun _ _ _ h => h) (Or.inr ⟨by rfl, rfl⟩) (by assumption) ?_
                  simp only [Act.put, List.setIfInBounds_toArray, List.set_cons_zero, List.set_cons_succ]
                  refine wpAnyH_take (i := 21) (oi := { dst := some 217, op := Op.pick (Operand.tmp 210) (Operand.tmp 216) (Operand.const (Value.bool false)), type := 4, pos := "law.go:151", after := #[{ on := 14, ground := Ground.data }, { on := 20, ground := Ground.data }, { on := 11, ground := Ground.guard }], guard := some (11, false) }) (v := .bool false) rfl (by kernel_rfl) (by kernel_rfl) (by kernel_rfl) (fun _ _ _ h => h) (Or.inl ⟨by rfl, ?_⟩) (by assumption) ?_
                  · (intro w hSw; (try dsimp only at hSw); go_simp)
                  simp only [Act.put, List.setIfInBounds_toArray, List.set_cons_zero, List.set_cons_succ]
                  refine wpAnyH_take (i := 22) (oi := { dst := some 218, op := Op.pick (Operand.tmp 207) (Operand.const (Value.bool true)) (Operand.tmp 217), type := 4, pos := "law.go:151", after := #[{ on := 11, ground := Ground.data }, { on := 21, ground := Ground.data }], guard := none }) (v := .bool false) rfl (by kernel_rfl) (by kernel_rfl) (by kernel_rfl) (fun _ _ _ h => h) (Or.inl ⟨by rfl, ?_⟩) (by assumption) ?_
                  · (intro w hSw; (try dsimp only at hSw); go_simp)
                  simp only [Act.put, List.setIfInBounds_toArray, List.set_cons_zero, List.set_cons_succ]
                  refine wpAnyH_done (by kernel_rfl) ?_ _
                  have XF : Hid (Ext w w32) := XZ.out.trans ((cell_drew x31).trans x32)
                  go_wp2_with fail
                  go_roundw
                  case rel => exact ⟨k + 1, by omega, by go_num, XF.out⟩
                  case measure => simp [intOf]; omega
            · have HA : Hid (∀ w, Calls Try.prog 20 #[.int .i64 A, .int .i64 B] w fun e w' => e = .returned (.tuple #[.int .i64 (A + B), .int .i64 0]) ∧ Ext w w') := fun w => add_is (addR_yes hA hB hs) w
              have HB : Hid (∀ w, Calls Try.prog 23 #[.int .i64 (A + B), .int .i64 B] w fun e w' => e = .returned (.tuple #[.int .i64 A, .int .i64 0]) ∧ Ext w w') := fun w => sub_is (subR_back hA hB hs) w
              go_wp2_with (first | (go_at_call 21; refine (num_any _ _).mono ?_; rintro e wx ⟨rfl, hwx⟩; have hwy := hwx.symm; clear hwx; subst hwy) | (go_at_call 10; refine (may_any _ _).mono ?_; rintro e wx ⟨rfl, hwx⟩; have hwy := hwx.symm; clear hwx; subst hwy))
              refine (HA.out _).mono ?_
              rintro e w5 ⟨rfl, x5⟩
              have E5 : Hid (Ext (wr.alloc (.cells #[.int .i64 A, .int .i64 B, .int .i64 N, .int .i64 D, .int .i64 Lo, .int .i64 Hi] 24)) w5) := E4.out.trans x5
              clear cA cB
              obtain ⟨cA, cB⟩ := E5.out.ab
              go_wp2_with (first | (go_at_call 21; refine (num_any _ _).mono ?_; rintro e wx ⟨rfl, hwx⟩; have hwy := hwx.symm; clear hwx; subst hwy) | (go_at_call 10; refine (may_any _ _).mono ?_; rintro e wx ⟨rfl, hwx⟩; have hwy := hwx.symm; clear hwx; subst hwy))
              refine (HB.out _).mono ?_
              rintro e w6 ⟨rfl, x6⟩
              have E6 : Hid (Ext (wr.alloc (.cells #[.int .i64 A, .int .i64 B, .int .i64 N, .int .i64 D, .int .i64 Lo, .int .i64 Hi] 24)) w6) := E5.out.trans x6
              clear cA cB
              obtain ⟨cA, cB⟩ := E6.out.ab
              clear x5 x6 E4 E5 HA HB hs
              go_wp2_with (first | (go_at_call 21; refine (num_any _ _).mono ?_; rintro e wx ⟨rfl, hwx⟩; have hwy := hwx.symm; clear hwx; subst hwy) | (go_at_call 10; refine (may_any _ _).mono ?_; rintro e wx ⟨rfl, hwx⟩; have hwy := hwx.symm; clear hwx; subst hwy))
              refine (HQ.out _).mono ?_
              rintro e w7 ⟨⟨R, rfl, r1, r2, r3⟩, x7⟩
              have E7 : Hid (Ext (wr.alloc (.cells #[.int .i64 A, .int .i64 B, .int .i64 N, .int .i64 D, .int .i64 Lo, .int .i64 Hi] 24)) w7) := E6.out.trans x7
              clear cA cB
              obtain ⟨cA, cB⟩ := E7.out.ab
              obtain ⟨v, hv⟩ : ∃ v : Int, (R : Int) = v := ⟨_, rfl⟩
              have v0 : 0 ≤ v := by rw [← hv]; exact Int.natCast_nonneg _
              have v1 : v * v ≤ n := by rw [← hv]; simpa using r1
              have v2 : n < (v + 1) * (v + 1) := by rw [← hv]; simpa using r2
              have v3 : v < 274877906944 := by rw [← hv]; exact r3
              have b1 := sq_bound v 274877906944 v0 (by omega)
              have b2 := sq_bound (v + 1) 274877906945 (by omega) (by omega)
              have HFv : Hid (∀ w, Calls Try.prog 32 #[.int .i64 v] w fun e w' => (∃ r, e = .returned r ∧ IsI w' r v) ∧ Ext w w') := fun w => from_any v w (by omega) (by omega)
              have HFv1 : Hid (∀ w, Calls Try.prog 32 #[.int .i64 (v + 1)] w fun e w' => (∃ r, e = .returned r ∧ IsI w' r (v + 1)) ∧ Ext w w') := fun w => from_any (v + 1) w (by omega) (by omega)
              have HT1 : Hid (∀ a b w', IsI w' a v → IsI w' b v → Calls Try.prog 31 #[a, b] w' fun e w'' => (∃ r', e = .returned r' ∧ IsI w'' r' (v * v)) ∧ Ext w' w'') := fun a b w' ha hb => times_isI v v a b w' ha hb (smallI_of _ (by omega) (by omega)) (smallI_of _ (by omega) (by omega)) (smallI_of _ (by omega) (by omega))
              have HT2 : Hid (∀ a b w', IsI w' a (v + 1) → IsI w' b (v + 1) → Calls Try.prog 31 #[a, b] w' fun e w'' => (∃ r', e = .returned r' ∧ IsI w'' r' ((v + 1) * (v + 1))) ∧ Ext w' w'') := fun a b w' ha hb => times_isI (v + 1) (v + 1) a b w' ha hb (smallI_of _ (by omega) (by omega)) (smallI_of _ (by omega) (by omega)) (smallI_of _ (by omega) (by omega))
              obtain ⟨c1, HC1, hc1⟩ : ∃ c : Int, Hid (∀ a b w', IsI w' a (v * v) → IsI w' b n → Calls Try.prog 30 #[a, b] w' fun e w'' => e = .returned (.int .i64 c) ∧ Ext w' w'') ∧ c ≤ 0 := ⟨_, fun a b w' ha hb => cmp_isI (v * v) n a b w' ha hb (smallI_of _ (by omega) (by omega)) (smallI_of _ (by omega) (by omega)) (smallI_of _ (by omega) (by omega)), sgn_nonpos (by omega)⟩
              obtain ⟨c2, HC2, hc2⟩ : ∃ c : Int, Hid (∀ a b w', IsI w' a ((v + 1) * (v + 1)) → IsI w' b n → Calls Try.prog 30 #[a, b] w' fun e w'' => e = .returned (.int .i64 c) ∧ Ext w' w'') ∧ 0 < c := ⟨_, fun a b w' ha hb => cmp_isI ((v + 1) * (v + 1)) n a b w' ha hb (smallI_of _ (by omega) (by omega)) (smallI_of _ (by omega) (by omega)) (smallI_of _ (by omega) (by omega)), sgn_pos (by omega)⟩
              rw [hv]
              clear hv r1 r2 r3 v1 v2 b1 b2 HQ
              go_wp2_with (first | (go_at_call 21; refine (num_any _ _).mono ?_; rintro e wx ⟨rfl, hwx⟩; have hwy := hwx.symm; clear hwx; subst hwy) | (go_at_call 10; refine (may_any _ _).mono ?_; rintro e wx ⟨rfl, hwx⟩; have hwy := hwx.symm; clear hwx; subst hwy))
              refine (HFv.out _).mono ?_
              rintro e w8 ⟨⟨r8, rfl, i8⟩, x8⟩
              have E8 : Hid (Ext (wr.alloc (.cells #[.int .i64 A, .int .i64 B, .int .i64 N, .int .i64 D, .int .i64 Lo, .int .i64 Hi] 24)) w8) := E7.out.trans x8
              go_wp2_with (first | (go_at_call 21; refine (num_any _ _).mono ?_; rintro e wx ⟨rfl, hwx⟩; have hwy := hwx.symm; clear hwx; subst hwy) | (go_at_call 10; refine (may_any _ _).mono ?_; rintro e wx ⟨rfl, hwx⟩; have hwy := hwx.symm; clear hwx; subst hwy))
              refine (HFv.out _).mono ?_
              rintro e w9 ⟨⟨r9, rfl, i9⟩, x9⟩
              have E9 : Hid (Ext (wr.alloc (.cells #[.int .i64 A, .int .i64 B, .int .i64 N, .int .i64 D, .int .i64 Lo, .int .i64 Hi] 24)) w9) := E8.out.trans x9
              go_wp2_with (first | (go_at_call 21; refine (num_any _ _).mono ?_; rintro e wx ⟨rfl, hwx⟩; have hwy := hwx.symm; clear hwx; subst hwy) | (go_at_call 10; refine (may_any _ _).mono ?_; rintro e wx ⟨rfl, hwx⟩; have hwy := hwx.symm; clear hwx; subst hwy))
              refine (HT1.out _ _ _ (i8.ext x9) i9).mono ?_
              rintro e w10 ⟨⟨r10, rfl, i10⟩, x10⟩
              have E10 : Hid (Ext (wr.alloc (.cells #[.int .i64 A, .int .i64 B, .int .i64 N, .int .i64 D, .int .i64 Lo, .int .i64 Hi] 24)) w10) := E9.out.trans x10
              go_wp2_with (first | (go_at_call 21; refine (num_any _ _).mono ?_; rintro e wx ⟨rfl, hwx⟩; have hwy := hwx.symm; clear hwx; subst hwy) | (go_at_call 10; refine (may_any _ _).mono ?_; rintro e wx ⟨rfl, hwx⟩; have hwy := hwx.symm; clear hwx; subst hwy))
              refine (HFn.out _).mono ?_
              rintro e w11 ⟨⟨r11, rfl, i11⟩, x11⟩
              have E11 : Hid (Ext (wr.alloc (.cells #[.int .i64 A, .int .i64 B, .int .i64 N, .int .i64 D, .int .i64 Lo, .int .i64 Hi] 24)) w11) := E10.out.trans x11
              go_wp2_with (first | (go_at_call 21; refine (num_any _ _).mono ?_; rintro e wx ⟨rfl, hwx⟩; have hwy := hwx.symm; clear hwx; subst hwy) | (go_at_call 10; refine (may_any _ _).mono ?_; rintro e wx ⟨rfl, hwx⟩; have hwy := hwx.symm; clear hwx; subst hwy))
              refine (HC1.out _ _ _ (i10.ext x11) i11).mono ?_
              rintro e w12 ⟨rfl, x12⟩
              have E12 : Hid (Ext (wr.alloc (.cells #[.int .i64 A, .int .i64 B, .int .i64 N, .int .i64 D, .int .i64 Lo, .int .i64 Hi] 24)) w12) := E11.out.trans x12
              go_wp2_with (first | (go_at_call 21; refine (num_any _ _).mono ?_; rintro e wx ⟨rfl, hwx⟩; have hwy := hwx.symm; clear hwx; subst hwy) | (go_at_call 10; refine (may_any _ _).mono ?_; rintro e wx ⟨rfl, hwx⟩; have hwy := hwx.symm; clear hwx; subst hwy))
              refine (HFv1.out _).mono ?_
              rintro e w13 ⟨⟨r13, rfl, i13⟩, x13⟩
              have E13 : Hid (Ext (wr.alloc (.cells #[.int .i64 A, .int .i64 B, .int .i64 N, .int .i64 D, .int .i64 Lo, .int .i64 Hi] 24)) w13) := E12.out.trans x13
              go_wp2_with (first | (go_at_call 21; refine (num_any _ _).mono ?_; rintro e wx ⟨rfl, hwx⟩; have hwy := hwx.symm; clear hwx; subst hwy) | (go_at_call 10; refine (may_any _ _).mono ?_; rintro e wx ⟨rfl, hwx⟩; have hwy := hwx.symm; clear hwx; subst hwy))
              refine (HFv1.out _).mono ?_
              rintro e w14 ⟨⟨r14, rfl, i14⟩, x14⟩
              have E14 : Hid (Ext (wr.alloc (.cells #[.int .i64 A, .int .i64 B, .int .i64 N, .int .i64 D, .int .i64 Lo, .int .i64 Hi] 24)) w14) := E13.out.trans x14
              go_wp2_with (first | (go_at_call 21; refine (num_any _ _).mono ?_; rintro e wx ⟨rfl, hwx⟩; have hwy := hwx.symm; clear hwx; subst hwy) | (go_at_call 10; refine (may_any _ _).mono ?_; rintro e wx ⟨rfl, hwx⟩; have hwy := hwx.symm; clear hwx; subst hwy))
              refine (HT2.out _ _ _ (i13.ext x14) i14).mono ?_
              rintro e w15 ⟨⟨r15, rfl, i15⟩, x15⟩
              have E15 : Hid (Ext (wr.alloc (.cells #[.int .i64 A, .int .i64 B, .int .i64 N, .int .i64 D, .int .i64 Lo, .int .i64 Hi] 24)) w15) := E14.out.trans x15
              go_wp2_with (first | (go_at_call 21; refine (num_any _ _).mono ?_; rintro e wx ⟨rfl, hwx⟩; have hwy := hwx.symm; clear hwx; subst hwy) | (go_at_call 10; refine (may_any _ _).mono ?_; rintro e wx ⟨rfl, hwx⟩; have hwy := hwx.symm; clear hwx; subst hwy))
              refine (HFn.out _).mono ?_
              rintro e w16 ⟨⟨r16, rfl, i16⟩, x16⟩
              have E16 : Hid (Ext (wr.alloc (.cells #[.int .i64 A, .int .i64 B, .int .i64 N, .int .i64 D, .int .i64 Lo, .int .i64 Hi] 24)) w16) := E15.out.trans x16
              go_wp2_with (first | (go_at_call 21; refine (num_any _ _).mono ?_; rintro e wx ⟨rfl, hwx⟩; have hwy := hwx.symm; clear hwx; subst hwy) | (go_at_call 10; refine (may_any _ _).mono ?_; rintro e wx ⟨rfl, hwx⟩; have hwy := hwx.symm; clear hwx; subst hwy))
              refine (HC2.out _ _ _ (i15.ext x16) i16).mono ?_
              rintro e w17 ⟨rfl, x17⟩
              have E17 : Hid (Ext (wr.alloc (.cells #[.int .i64 A, .int .i64 B, .int .i64 N, .int .i64 D, .int .i64 Lo, .int .i64 Hi] 24)) w17) := E16.out.trans x17
              clear x8 x9 x10 x11 x12 x13 x14 x15 x16 x17 E7 E8 E9 E10 E11 E12 E13 E14 E15 E16 i8 i9 i10 i11 i13 i14 i15 i16 HFv HFv1 HT1 HT2 HC1 HC2 cA cB
              go_wp2_with fail
              refine (HO.out _).mono ?_
              rintro e w18 ⟨⟨X, rfl, n1, n2⟩, x18⟩
              have E18 : Hid (Ext (wr.alloc (.cells #[.int .i64 A, .int .i64 B, .int .i64 N, .int .i64 D, .int .i64 Lo, .int .i64 Hi] 24)) w18) := E17.out.trans x18
              obtain ⟨f1, f2⟩ := near_int n.toNat X n1
              rw [Int.toNat_of_nonneg hn2] at f1 f2
              obtain ⟨x, hx1⟩ : ∃ x : Int, (X : Int) = x := ⟨_, rfl⟩
              have x0 : 0 ≤ x := by rw [← hx1]; exact Int.natCast_nonneg _
              rw [hx1] at f1 f2 n2 ⊢
              clear hx1 n1 x18 E17 HO
              obtain ⟨U, hU, hU0, hU1⟩ : ∃ U : Int, Hid (x * 2 ^ 1 + 1 = U) ∧ 0 ≤ U ∧ U ≤ 549755813889 := ⟨x * 2 ^ 1 + 1, rfl, by omega, by omega⟩
              obtain ⟨L, hL, hL0, hL1⟩ : ∃ L : Int, Hid (x * 2 ^ 1 - 1 = L) ∧ -1 ≤ L ∧ L ≤ 549755813889 := ⟨x * 2 ^ 1 - 1, rfl, by omega, by omega⟩
              obtain ⟨F, hF, hF0, hF1⟩ : ∃ F : Int, Hid (n * 2 ^ 32 = F) ∧ 0 ≤ F ∧ F < 151115727451828646838272 := ⟨n * 2 ^ 32, rfl, by omega, by omega⟩
              have eU : 2 * x + 1 = U := by have := hU.out; omega
              have eL : 2 * x - 1 = L := by have := hL.out; omega
              rw [hF.out, eU] at f1
              rw [hF.out, eL] at f2
              clear eU eL
              have bU := sq_bound U 549755813889 hU0 hU1
              have bL : 0 ≤ L * L ∧ L * L ≤ 549755813889 * 549755813889 := by
                by_cases h : 0 ≤ L
                · exact sq_bound L 549755813889 h hL1
                · obtain rfl : L = -1 := by omega
                  decide
              have HFx : Hid (∀ w, Calls Try.prog 32 #[.int .i64 x] w fun e w' => (∃ r, e = .returned r ∧ IsI w' r x) ∧ Ext w w') := fun w => from_any x w (by omega) (by omega)
              have HLx : Hid (∀ a w', IsI w' a x → Calls Try.prog 34 #[a, .int .i64 1] w' fun e w'' => (∃ r', e = .returned r' ∧ IsI w'' r' (x * 2 ^ 1)) ∧ Ext w' w'') := fun a w' ha => left_isI x 1 a w' ha (smallI_of _ (by omega) (by omega)) (by omega) (smallI_of _ (by omega) (by omega))
              have HLn : Hid (∀ a w', IsI w' a n → Calls Try.prog 34 #[a, .int .i64 32] w' fun e w'' => (∃ r', e = .returned r' ∧ IsI w'' r' F) ∧ Ext w' w'') := by
                intro a w' ha
                have h := left_isI n 32 a w' ha (smallI_of _ (by omega) (by omega)) (by omega) (smallI_of _ (by omega) (by omega))
                rw [hF.out] at h
                exact h
              have HPU : Hid (∀ a b w', IsI w' a (x * 2 ^ 1) → IsI w' b 1 → Calls Try.prog 33 #[a, b] w' fun e w'' => (∃ r', e = .returned r' ∧ IsI w'' r' U) ∧ Ext w' w'') := by
                intro a b w' ha hb
                have h := plus_isI (x * 2 ^ 1) 1 a b w' ha hb (smallI_of _ (by omega) (by omega)) (smallI_of _ (by omega) (by omega)) (smallI_of _ (by omega) (by omega))
                rw [hU.out] at h
                exact h
              have HLL : Hid (∀ a b w', IsI w' a (x * 2 ^ 1) → IsI w' b 1 → Calls Try.prog 35 #[a, b] w' fun e w'' => (∃ r', e = .returned r' ∧ IsI w'' r' L) ∧ Ext w' w'') := by
                intro a b w' ha hb
                have h := less_isI (x * 2 ^ 1) 1 a b w' ha hb (smallI_of _ (by omega) (by omega)) (smallI_of _ (by omega) (by omega)) (smallI_of _ (by omega) (by omega))
                rw [hL.out] at h
                exact h
              have HTU : Hid (∀ a b w', IsI w' a U → IsI w' b U → Calls Try.prog 31 #[a, b] w' fun e w'' => (∃ r', e = .returned r' ∧ IsI w'' r' (U * U)) ∧ Ext w' w'') := fun a b w' ha hb => times_isI U U a b w' ha hb (smallI_of _ (by omega) (by omega)) (smallI_of _ (by omega) (by omega)) (smallI_of _ (by omega) (by omega))
              have HTL : Hid (∀ a b w', IsI w' a L → IsI w' b L → Calls Try.prog 31 #[a, b] w' fun e w'' => (∃ r', e = .returned r' ∧ IsI w'' r' (L * L)) ∧ Ext w' w'') := fun a b w' ha hb => times_isI L L a b w' ha hb (smallI_of _ (by omega) (by omega)) (smallI_of _ (by omega) (by omega)) (smallI_of _ (by omega) (by omega))
              obtain ⟨cu, HCU, hcu⟩ : ∃ c : Int, Hid (∀ a b w', IsI w' a (U * U) → IsI w' b F → Calls Try.prog 30 #[a, b] w' fun e w'' => e = .returned (.int .i64 c) ∧ Ext w' w'') ∧ 0 ≤ c := ⟨_, fun a b w' ha hb => cmp_isI (U * U) F a b w' ha hb (smallI_of _ (by omega) (by omega)) (smallI_of _ (by omega) (by omega)) (smallI_of _ (by omega) (by omega)), sgn_nonneg (by omega)⟩
              obtain ⟨cl, HCL, hcl⟩ : ∃ c : Int, Hid (∀ a b w', IsI w' a (L * L) → IsI w' b F → Calls Try.prog 30 #[a, b] w' fun e w'' => e = .returned (.int .i64 c) ∧ Ext w' w'') ∧ (0 < x → c ≤ 0) := ⟨_, fun a b w' ha hb => cmp_isI (L * L) F a b w' ha hb (smallI_of _ (by omega) (by omega)) (smallI_of _ (by omega) (by omega)) (smallI_of _ (by omega) (by omega)), fun h => sgn_nonpos (by have := f2 h; omega)⟩
              have hclH : Hid (0 < x → cl ≤ 0) := hcl
              clear f1 f2 bU bL hU hL hF hcl hU0 hU1 hL0 hL1 hF0 hF1
              go_wp2_with (first | (go_at_call 21; refine (num_any _ _).mono ?_; rintro e wx ⟨rfl, hwx⟩; have hwy := hwx.symm; clear hwx; subst hwy) | (go_at_call 10; refine (may_any _ _).mono ?_; rintro e wx ⟨rfl, hwx⟩; have hwy := hwx.symm; clear hwx; subst hwy))
              refine (HFx.out _).mono ?_
              rintro e w19 ⟨⟨r19, rfl, i19⟩, x19⟩
              have E19 : Hid (Ext (wr.alloc (.cells #[.int .i64 A, .int .i64 B, .int .i64 N, .int .i64 D, .int .i64 Lo, .int .i64 Hi] 24)) w19) := E18.out.trans x19
              go_wp2_with (first | (go_at_call 21; refine (num_any _ _).mono ?_; rintro e wx ⟨rfl, hwx⟩; have hwy := hwx.symm; clear hwx; subst hwy) | (go_at_call 10; refine (may_any _ _).mono ?_; rintro e wx ⟨rfl, hwx⟩; have hwy := hwx.symm; clear hwx; subst hwy))
              refine (HLx.out _ _ i19).mono ?_
              rintro e w20 ⟨⟨r20, rfl, i20⟩, x20⟩
              have E20 : Hid (Ext (wr.alloc (.cells #[.int .i64 A, .int .i64 B, .int .i64 N, .int .i64 D, .int .i64 Lo, .int .i64 Hi] 24)) w20) := E19.out.trans x20
              go_wp2_with (first | (go_at_call 21; refine (num_any _ _).mono ?_; rintro e wx ⟨rfl, hwx⟩; have hwy := hwx.symm; clear hwx; subst hwy) | (go_at_call 10; refine (may_any _ _).mono ?_; rintro e wx ⟨rfl, hwx⟩; have hwy := hwx.symm; clear hwx; subst hwy))
              refine (HF1.out _).mono ?_
              rintro e w21 ⟨⟨r21, rfl, i21⟩, x21⟩
              have E21 : Hid (Ext (wr.alloc (.cells #[.int .i64 A, .int .i64 B, .int .i64 N, .int .i64 D, .int .i64 Lo, .int .i64 Hi] 24)) w21) := E20.out.trans x21
              go_wp2_with (first | (go_at_call 21; refine (num_any _ _).mono ?_; rintro e wx ⟨rfl, hwx⟩; have hwy := hwx.symm; clear hwx; subst hwy) | (go_at_call 10; refine (may_any _ _).mono ?_; rintro e wx ⟨rfl, hwx⟩; have hwy := hwx.symm; clear hwx; subst hwy))
              refine (HPU.out _ _ _ (i20.ext x21) i21).mono ?_
              rintro e w22 ⟨⟨r22, rfl, i22⟩, x22⟩
              have E22 : Hid (Ext (wr.alloc (.cells #[.int .i64 A, .int .i64 B, .int .i64 N, .int .i64 D, .int .i64 Lo, .int .i64 Hi] 24)) w22) := E21.out.trans x22
              obtain ⟨uu, hru, hu⟩ := i22
              obtain ⟨au, lu, ku, hau⟩ := hu.isSlice
              subst hau
              subst hru
              have IU : Hid (IsI w22 (.agg #[.bool (decide (U < 0)), .slice au lu ku]) U) := ⟨_, rfl, hu⟩
              generalize decide (U < 0) = du at *
              clear hu x19 x20 x21 x22 i19 i20 i21 E18 E19 E20 E21
              go_wp2_with fail
              refine (HFx.out _).mono ?_
              rintro e w23 ⟨⟨r23, rfl, i23⟩, x23⟩
              go_wp2_with fail
              refine (HLx.out _ _ i23).mono ?_
              rintro e w24 ⟨⟨r24, rfl, i24⟩, x24⟩
              go_wp2_with fail
              refine (HF1.out _).mono ?_
              rintro e w25 ⟨⟨r25, rfl, i25⟩, x25⟩
              go_wp2_with fail
              refine (HLL.out _ _ _ (i24.ext x25) i25).mono ?_
              rintro e w26 ⟨⟨r26, rfl, i26⟩, x26⟩
              obtain ⟨ul, hrl, hl2⟩ := i26
              obtain ⟨al, ll, kl, hal⟩ := hl2.isSlice
              subst hal
              subst hrl
              have IL : Hid (IsI w26 (.agg #[.bool (decide (L < 0)), .slice al ll kl]) L) := ⟨_, rfl, hl2⟩
              generalize decide (L < 0) = dl at *
              have Y1 := ((x23.trans x24).trans x25).trans x26
              have cu1 := Y1.cells2
              have Y1' : Hid (Ext w22 w26) := ((Ext.refl w22).alloc _).trans Y1
              have CU1 : Hid _ := cu1
              clear hl2 x23 x24 x25 x26 i23 i24 i25 Y1 cu1
              go_wp2_with fail
              refine (HFn.out _).mono ?_
              rintro e w27 ⟨⟨r27, rfl, i27⟩, x27⟩
              go_wp2_with fail
              refine (HLn.out _ _ i27).mono ?_
              rintro e w28 ⟨⟨r28, rfl, i28⟩, x28⟩
              obtain ⟨uf, hrf, hf2⟩ := i28
              obtain ⟨af, lf, kf, haf⟩ := hf2.isSlice
              subst haf
              subst hrf
              have IF : Hid (IsI w28 (.agg #[.bool (decide (F < 0)), .slice af lf kf]) F) := ⟨_, rfl, hf2⟩
              generalize decide (F < 0) = df at *
              have Y2 := x27.trans x28
              have cl1 := Y2.cells2
              have Y2' : Hid (Ext w26 w28) := ((Ext.refl w26).alloc _).trans Y2
              have H6 : Hid (Held6 (w28.alloc (.cells #[.bool df, .slice af lf kf] 44)) w22.heap.size w26.heap.size w28.heap.size du dl df (.slice au lu ku) (.slice al ll kl) (.slice af lf kf)) := held6_start CU1.out cl1 Y2'.out
              have IU' : Hid (IsI (w28.alloc (.cells #[.bool df, .slice af lf kf] 44)) (.agg #[.bool du, .slice au lu ku]) U) := IU.out.ext ((Y1'.out.trans Y2'.out).alloc _)
              have IL' : Hid (IsI (w28.alloc (.cells #[.bool df, .slice af lf kf] 44)) (.agg #[.bool dl, .slice al ll kl]) L) := IL.out.ext (Y2'.out.alloc _)
              have IF' : Hid (IsI (w28.alloc (.cells #[.bool df, .slice af lf kf] 44)) (.agg #[.bool df, .slice af lf kf]) F) := IF.out.ext ((Ext.refl _).alloc _)
              have XZ : Hid (Ext w (w28.alloc (.cells #[.bool df, .slice af lf kf] 44))) := (((hx.alloc _).trans E22.out).trans (Y1'.out.trans Y2'.out)).alloc _
              clear hf2 x27 x28 i27 Y2 cl1 IU IL IF Y1' Y2' CU1 E22 HFx HLx HF1 HPU HLL HFn HLn
              have hcuB : decide (cu < 0) = false := by simpa using hcu
              by_cases hxp : 0 < x
              · have hcl2 : cl ≤ 0 := hclH.out hxp
                have hclB : decide (0 < cl) = false := by simpa using hcl2
                have hxd : decide (0 < x) = true := by simpa using hxp
                as_aux_lemma =>
                  go_wp2_with fail
                  generalize w28.alloc (.cells #[.bool df, .slice af lf kf] 44) = Wz at *
                  obtain ⟨p0, p1, p2, p3, p4, p5⟩ := H6.out
                  go_region_held (fun w' => w'.cell? ⟨w22.heap.size, 0, none⟩ = some (.bool du) ∧ w'.cell? ⟨w22.heap.size, 1, none⟩ = some (.slice au lu ku) ∧ w'.cell? ⟨w26.heap.size, 0, none⟩ = some (.bool dl) ∧ w'.cell? ⟨w26.heap.size, 1, none⟩ = some (.slice al ll kl) ∧ w'.cell? ⟨w28.heap.size, 0, none⟩ = some (.bool df) ∧ w'.cell? ⟨w28.heap.size, 1, none⟩ = some (.slice af lf kf)) (go_keep) (first | (go_at_call 21; refine (num_any _ _).mono ?_; rintro e wx ⟨rfl, hwx⟩; have hwy := hwx.symm; clear hwx; subst hwy) | (go_at_call_of 31 (Value.agg #[Value.bool du, Value.slice au lu ku]); refine (HTU.out _ _ _ (IU'.out.ext (Ext.refl _).drew) (IU'.out.ext (Ext.refl _).drew)).mono ?_; rintro e w31 ⟨⟨r31, rfl, i31⟩, x31⟩; obtain ⟨q0, q1, q2, q3, q4, q5⟩ := H6.out.ext (cell_drew x31)) | (go_at_call_of 30 r31; refine (HCU.out _ _ _ i31 (IF'.out.ext (cell_drew x31))).mono ?_; rintro e w32 ⟨rfl, x32⟩; obtain ⟨t0, t1, t2, t3, t4, t5⟩ := H6.out.ext ((cell_drew x31).trans x32)) | (go_at_call_of 31 (Value.agg #[Value.bool dl, Value.slice al ll kl]); refine (HTL.out _ _ _ (IL'.out.ext ((cell_drew x31).trans x32)) (IL'.out.ext ((cell_drew x31).trans x32))).mono ?_; rintro e w33 ⟨⟨r33, rfl, i33⟩, x33⟩; obtain ⟨z0, z1, z2, z3, z4, z5⟩ := H6.out.ext (((cell_drew x31).trans x32).trans x33)) | (go_at_call_of 30 r33; refine (HCL.out _ _ _ i33 (IF'.out.ext (((cell_drew x31).trans x32).trans x33))).mono ?_; rintro e w34 ⟨rfl, x34⟩; obtain ⟨y0, y1, y2, y3, y4, y5⟩ := H6.out.ext ((((cell_drew x31).trans x32).trans x33).trans x34)))
                  have XF : Hid (Ext w w34) := XZ.out.trans ((((cell_drew x31).trans x32).trans x33).trans x34)
                  go_wp2_with fail
                  go_roundw
                  case rel => exact ⟨k + 1, by omega, by go_num, XF.out⟩
                  case measure => simp [intOf]; omega
              · have hxd : decide (0 < x) = false := by simpa using hxp
                as_aux_lemma =>
                  go_wp2_with fail
                  generalize w28.alloc (.cells #[.bool df, .slice af lf kf] 44) = Wz at *
                  obtain ⟨p0, p1, p2, p3, p4, p5⟩ := H6.out
                  refine wp_region_held_drew (S := (fun w' => w'.cell? ⟨w22.heap.size, 0, none⟩ = some (.bool du) ∧ w'.cell? ⟨w22.heap.size, 1, none⟩ = some (.slice au lu ku) ∧ w'.cell? ⟨w26.heap.size, 0, none⟩ = some (.bool dl) ∧ w'.cell? ⟨w26.heap.size, 1, none⟩ = some (.slice al ll kl) ∧ w'.cell? ⟨w28.heap.size, 0, none⟩ = some (.bool df) ∧ w'.cell? ⟨w28.heap.size, 1, none⟩ = some (.slice af lf kf))) (by kernel_rfl) ?_ (fun hHeld => ?_)
                  · ((try dsimp only); go_keep)
                  refine wpAnyH_take (i := 0) (oi := { dst := some 196, op := Op.move (Operand.tmp 21), type := 25, pos := "law.go:151", after := #[], guard := none }) (v := .int .i64 0) rfl (by kernel_rfl) (by kernel_rfl) (by kernel_rfl) (fun _ _ _ h => h) (Or.inl ⟨by rfl, ?_⟩) (by assumption) ?_
                  · (intro w hSw; (try dsimp only at hSw); go_simp)
                  simp only [Act.put, List.setIfInBounds_toArray, List.set_cons_zero, List.set_cons_succ]
                  refine wpAnyH_ready (rs := [1]) (by kernel_rfl) (by simp) ?_
                  refine AllReadyH.cons rfl (fun K hK => ?_) AllReadyH.nil
                  go_simp
                  go_wp2_with (first | (go_at_call 21; refine (num_any _ _).mono ?_; rintro e wx ⟨rfl, hwx⟩; have hwy := hwx.symm; clear hwx; subst hwy) | (go_at_call_of 31 (Value.agg #[Value.bool du, Value.slice au lu ku]); refine (HTU.out _ _ _ (IU'.out.ext (Ext.refl _).drew) (IU'.out.ext (Ext.refl _).drew)).mono ?_; rintro e w31 ⟨⟨r31, rfl, i31⟩, x31⟩; obtain ⟨q0, q1, q2, q3, q4, q5⟩ := H6.out.ext (cell_drew x31)) | (go_at_call_of 30 r31; refine (HCU.out _ _ _ i31 (IF'.out.ext (cell_drew x31))).mono ?_; rintro e w32 ⟨rfl, x32⟩; obtain ⟨t0, t1, t2, t3, t4, t5⟩ := H6.out.ext ((cell_drew x31).trans x32)))
                  refine hK.out _ _ ?_ (fun hHeld => ?_)
                  · ((try dsimp only); go_keep)
                  clear hK K
                  refine wpAnyH_take (i := 2) (oi := { dst := some 198, op := Op.binOp BinOp.neq 3 (Operand.tmp 197) (Operand.const (Value.int IntKind.i64 0)) 3, type := 4, pos := "law.go:151", after := #[{ on := 1, ground := Ground.data }], guard := none }) (v := .bool false) rfl (by kernel_rfl) (by kernel_rfl) (by kernel_rfl) (fun _ _ _ h => h) (Or.inl ⟨by rfl, ?_⟩) (by assumption) ?_
                  · (intro w hSw; (try dsimp only at hSw); go_simp)
                  simp only [Act.put, List.setIfInBounds_toArray, List.set_cons_zero, List.set_cons_succ]
                  refine wpAnyH_take (i := 3) (oi := { dst := some 199, op := Op.move (Operand.tmp 198), type := 4, pos := "law.go:151", after := #[{ on := 2, ground := Ground.data }, { on := 1, ground := Ground.chain }], guard := none }) (v := .bool false) rfl (by kernel_rfl) (by kernel_rfl) (by kernel_rfl) (fun _ _ _ h => h) (Or.inl ⟨by rfl, ?_⟩) (by assumption) ?_
                  · (intro w hSw; (try dsimp only at hSw); go_simp)
                  simp only [Act.put, List.setIfInBounds_toArray, List.set_cons_zero, List.set_cons_succ]
                  refine wpAnyH_take (i := 4) (oi := { dst := some 200, op := Op.load 44 (Operand.tmp 22), type := 44, pos := "law.go:151", after := #[{ on := 3, ground := Ground.guard }], guard := some (3, false) }) (v := .agg #[.bool du, .slice au lu ku]) rfl (by kernel_rfl) (by kernel_rfl) (by kernel_rfl) (fun _ _ _ h => h) (Or.inl ⟨by rfl, ?_⟩) (by assumption) ?_
                  · (intro w hSw; (try dsimp only at hSw); go_simp)
                  simp only [Act.put, List.setIfInBounds_toArray, List.set_cons_zero, List.set_cons_succ]
                  refine wpAnyH_take (i := 5) (oi := { dst := some 201, op := Op.load 44 (Operand.tmp 22), type := 44, pos := "law.go:151", after := #[{ on := 3, ground := Ground.guard }], guard := some (3, false) }) (v := .agg #[.bool du, .slice au lu ku]) rfl (by kernel_rfl) (by kernel_rfl) (by kernel_rfl) (fun _ _ _ h => h) (Or.inl ⟨by rfl, ?_⟩) (by assumption) ?_
                  · (intro w hSw; (try dsimp only at hSw); go_simp)
                  simp only [Act.put, List.setIfInBounds_toArray, List.set_cons_zero, List.set_cons_succ]
                  refine wpAnyH_take (i := 7) (oi := { dst := some 203, op := Op.load 44 (Operand.tmp 24), type := 44, pos := "law.go:151", after := #[{ on := 3, ground := Ground.guard }], guard := some (3, false) }) (v := .agg #[.bool df, .slice af lf kf]) rfl (by kernel_rfl) (by kernel_rfl) (by kernel_rfl) (fun _ _ _ h => h) (Or.inl ⟨by rfl, ?_⟩) (by assumption) ?_
                  · (intro w hSw; (try dsimp only at hSw); go_simp)
                  simp only [Act.put, List.setIfInBounds_toArray, List.set_cons_zero, List.set_cons_succ]
                  refine wpAnyH_ready (rs := [6]) (by kernel_rfl) (by simp) ?_
                  refine AllReadyH.cons rfl (fun K hK => ?_) AllReadyH.nil
                  go_simp
                  go_wp2_with (first | (go_at_call 21; refine (num_any _ _).mono ?_; rintro e wx ⟨rfl, hwx⟩; have hwy := hwx.symm; clear hwx; subst hwy) | (go_at_call_of 31 (Value.agg #[Value.bool du, Value.slice au lu ku]); refine (HTU.out _ _ _ (IU'.out.ext (Ext.refl _).drew) (IU'.out.ext (Ext.refl _).drew)).mono ?_; rintro e w31 ⟨⟨r31, rfl, i31⟩, x31⟩; obtain ⟨q0, q1, q2, q3, q4, q5⟩ := H6.out.ext (cell_drew x31)) | (go_at_call_of 30 r31; refine (HCU.out _ _ _ i31 (IF'.out.ext (cell_drew x31))).mono ?_; rintro e w32 ⟨rfl, x32⟩; obtain ⟨t0, t1, t2, t3, t4, t5⟩ := H6.out.ext ((cell_drew x31).trans x32)))
                  refine hK.out _ _ ?_ (fun hHeld => ?_)
                  · ((try dsimp only); go_keep)
                  clear hK K
                  refine wpAnyH_ready (rs := [8]) (by kernel_rfl) (by simp) ?_
                  refine AllReadyH.cons rfl (fun K hK => ?_) AllReadyH.nil
                  go_simp
                  go_wp2_with (first | (go_at_call 21; refine (num_any _ _).mono ?_; rintro e wx ⟨rfl, hwx⟩; have hwy := hwx.symm; clear hwx; subst hwy) | (go_at_call_of 31 (Value.agg #[Value.bool du, Value.slice au lu ku]); refine (HTU.out _ _ _ (IU'.out.ext (Ext.refl _).drew) (IU'.out.ext (Ext.refl _).drew)).mono ?_; rintro e w31 ⟨⟨r31, rfl, i31⟩, x31⟩; obtain ⟨q0, q1, q2, q3, q4, q5⟩ := H6.out.ext (cell_drew x31)) | (go_at_call_of 30 r31; refine (HCU.out _ _ _ i31 (IF'.out.ext (cell_drew x31))).mono ?_; rintro e w32 ⟨rfl, x32⟩; obtain ⟨t0, t1, t2, t3, t4, t5⟩ := H6.out.ext ((cell_drew x31).trans x32)))
                  refine hK.out _ _ ?_ (fun hHeld => ?_)
                  · ((try dsimp only); go_keep)
                  clear hK K
                  refine wpAnyH_take (i := 9) (oi := { dst := some 205, op := Op.binOp BinOp.lss 3 (Operand.tmp 204) (Operand.const (Value.int IntKind.i64 0)) 3, type := 4, pos := "law.go:151", after := #[{ on := 8, ground := Ground.data }, { on := 3, ground := Ground.guard }], guard := some (3, false) }) (v := .bool false) rfl (by kernel_rfl) (by kernel_rfl) (by kernel_rfl) (fun _ _ _ h => h) (Or.inl ⟨by rfl, ?_⟩) (by assumption) ?_
                  · (intro w hSw; (try dsimp only at hSw); go_simp)
                  simp only [Act.put, List.setIfInBounds_toArray, List.set_cons_zero, List.set_cons_succ]
                  refine wpAnyH_take (i := 10) (oi := { dst := some 206, op := Op.pick (Operand.tmp 199) (Operand.const (Value.bool true)) (Operand.tmp 205), type := 4, pos := "law.go:151", after := #[{ on := 3, ground := Ground.data }, { on := 9, ground := Ground.data }], guard := none }) (v := .bool false) rfl (by kernel_rfl) (by kernel_rfl) (by kernel_rfl) (fun _ _ _ h => h) (Or.inl ⟨by rfl, ?_⟩) (by assumption) ?_
                  · (intro w hSw; (try dsimp only at hSw); go_simp)
                  simp only [Act.put, List.setIfInBounds_toArray, List.set_cons_zero, List.set_cons_succ]
                  refine wpAnyH_take (i := 11) (oi := { dst := some 207, op := Op.move (Operand.tmp 206), type := 4, pos := "law.go:151", after := #[{ on := 10, ground := Ground.data }, { on := 8, ground := Ground.chain }], guard := none }) (v := .bool false) rfl (by kernel_rfl) (by kernel_rfl) (by kernel_rfl) (fun _ _ _ h => h) (Or.inl ⟨by rfl, ?_⟩) (by assumption) ?_
                  · (intro w hSw; (try dsimp only at hSw); go_simp)
                  simp only [Act.put, List.setIfInBounds_toArray, List.set_cons_zero, List.set_cons_succ]
                  refine wpAnyH_take (i := 12) (oi := { dst := some 208, op := Op.move (Operand.tmp 20), type := 2, pos := "law.go:151", after := #[{ on := 11, ground := Ground.guard }], guard := some (11, false) }) (v := .int .i64 x) rfl (by kernel_rfl) (by kernel_rfl) (by kernel_rfl) (fun _ _ _ h => h) (Or.inl ⟨by rfl, ?_⟩) (by assumption) ?_
                  · (intro w hSw; (try dsimp only at hSw); go_simp)
                  simp only [Act.put, List.setIfInBounds_toArray, List.set_cons_zero, List.set_cons_succ]
                  refine wpAnyH_take (i := 13) (oi := { dst := some 209, op := Op.binOp BinOp.gtr 2 (Operand.tmp 208) (Operand.const (Value.int IntKind.i64 0)) 2, type := 4, pos := "law.go:151", after := #[{ on := 12, ground := Ground.data }, { on := 11, ground := Ground.guard }], guard := some (11, false) }) (v := .bool false) rfl (by kernel_rfl) (by kernel_rfl) (by kernel_rfl) (fun _ _ _ h => h) (Or.inl ⟨by rfl, ?_⟩) (by assumption) ?_
                  · (intro w hSw; (try dsimp only at hSw); go_simp)
                  simp only [Act.put, List.setIfInBounds_toArray, List.set_cons_zero, List.set_cons_succ]
                  refine wpAnyH_take (i := 14) (oi := { dst := some 210, op := Op.move (Operand.tmp 209), type := 4, pos := "law.go:151", after := #[{ on := 13, ground := Ground.data }, { on := 11, ground := Ground.chain }, { on := 11, ground := Ground.guard }], guard := some (11, false) }) (v := .bool false) rfl (by kernel_rfl) (by kernel_rfl) (by kernel_rfl) (fun _ _ _ h => h) (Or.inl ⟨by rfl, ?_⟩) (by assumption) ?_
                  · (intro w hSw; (try dsimp only at hSw); go_simp)
                  simp only [Act.put, List.setIfInBounds_toArray, List.set_cons_zero, List.set_cons_succ]
                  refine wpAnyH_take (i := 15) (oi := { dst := some 211, op := Op.load 44 (Operand.tmp 23), type := 44, pos := "law.go:151", after := #[{ on := 14, ground := Ground.guard }], guard := some (14, true) }) (v := undef) rfl (by kernel_rfl) (by kernel_rfl) (by kernel_rfl) (fun _ _ _ h => h) (Or.inr ⟨by rfl, rfl⟩) (by assumption) ?_
                  simp only [Act.put, List.setIfInBounds_toArray, List.set_cons_zero, List.set_cons_succ]
                  refine wpAnyH_take (i := 16) (oi := { dst := some 212, op := Op.load 44 (Operand.tmp 23), type := 44, pos := "law.go:151", after := #[{ on := 14, ground := Ground.guard }], guard := some (14, true) }) (v := undef) rfl (by kernel_rfl) (by kernel_rfl) (by kernel_rfl) (fun _ _ _ h => h) (Or.inr ⟨by rfl, rfl⟩) (by assumption) ?_
                  simp only [Act.put, List.setIfInBounds_toArray, List.set_cons_zero, List.set_cons_succ]
                  refine wpAnyH_take (i := 17) (oi := { dst := some 213, op := Op.call { callee := Callee.value (Operand.func 31), args := #[Operand.tmp 211, Operand.tmp 212], argTypes := #[44, 44] }, type := 44, pos := "law.go:151", after := #[{ on := 15, ground := Ground.data }, { on := 16, ground := Ground.data }, { on := 14, ground := Ground.chain }, { on := 14, ground := Ground.guard }], guard := some (14, true) }) (v := undef) rfl (by kernel_rfl) (by kernel_rfl) (by kernel_rfl) (fun _ _ _ h => h) (Or.inr ⟨by rfl, rfl⟩) (by assumption) ?_
                  simp only [Act.put, List.setIfInBounds_toArray, List.set_cons_zero, List.set_cons_succ]
                  refine wpAnyH_take (i := 18) (oi := { dst := some 214, op := Op.load 44 (Operand.tmp 24), type := 44, pos := "law.go:151", after := #[{ on := 14, ground := Ground.guard }], guard := some (14, true) }) (v := undef) rfl (by kernel_rfl) (by kernel_rfl) (by kernel_rfl) (fun _ _ _ h => h) (Or.inr ⟨by rfl, rfl⟩) (by assumption) ?_
                  simp only [Act.put, List.setIfInBounds_toArray, List.set_cons_zero, List.set_cons_succ]
                  refine wpAnyH_take (i := 19) (oi := { dst := some 215, op := Op.call { callee := Callee.value (Operand.func 30), args := #[Operand.tmp 213, Operand.tmp 214], argTypes := #[44, 44] }, type := 3, pos := "law.go:151", after := #[{ on := 17, ground := Ground.data }, { on := 18, ground := Ground.data }, { on := 17, ground := Ground.chain }, { on := 14, ground := Ground.guard }], guard := some (14, true) }) (v := undef) rfl (by kernel_rfl) (by kernel_rfl) (by kernel_rfl) (fun _ _ _ h => h) (Or.inr ⟨by rfl, rfl⟩) (by assumption) ?_
                  simp only [Act.put, List.setIfInBounds_toArray, List.set_cons_zero, List.set_cons_succ]
                  refine wpAnyH_take (i := 20) (oi := { dst := some 216, op := Op.binOp BinOp.gtr 3 (Operand.tmp 215) (Operand.const (Value.int IntKind.i64 0)) 3, type := 4, pos := "law.go:151", after := #[{ on := 19, ground := Ground.data }, { on := 14, ground := Ground.guard }], guard := some (14, true) }) (v := undef) rfl (by kernel_rfl) (by kernel_rfl) (by kernel_rfl) (fun _ _ _ h => h) (Or.inr ⟨by rfl, rfl⟩) (by assumption) ?_
                  simp only [Act.put, List.setIfInBounds_toArray, List.set_cons_zero, List.set_cons_succ]
                  refine wpAnyH_take (i := 21) (oi := { dst := some 217, op := Op.pick (Operand.tmp 210) (Operand.tmp 216) (Operand.const (Value.bool false)), type := 4, pos := "law.go:151", after := #[{ on := 14, ground := Ground.data }, { on := 20, ground := Ground.data }, { on := 11, ground := Ground.guard }], guard := some (11, false) }) (v := .bool false) rfl (by kernel_rfl) (by kernel_rfl) (by kernel_rfl) (fun _ _ _ h => h) (Or.inl ⟨by rfl, ?_⟩) (by assumption) ?_
                  · (intro w hSw; (try dsimp only at hSw); go_simp)
                  simp only [Act.put, List.setIfInBounds_toArray, List.set_cons_zero, List.set_cons_succ]
                  refine wpAnyH_take (i := 22) (oi := { dst := some 218, op := Op.pick (Operand.tmp 207) (Operand.const (Value.bool true)) (Operand.tmp 217), type := 4, pos := "law.go:151", after := #[{ on := 11, ground := Ground.data }, { on := 21, ground := Ground.data }], guard := none }) (v := .bool false) rfl (by kernel_rfl) (by kernel_rfl) (by kernel_rfl) (fun _ _ _ h => h) (Or.inl ⟨by rfl, ?_⟩) (by assumption) ?_
                  · (intro w hSw; (try dsimp only at hSw); go_simp)
                  simp only [Act.put, List.setIfInBounds_toArray, List.set_cons_zero, List.set_cons_succ]
                  refine wpAnyH_done (by kernel_rfl) ?_ _
                  have XF : Hid (Ext w w32) := XZ.out.trans ((cell_drew x31).trans x32)
                  go_wp2_with fail
                  go_roundw
                  case rel => exact ⟨k + 1, by omega, by go_num, XF.out⟩
                  case measure => simp [intOf]; omega
      · go_wp2_with fail
        refine (wakes_any _).mono ?_
        rintro e w1 ⟨rfl, x1⟩
        go_wp2_with fail
        go_ret
        exact ⟨rfl, hx.trans x1⟩
    · go_wp2_with fail
      refine (wakes_any _).mono ?_
      rintro e w1 ⟨rfl, x1⟩
      go_wp2_with fail
      go_ret
      exact ⟨rfl, hx.trans x1⟩

set_option maxHeartbeats 1000000 in
set_option maxRecDepth 20000 in
theorem laws_none (a : Option Addr) (cap : Nat) (w : World) :
    Calls Try.prog 8 #[.slice a 0 cap] w fun e w' => e = .returned (.bool true) ∧ Ext w w' := by
  go_enter Try.func8, Try.ntmps8
  go_wp2_with fail
  refine wp_loop_rounds 1 ?_
  rw [rounds_succ]
  go_wp2_with fail
  refine (wakes_any _).mono ?_
  rintro e w1 ⟨rfl, x1⟩
  go_wp2_with fail
  go_ret
  exact ⟨rfl, x1⟩
end Go.Proofs.Ytfcmacbhadpldaa
