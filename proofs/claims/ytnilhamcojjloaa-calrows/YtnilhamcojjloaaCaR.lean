/- CalRows. -/
import Derived.Test.YtnilhamcojjloaaCa6
import Derived.Deep.Cut
import Derived.Deep.DeepCutAuto
namespace Go.Proofs.Ytnilhamcojjloaa
open Go.RowKit Go.Shelf
theorem nearQ_neg (z : Int) : nearQ (-z) = -nearQ z := by
  have h : ∀ z, IsNear z 1073741824 (nearQ z) := fun z => by unfold IsNear nearQ oddQ; omega
  exact (h (-z)).unique (by omega) (h z).neg
/-- the first two rows change their places -/
def sw (m : Nat → Int) : Nat → Int
  | 0 => m 3
  | 1 => m 4
  | 2 => m 5
  | 3 => m 0
  | 4 => m 1
  | 5 => m 2
  | k => m k
theorem okM_sw (m : Nat → Int) (h : okM m = true) : okM (sw m) = true := by
  refine okM_of fun k hk => ?_
  obtain rfl | rfl | rfl | rfl | rfl | rfl | rfl | rfl | rfl : k = 0 ∨ k = 1 ∨ k = 2 ∨ k = 3 ∨ k = 4 ∨ k = 5 ∨ k = 6 ∨ k = 7 ∨ k = 8 := by omega
  · exact okM_at h (k := 3) (by omega)
  · exact okM_at h (k := 4) (by omega)
  · exact okM_at h (k := 5) (by omega)
  · exact okM_at h (k := 0) (by omega)
  · exact okM_at h (k := 1) (by omega)
  · exact okM_at h (k := 2) (by omega)
  · exact okM_at h (k := 6) (by omega)
  · exact okM_at h (k := 7) (by omega)
  · exact okM_at h (k := 8) (by omega)
theorem ok3_swap (a b c : Int) : ok3 b a c = ok3 a b c := by
  unfold ok3; cases okW a <;> cases okW b <;> cases okW c <;> rfl
theorem okW_neg' (a : Int) : okW (-a) = okW a := by
  unfold okW
  rw [Bool.eq_iff_iff]; simp; omega
theorem ok3_neg' (a b c : Int) : ok3 (-a) (-b) (-c) = ok3 a b c := by unfold ok3; rw [okW_neg', okW_neg', okW_neg']
theorem vres_swap (s0 s1 s2 : Int) : ∃ a0 a1 a2 e : Int, vres s0 s1 s2 = .tuple #[.agg #[.int .i64 a0, .int .i64 a1, .int .i64 a2], .int .i64 e] ∧ vres s1 s0 s2 = .tuple #[.agg #[.int .i64 a1, .int .i64 a0, .int .i64 a2], .int .i64 e] := by
  unfold vres
  rw [ok3_swap s0 s1 s2]
  split
  · exact ⟨_, _, _, _, rfl, rfl⟩
  · exact ⟨0, 0, 0, 2, rfl, rfl⟩
theorem vres_neg (s0 s1 s2 : Int) : ∃ v0 v1 v2 e : Int, (ok3 v0 v1 v2 = true) ∧ vres s0 s1 s2 = .tuple #[.agg #[.int .i64 v0, .int .i64 v1, .int .i64 v2], .int .i64 e] ∧ vres (-s0) (-s1) (-s2) = .tuple #[.agg #[.int .i64 (-v0), .int .i64 (-v1), .int .i64 (-v2)], .int .i64 e] := by
  unfold vres
  rw [ok3_neg' s0 s1 s2]
  split
  · rename_i h
    exact ⟨_, _, _, _, h, rfl, rfl⟩
  · exact ⟨0, 0, 0, 2, by decide, rfl, rfl⟩
theorem rows_told (z : Nat → Int) (hc : okC (z 0) (z 1) (z 2) (z 3) (z 4) (z 5) (z 6) (fun k => z (7 + k)) = true) (hr : okR (z 16) (z 17) (z 18) (z 19) = true) :
    ∃ a0 a1 a2 er : Int, (∀ w, Calls Try.prog 10 #[.agg #[.int .i64 (z 0), .int .i64 (z 1), .int .i64 (z 2), .int .i64 (z 3), .int .i64 (z 4), .int .i64 (z 5), .int .i64 (z 6), .int .i64 (z 7), .int .i64 (z 8), .int .i64 (z 9), .int .i64 (z 10), .int .i64 (z 11), .int .i64 (z 12), .int .i64 (z 13), .int .i64 (z 14), .int .i64 (z 15)], .agg #[.int .i64 (z 16), .int .i64 (z 17), .int .i64 (z 18), .int .i64 (z 19)]] w fun e w' => e = .returned (.tuple #[.agg #[.int .i64 a0, .int .i64 a1, .int .i64 a2], .int .i64 er]) ∧ Ext w w') ∧ (∀ w, Calls Try.prog 10 #[.agg #[.int .i64 (z 0), .int .i64 (z 1), .int .i64 (z 2), .int .i64 (z 3), .int .i64 (z 4), .int .i64 (z 5), .int .i64 (z 6), .int .i64 (z 10), .int .i64 (z 11), .int .i64 (z 12), .int .i64 (z 7), .int .i64 (z 8), .int .i64 (z 9), .int .i64 (z 13), .int .i64 (z 14), .int .i64 (z 15)], .agg #[.int .i64 (z 16), .int .i64 (z 17), .int .i64 (z 18), .int .i64 (z 19)]] w fun e w' => e = .returned (.tuple #[.agg #[.int .i64 a1, .int .i64 a0, .int .i64 a2], .int .i64 er]) ∧ Ext w w') := by
  obtain ⟨c1, c2, c3, c4⟩ := okC_parts hc
  have hc' : okC (z 0) (z 1) (z 2) (z 3) (z 4) (z 5) (z 6) (sw fun k => z (7 + k)) = true := by
    unfold okC; rw [inn_iff.2 c1, c2, c3, okM_sw _ c4]; rfl
  obtain ⟨a0, a1, a2, e, h1, h2⟩ := vres_swap (nearQ (rowU (fun k => z (7 + k)) (uC (z 0) (z 1) (z 2) (z 3) (z 4) (z 5) (z 6) (z 16) (z 17) (z 18) (z 19)) 0)) (nearQ (rowU (fun k => z (7 + k)) (uC (z 0) (z 1) (z 2) (z 3) (z 4) (z 5) (z 6) (z 16) (z 17) (z 18) (z 19)) 1)) (nearQ (rowU (fun k => z (7 + k)) (uC (z 0) (z 1) (z 2) (z 3) (z 4) (z 5) (z 6) (z 16) (z 17) (z 18) (z 19)) 2))
  refine ⟨a0, a1, a2, e, fun w => ?_, fun w => ?_⟩
  · have h := cApply_any (z 0) (z 1) (z 2) (z 3) (z 4) (z 5) (z 6) (fun k => z (7 + k)) (z 16) (z 17) (z 18) (z 19) w
    unfold calR at h
    rw [hc, hr] at h
    simp only [Bool.and_self, if_true] at h
    rw [h1] at h
    exact h
  · have h := cApply_any (z 0) (z 1) (z 2) (z 3) (z 4) (z 5) (z 6) (sw fun k => z (7 + k)) (z 16) (z 17) (z 18) (z 19) w
    unfold calR at h
    rw [hc', hr] at h
    have r0 : rowU (sw fun k => z (7 + k)) (uC (z 0) (z 1) (z 2) (z 3) (z 4) (z 5) (z 6) (z 16) (z 17) (z 18) (z 19)) 0 = rowU (fun k => z (7 + k)) (uC (z 0) (z 1) (z 2) (z 3) (z 4) (z 5) (z 6) (z 16) (z 17) (z 18) (z 19)) 1 := by rw [rowU_eq, rowU_eq]; rfl
    have r1 : rowU (sw fun k => z (7 + k)) (uC (z 0) (z 1) (z 2) (z 3) (z 4) (z 5) (z 6) (z 16) (z 17) (z 18) (z 19)) 1 = rowU (fun k => z (7 + k)) (uC (z 0) (z 1) (z 2) (z 3) (z 4) (z 5) (z 6) (z 16) (z 17) (z 18) (z 19)) 0 := by rw [rowU_eq, rowU_eq]; rfl
    have r2 : rowU (sw fun k => z (7 + k)) (uC (z 0) (z 1) (z 2) (z 3) (z 4) (z 5) (z 6) (z 16) (z 17) (z 18) (z 19)) 2 = rowU (fun k => z (7 + k)) (uC (z 0) (z 1) (z 2) (z 3) (z 4) (z 5) (z 6) (z 16) (z 17) (z 18) (z 19)) 2 := by rw [rowU_eq, rowU_eq]; rfl
    simp only [Bool.and_self, if_true] at h
    rw [r0, r1, r2, h2] at h
    exact h
theorem neg_told (z : Nat → Int) (hc : okC (z 0) (z 1) (z 2) (z 3) (z 4) (z 5) (z 6) (fun k => z (7 + k)) = true) (hr : okR (z 16) (z 17) (z 18) (z 19) = true) (hn : okR (-z 16) (-z 17) (-z 18) (z 19) = true) :
    ∃ v0 v1 v2 er : Int, ok3 v0 v1 v2 = true ∧ (∀ w, Calls Try.prog 10 #[.agg #[.int .i64 0, .int .i64 0, .int .i64 0, .int .i64 0, .int .i64 0, .int .i64 0, .int .i64 (z 6), .int .i64 (z 7), .int .i64 (z 8), .int .i64 (z 9), .int .i64 (z 10), .int .i64 (z 11), .int .i64 (z 12), .int .i64 (z 13), .int .i64 (z 14), .int .i64 (z 15)], .agg #[.int .i64 (z 16), .int .i64 (z 17), .int .i64 (z 18), .int .i64 (z 19)]] w fun e w' => e = .returned (.tuple #[.agg #[.int .i64 v0, .int .i64 v1, .int .i64 v2], .int .i64 er]) ∧ Ext w w') ∧ (∀ w, Calls Try.prog 10 #[.agg #[.int .i64 0, .int .i64 0, .int .i64 0, .int .i64 0, .int .i64 0, .int .i64 0, .int .i64 (z 6), .int .i64 (z 7), .int .i64 (z 8), .int .i64 (z 9), .int .i64 (z 10), .int .i64 (z 11), .int .i64 (z 12), .int .i64 (z 13), .int .i64 (z 14), .int .i64 (z 15)], .agg #[.int .i64 (-z 16), .int .i64 (-z 17), .int .i64 (-z 18), .int .i64 (z 19)]] w fun e w' => e = .returned (.tuple #[.agg #[.int .i64 (-v0), .int .i64 (-v1), .int .i64 (-v2)], .int .i64 er]) ∧ Ext w w') := by
  obtain ⟨c1, c2, c3, c4⟩ := okC_parts hc
  have hc' : okC 0 0 0 0 0 0 (z 6) (fun k => z (7 + k)) = true := by
    unfold okC; rw [inn_iff.2 c1, c4]; rfl
  obtain ⟨v0, v1, v2, e, h0, h1, h2⟩ := vres_neg (nearQ (rowU (fun k => z (7 + k)) (uC 0 0 0 0 0 0 (z 6) (z 16) (z 17) (z 18) (z 19)) 0)) (nearQ (rowU (fun k => z (7 + k)) (uC 0 0 0 0 0 0 (z 6) (z 16) (z 17) (z 18) (z 19)) 1)) (nearQ (rowU (fun k => z (7 + k)) (uC 0 0 0 0 0 0 (z 6) (z 16) (z 17) (z 18) (z 19)) 2))
  refine ⟨v0, v1, v2, e, h0, fun w => ?_, fun w => ?_⟩
  · have h := cApply_any 0 0 0 0 0 0 (z 6) (fun k => z (7 + k)) (z 16) (z 17) (z 18) (z 19) w
    unfold calR at h
    rw [hc', hr] at h
    simp only [Bool.and_self, if_true] at h
    rw [h1] at h
    exact h
  · have h := cApply_any 0 0 0 0 0 0 (z 6) (fun k => z (7 + k)) (-z 16) (-z 17) (-z 18) (z 19) w
    unfold calR at h
    rw [hc', hn] at h
    have cn : ∀ x d : Int, clr (-x) 0 0 d = -clr x 0 0 d := fun x d => by unfold clr; rw [Int.zero_mul]; omega
    have un : ∀ j, uC 0 0 0 0 0 0 (z 6) (-z 16) (-z 17) (-z 18) (z 19) j = -uC 0 0 0 0 0 0 (z 6) (z 16) (z 17) (z 18) (z 19) j := fun j => by
      unfold uC; split
      · exact cn _ _
      · split <;> exact cn _ _
    have rn : ∀ i, rowU (fun k => z (7 + k)) (uC 0 0 0 0 0 0 (z 6) (-z 16) (-z 17) (-z 18) (z 19)) i = -rowU (fun k => z (7 + k)) (uC 0 0 0 0 0 0 (z 6) (z 16) (z 17) (z 18) (z 19)) i := fun i => by
      rw [rowU_eq, rowU_eq, un, un, un, Int.neg_mul, Int.neg_mul, Int.neg_mul]; omega
    simp only [Bool.and_self, if_true] at h
    rw [rn, rn, rn, nearQ_neg, nearQ_neg, nearQ_neg, h2] at h
    exact h

set_option maxHeartbeats 40000000 in
set_option maxRecDepth 20000 in
theorem calrows_any (b off len cap : Nat) (Z : Nat → Nat → Int) (w : World) (hl : len ≤ maxLen) (hc : Asks w b off len Z) :
    Calls Try.prog 6 #[.slice (some ⟨b, off, none⟩) len cap] w fun e w' => e = .returned (.bool true) ∧ Ext w w' := by
  have hl' : len ≤ 9223372036854775807 := by unfold maxLen at hl; omega
  clear hl
  go_enter Try.func6, Try.ntmps6
  go_wp2_with fail
  go_loopw [3] (fun i wr => ∃ k : Nat, k ≤ len ∧ i = .int .i64 k ∧ Ext w wr) (fun i _ => len - (intOf i).toNat)
  case atStart => exact ⟨0, Nat.zero_le _, rfl, Ext.refl _⟩
  case round =>
    obtain ⟨k, hk, rfl, hx⟩ := hrel
    have HX : Hid (Ext w wr) := hx
    clear hx
    by_cases hlt : k < len
    · by_cases h20 : k < 20
      · have RW := (hc.ext HX.out).row hlt
        have hlt' : (k : Int) < (len : Int) := by omega
        have HZ : Hid (∀ j, j < 20 → -9223372036854775808 ≤ Z k j ∧ Z k j ≤ 9223372036854775807) := fun j hj => (hc k hlt j hj).2
        clear hc
        generalize Z k = z at *
        have hs20 : (Try.prog.info? 31).map (·.size) = some ([.int .i64 (z 0), .int .i64 (z 1), .int .i64 (z 2), .int .i64 (z 3), .int .i64 (z 4), .int .i64 (z 5), .int .i64 (z 6), .int .i64 (z 7), .int .i64 (z 8), .int .i64 (z 9), .int .i64 (z 10), .int .i64 (z 11), .int .i64 (z 12), .int .i64 (z 13), .int .i64 (z 14), .int .i64 (z 15), .int .i64 (z 16), .int .i64 (z 17), .int .i64 (z 18), .int .i64 (z 19)] : List Value).length := by kernel_rfl
        have Fp : Hid (HV (wr.alloc (.cells #[.int .i64 (z 0), .int .i64 (z 1), .int .i64 (z 2), .int .i64 (z 3), .int .i64 (z 4), .int .i64 (z 5), .int .i64 (z 6), .int .i64 (z 7), .int .i64 (z 8), .int .i64 (z 9), .int .i64 (z 10), .int .i64 (z 11), .int .i64 (z 12), .int .i64 (z 13), .int .i64 (z 14), .int .i64 (z 15), .int .i64 (z 16), .int .i64 (z 17), .int .i64 (z 18), .int .i64 (z 19)] 31)) wr.heap.size [.int .i64 (z 0), .int .i64 (z 1), .int .i64 (z 2), .int .i64 (z 3), .int .i64 (z 4), .int .i64 (z 5), .int .i64 (z 6), .int .i64 (z 7), .int .i64 (z 8), .int .i64 (z 9), .int .i64 (z 10), .int .i64 (z 11), .int .i64 (z 12), .int .i64 (z 13), .int .i64 (z 14), .int .i64 (z 15), .int .i64 (z 16), .int .i64 (z 17), .int .i64 (z 18), .int .i64 (z 19)]) := hv_at rfl
        have FX : Hid (Ext w (wr.alloc (.cells #[.int .i64 (z 0), .int .i64 (z 1), .int .i64 (z 2), .int .i64 (z 3), .int .i64 (z 4), .int .i64 (z 5), .int .i64 (z 6), .int .i64 (z 7), .int .i64 (z 8), .int .i64 (z 9), .int .i64 (z 10), .int .i64 (z 11), .int .i64 (z 12), .int .i64 (z 13), .int .i64 (z 14), .int .i64 (z 15), .int .i64 (z 16), .int .i64 (z 17), .int .i64 (z 18), .int .i64 (z 19)] 31))) := HX.out.alloc _
        clear HX
        go_upto_region 5 with (first | ((with_reducible show wpList _ _ _ (_ :: _) _ _); refine wpList_load_mid rfl 31 (.tmp 28) rfl b (off + k * 20) rfl [.int .i64 (z 0), .int .i64 (z 1), .int .i64 (z 2), .int .i64 (z 3), .int .i64 (z 4), .int .i64 (z 5), .int .i64 (z 6), .int .i64 (z 7), .int .i64 (z 8), .int .i64 (z 9), .int .i64 (z 10), .int .i64 (z 11), .int .i64 (z 12), .int .i64 (z 13), .int .i64 (z 14), .int .i64 (z 15), .int .i64 (z 16), .int .i64 (z 17), .int .i64 (z 18), .int .i64 (z 19)] _ RW Try.underlying31 rfl hs20 ?_) | ((with_reducible show wpList _ _ _ (_ :: _) _ _); refine wpList_store_new 31 [.int .i64 0, .int .i64 0, .int .i64 0, .int .i64 0, .int .i64 0, .int .i64 0, .int .i64 0, .int .i64 0, .int .i64 0, .int .i64 0, .int .i64 0, .int .i64 0, .int .i64 0, .int .i64 0, .int .i64 0, .int .i64 0, .int .i64 0, .int .i64 0, .int .i64 0, .int .i64 0] [.int .i64 (z 0), .int .i64 (z 1), .int .i64 (z 2), .int .i64 (z 3), .int .i64 (z 4), .int .i64 (z 5), .int .i64 (z 6), .int .i64 (z 7), .int .i64 (z 8), .int .i64 (z 9), .int .i64 (z 10), .int .i64 (z 11), .int .i64 (z 12), .int .i64 (z 13), .int .i64 (z 14), .int .i64 (z 15), .int .i64 (z 16), .int .i64 (z 17), .int .i64 (z 18), .int .i64 (z 19)] rfl 31 (.tmp 4) (.tmp 29) rfl rfl rfl rfl hs20 (by simp [Value.oneCell']) ?_))
        clear RW hs20
        generalize (wr.alloc (.cells #[.int .i64 (z 0), .int .i64 (z 1), .int .i64 (z 2), .int .i64 (z 3), .int .i64 (z 4), .int .i64 (z 5), .int .i64 (z 6), .int .i64 (z 7), .int .i64 (z 8), .int .i64 (z 9), .int .i64 (z 10), .int .i64 (z 11), .int .i64 (z 12), .int .i64 (z 13), .int .i64 (z 14), .int .i64 (z 15), .int .i64 (z 16), .int .i64 (z 17), .int .i64 (z 18), .int .i64 (z 19)] 31)) = w0 at *
        generalize hnp : wr.heap.size = np at *
        clear hnp
        have HR : Hid (∀ w, Calls Try.prog 8 #[.agg #[.int .i64 (z 16), .int .i64 (z 17), .int .i64 (z 18), .int .i64 (z 19)]] w fun e w' => e = .returned (.bool (okR (z 16) (z 17) (z 18) (z 19))) ∧ Ext w w') := mayraw_any _ _ _ _
        have HC : Hid (∀ w, Calls Try.prog 7 #[.agg #[.int .i64 (z 0), .int .i64 (z 1), .int .i64 (z 2), .int .i64 (z 3), .int .i64 (z 4), .int .i64 (z 5), .int .i64 (z 6), .int .i64 (z 7), .int .i64 (z 8), .int .i64 (z 9), .int .i64 (z 10), .int .i64 (z 11), .int .i64 (z 12), .int .i64 (z 13), .int .i64 (z 14), .int .i64 (z 15)]] w fun e w' => e = .returned (.bool (okC (z 0) (z 1) (z 2) (z 3) (z 4) (z 5) (z 6) (fun k => z (7 + k)))) ∧ Ext w w') := fun w => maycal_any (z 0) (z 1) (z 2) (z 3) (z 4) (z 5) (z 6) (fun k => z (7 + k)) w
        have hsC : (Try.prog.info? 27).map (·.size) = some ([.int .i64 (z 0), .int .i64 (z 1), .int .i64 (z 2), .int .i64 (z 3), .int .i64 (z 4), .int .i64 (z 5), .int .i64 (z 6), .int .i64 (z 7), .int .i64 (z 8), .int .i64 (z 9), .int .i64 (z 10), .int .i64 (z 11), .int .i64 (z 12), .int .i64 (z 13), .int .i64 (z 14), .int .i64 (z 15)] : List Value).length := by kernel_rfl
        cases h1 : okC (z 0) (z 1) (z 2) (z 3) (z 4) (z 5) (z 6) (fun k => z (7 + k))
        · rw [h1] at HC
          have Rp : w0.rangeAt np 0 [.int .i64 (z 0), .int .i64 (z 1), .int .i64 (z 2), .int .i64 (z 3), .int .i64 (z 4), .int .i64 (z 5), .int .i64 (z 6), .int .i64 (z 7), .int .i64 (z 8), .int .i64 (z 9), .int .i64 (z 10), .int .i64 (z 11), .int .i64 (z 12), .int .i64 (z 13), .int .i64 (z 14), .int .i64 (z 15)] := Fp.out.take 16
          go_wp2_with (first | ((with_reducible show wpList _ _ _ (_ :: _) _ _); refine wpList_load_mid rfl 27 (.tmp 30) rfl np 0 rfl [.int .i64 (z 0), .int .i64 (z 1), .int .i64 (z 2), .int .i64 (z 3), .int .i64 (z 4), .int .i64 (z 5), .int .i64 (z 6), .int .i64 (z 7), .int .i64 (z 8), .int .i64 (z 9), .int .i64 (z 10), .int .i64 (z 11), .int .i64 (z 12), .int .i64 (z 13), .int .i64 (z 14), .int .i64 (z 15)] _ Rp Try.underlying27 rfl hsC ?_) | (go_at_call 7; refine (HC.out _).mono ?_; rintro e u0 ⟨rfl, x0⟩))
          go_roundw
          case rel => exact ⟨k + 1, by omega, by go_num, FX.out.trans x0⟩
          case measure => simp [intOf]; omega
        · rw [h1] at HC
          cases h2 : okR (z 16) (z 17) (z 18) (z 19)
          · rw [h2] at HR
            have Rp : w0.rangeAt np 0 [.int .i64 (z 0), .int .i64 (z 1), .int .i64 (z 2), .int .i64 (z 3), .int .i64 (z 4), .int .i64 (z 5), .int .i64 (z 6), .int .i64 (z 7), .int .i64 (z 8), .int .i64 (z 9), .int .i64 (z 10), .int .i64 (z 11), .int .i64 (z 12), .int .i64 (z 13), .int .i64 (z 14), .int .i64 (z 15)] := Fp.out.take 16
            go_wp2_with (first | ((with_reducible show wpList _ _ _ (_ :: _) _ _); refine wpList_load_mid rfl 27 (.tmp 30) rfl np 0 rfl [.int .i64 (z 0), .int .i64 (z 1), .int .i64 (z 2), .int .i64 (z 3), .int .i64 (z 4), .int .i64 (z 5), .int .i64 (z 6), .int .i64 (z 7), .int .i64 (z 8), .int .i64 (z 9), .int .i64 (z 10), .int .i64 (z 11), .int .i64 (z 12), .int .i64 (z 13), .int .i64 (z 14), .int .i64 (z 15)] _ Rp Try.underlying27 rfl hsC ?_) | (go_at_call 7; refine (HC.out _).mono ?_; rintro e u0 ⟨rfl, x0⟩; have kp16 : u0.cell? ⟨np, 16, none⟩ = some (.int .i64 (z 16)) := (Fp.out.ext x0).c 16 rfl; have kp17 : u0.cell? ⟨np, 17, none⟩ = some (.int .i64 (z 17)) := (Fp.out.ext x0).c 17 rfl; have kp18 : u0.cell? ⟨np, 18, none⟩ = some (.int .i64 (z 18)) := (Fp.out.ext x0).c 18 rfl; have kp19 : u0.cell? ⟨np, 19, none⟩ = some (.int .i64 (z 19)) := (Fp.out.ext x0).c 19 rfl) | (go_at_call 8; refine (HR.out _).mono ?_; rintro e u1 ⟨rfl, x1⟩))
            go_roundw
            case rel => exact ⟨k + 1, by omega, by go_num, FX.out.trans (x0.trans x1)⟩
            case measure => simp [intOf]; omega
          · rw [h2] at HR
            have Rp : w0.rangeAt np 0 [.int .i64 (z 0), .int .i64 (z 1), .int .i64 (z 2), .int .i64 (z 3), .int .i64 (z 4), .int .i64 (z 5), .int .i64 (z 6), .int .i64 (z 7), .int .i64 (z 8), .int .i64 (z 9), .int .i64 (z 10), .int .i64 (z 11), .int .i64 (z 12), .int .i64 (z 13), .int .i64 (z 14), .int .i64 (z 15)] := Fp.out.take 16
            go_upto_region 6 with (first | ((with_reducible show wpList _ _ _ (_ :: _) _ _); refine wpList_load_mid rfl 27 (.tmp 30) rfl np 0 rfl [.int .i64 (z 0), .int .i64 (z 1), .int .i64 (z 2), .int .i64 (z 3), .int .i64 (z 4), .int .i64 (z 5), .int .i64 (z 6), .int .i64 (z 7), .int .i64 (z 8), .int .i64 (z 9), .int .i64 (z 10), .int .i64 (z 11), .int .i64 (z 12), .int .i64 (z 13), .int .i64 (z 14), .int .i64 (z 15)] _ Rp Try.underlying27 rfl hsC ?_) | (go_at_call 7; refine (HC.out _).mono ?_; rintro e u0 ⟨rfl, x0⟩; have kp16 : u0.cell? ⟨np, 16, none⟩ = some (.int .i64 (z 16)) := (Fp.out.ext x0).c 16 rfl; have kp17 : u0.cell? ⟨np, 17, none⟩ = some (.int .i64 (z 17)) := (Fp.out.ext x0).c 17 rfl; have kp18 : u0.cell? ⟨np, 18, none⟩ = some (.int .i64 (z 18)) := (Fp.out.ext x0).c 18 rfl; have kp19 : u0.cell? ⟨np, 19, none⟩ = some (.int .i64 (z 19)) := (Fp.out.ext x0).c 19 rfl) | (go_at_call 8; refine (HR.out _).mono ?_; rintro e u1 ⟨rfl, x1⟩))
            have x01 := x0.trans x1
            have Fp : Hid (HV u1 np [.int .i64 (z 0), .int .i64 (z 1), .int .i64 (z 2), .int .i64 (z 3), .int .i64 (z 4), .int .i64 (z 5), .int .i64 (z 6), .int .i64 (z 7), .int .i64 (z 8), .int .i64 (z 9), .int .i64 (z 10), .int .i64 (z 11), .int .i64 (z 12), .int .i64 (z 13), .int .i64 (z 14), .int .i64 (z 15), .int .i64 (z 16), .int .i64 (z 17), .int .i64 (z 18), .int .i64 (z 19)]) := Fp.out.ext x01
            have FX : Hid (Ext w u1) := FX.out.trans x01
            clear Rp x0 x1 x01 HC HR kp16 kp17 kp18 kp19
            obtain ⟨a0, a1, a2, ee, A1, A2⟩ := rows_told z h1 h2
            have A1 : Hid (∀ w, Calls Try.prog 10 #[.agg #[.int .i64 (z 0), .int .i64 (z 1), .int .i64 (z 2), .int .i64 (z 3), .int .i64 (z 4), .int .i64 (z 5), .int .i64 (z 6), .int .i64 (z 7), .int .i64 (z 8), .int .i64 (z 9), .int .i64 (z 10), .int .i64 (z 11), .int .i64 (z 12), .int .i64 (z 13), .int .i64 (z 14), .int .i64 (z 15)], .agg #[.int .i64 (z 16), .int .i64 (z 17), .int .i64 (z 18), .int .i64 (z 19)]] w fun e w' => e = .returned (.tuple #[.agg #[.int .i64 a0, .int .i64 a1, .int .i64 a2], .int .i64 ee]) ∧ Ext w w') := A1
            have A2 : Hid (∀ w, Calls Try.prog 10 #[.agg #[.int .i64 (z 0), .int .i64 (z 1), .int .i64 (z 2), .int .i64 (z 3), .int .i64 (z 4), .int .i64 (z 5), .int .i64 (z 6), .int .i64 (z 10), .int .i64 (z 11), .int .i64 (z 12), .int .i64 (z 7), .int .i64 (z 8), .int .i64 (z 9), .int .i64 (z 13), .int .i64 (z 14), .int .i64 (z 15)], .agg #[.int .i64 (z 16), .int .i64 (z 17), .int .i64 (z 18), .int .i64 (z 19)]] w fun e w' => e = .returned (.tuple #[.agg #[.int .i64 a1, .int .i64 a0, .int .i64 a2], .int .i64 ee]) ∧ Ext w w') := A2
            have NT := fun hn => neg_told z h1 h2 hn
            have NT : Hid _ := NT
            have HR2 : Hid (∀ w, Calls Try.prog 8 #[.agg #[.int .i64 (-z 16), .int .i64 (-z 17), .int .i64 (-z 18), .int .i64 (z 19)]] w fun e w' => e = .returned (.bool (okR (-z 16) (-z 17) (-z 18) (z 19))) ∧ Ext w w') := mayraw_any _ _ _ _
            obtain ⟨⟨bx1, bx2⟩, ⟨by1, by2⟩, ⟨bv1, bv2⟩, _⟩ := okR_bounds h2
            clear h1 h2
            have Rp : u1.rangeAt np 0 [.int .i64 (z 0), .int .i64 (z 1), .int .i64 (z 2), .int .i64 (z 3), .int .i64 (z 4), .int .i64 (z 5), .int .i64 (z 6), .int .i64 (z 7), .int .i64 (z 8), .int .i64 (z 9), .int .i64 (z 10), .int .i64 (z 11), .int .i64 (z 12), .int .i64 (z 13), .int .i64 (z 14), .int .i64 (z 15)] := Fp.out.take 16
            go_upto_region 7 with (first | ((with_reducible show wpList _ _ _ (_ :: _) _ _); refine wpList_load_mid rfl 27 (.tmp 40) rfl np 0 rfl [.int .i64 (z 0), .int .i64 (z 1), .int .i64 (z 2), .int .i64 (z 3), .int .i64 (z 4), .int .i64 (z 5), .int .i64 (z 6), .int .i64 (z 7), .int .i64 (z 8), .int .i64 (z 9), .int .i64 (z 10), .int .i64 (z 11), .int .i64 (z 12), .int .i64 (z 13), .int .i64 (z 14), .int .i64 (z 15)] _ Rp Try.underlying27 rfl hsC ?_) | ((with_reducible show wpList _ _ _ (_ :: _) _ _); refine wpList_store_new 27 [.int .i64 0, .int .i64 0, .int .i64 0, .int .i64 0, .int .i64 0, .int .i64 0, .int .i64 0, .int .i64 0, .int .i64 0, .int .i64 0, .int .i64 0, .int .i64 0, .int .i64 0, .int .i64 0, .int .i64 0, .int .i64 0] [.int .i64 (z 0), .int .i64 (z 1), .int .i64 (z 2), .int .i64 (z 3), .int .i64 (z 4), .int .i64 (z 5), .int .i64 (z 6), .int .i64 (z 7), .int .i64 (z 8), .int .i64 (z 9), .int .i64 (z 10), .int .i64 (z 11), .int .i64 (z 12), .int .i64 (z 13), .int .i64 (z 14), .int .i64 (z 15)] rfl 27 (.tmp 5) (.tmp 41) rfl rfl rfl rfl hsC (by simp [Value.oneCell']) ?_))
            clear Rp
            have ltpc : np < u1.heap.size := Fp.out.1
            have Lc : Hid (w.heap.size ≤ u1.heap.size) := FX.out.size
            have Fp : Hid (HV (u1.alloc (.cells #[.int .i64 (z 0), .int .i64 (z 1), .int .i64 (z 2), .int .i64 (z 3), .int .i64 (z 4), .int .i64 (z 5), .int .i64 (z 6), .int .i64 (z 7), .int .i64 (z 8), .int .i64 (z 9), .int .i64 (z 10), .int .i64 (z 11), .int .i64 (z 12), .int .i64 (z 13), .int .i64 (z 14), .int .i64 (z 15)] 27)) np [.int .i64 (z 0), .int .i64 (z 1), .int .i64 (z 2), .int .i64 (z 3), .int .i64 (z 4), .int .i64 (z 5), .int .i64 (z 6), .int .i64 (z 7), .int .i64 (z 8), .int .i64 (z 9), .int .i64 (z 10), .int .i64 (z 11), .int .i64 (z 12), .int .i64 (z 13), .int .i64 (z 14), .int .i64 (z 15), .int .i64 (z 16), .int .i64 (z 17), .int .i64 (z 18), .int .i64 (z 19)]) := Fp.out.alloc _
            have Fc : Hid (HV (u1.alloc (.cells #[.int .i64 (z 0), .int .i64 (z 1), .int .i64 (z 2), .int .i64 (z 3), .int .i64 (z 4), .int .i64 (z 5), .int .i64 (z 6), .int .i64 (z 7), .int .i64 (z 8), .int .i64 (z 9), .int .i64 (z 10), .int .i64 (z 11), .int .i64 (z 12), .int .i64 (z 13), .int .i64 (z 14), .int .i64 (z 15)] 27)) u1.heap.size [.int .i64 (z 0), .int .i64 (z 1), .int .i64 (z 2), .int .i64 (z 3), .int .i64 (z 4), .int .i64 (z 5), .int .i64 (z 6), .int .i64 (z 7), .int .i64 (z 8), .int .i64 (z 9), .int .i64 (z 10), .int .i64 (z 11), .int .i64 (z 12), .int .i64 (z 13), .int .i64 (z 14), .int .i64 (z 15)]) := hv_at rfl
            have FX : Hid (Ext w (u1.alloc (.cells #[.int .i64 (z 0), .int .i64 (z 1), .int .i64 (z 2), .int .i64 (z 3), .int .i64 (z 4), .int .i64 (z 5), .int .i64 (z 6), .int .i64 (z 7), .int .i64 (z 8), .int .i64 (z 9), .int .i64 (z 10), .int .i64 (z 11), .int .i64 (z 12), .int .i64 (z 13), .int .i64 (z 14), .int .i64 (z 15)] 27))) := FX.out.alloc _
            generalize (u1.alloc (.cells #[.int .i64 (z 0), .int .i64 (z 1), .int .i64 (z 2), .int .i64 (z 3), .int .i64 (z 4), .int .i64 (z 5), .int .i64 (z 6), .int .i64 (z 7), .int .i64 (z 8), .int .i64 (z 9), .int .i64 (z 10), .int .i64 (z 11), .int .i64 (z 12), .int .i64 (z 13), .int .i64 (z 14), .int .i64 (z 15)] 27)) = wx1 at *
            generalize u1.heap.size = nc at *
            go_wp2_with fail
            refine wp_loop_rounds 4 ?_
            rw [rounds_succ]
            have qp10 : wx1.cell? ⟨np, 10, none⟩ = some (.int .i64 (z 10)) := Fp.out.c 10 rfl
            have qp7 : wx1.cell? ⟨np, 7, none⟩ = some (.int .i64 (z 7)) := Fp.out.c 7 rfl
            have qc7 : wx1.cell? ⟨nc, 7, none⟩ = some (.int .i64 (z 7)) := Fc.out.c 7 rfl
            have zc7 : wx1.frozen? ⟨nc, 7, none⟩ = false := Fc.out.f 7 rfl
            have qc10 : wx1.cell? ⟨nc, 10, none⟩ = some (.int .i64 (z 10)) := Fc.out.c 10 rfl
            have zc10 : wx1.frozen? ⟨nc, 10, none⟩ = false := Fc.out.f 10 rfl
            have qp7b : (wx1.setCell ⟨nc, 7, none⟩ (.int .i64 (z 10))).cell? ⟨np, 7, none⟩ = some (.int .i64 (z 7)) := (Fp.out.far (by omega)).c 7 rfl
            go_wp2_with fail
            clear qp10 qp7 qc7 zc7 qc10 zc10 qp7b
            have Fp : Hid (HV ((wx1.setCell ⟨nc, 7, none⟩ (.int .i64 (z 10))).setCell ⟨nc, 10, none⟩ (.int .i64 (z 7))) np [.int .i64 (z 0), .int .i64 (z 1), .int .i64 (z 2), .int .i64 (z 3), .int .i64 (z 4), .int .i64 (z 5), .int .i64 (z 6), .int .i64 (z 7), .int .i64 (z 8), .int .i64 (z 9), .int .i64 (z 10), .int .i64 (z 11), .int .i64 (z 12), .int .i64 (z 13), .int .i64 (z 14), .int .i64 (z 15), .int .i64 (z 16), .int .i64 (z 17), .int .i64 (z 18), .int .i64 (z 19)]) := ((Fp.out.far (by omega)).far (by omega))
            have Fc : Hid (HV ((wx1.setCell ⟨nc, 7, none⟩ (.int .i64 (z 10))).setCell ⟨nc, 10, none⟩ (.int .i64 (z 7))) nc [.int .i64 (z 0), .int .i64 (z 1), .int .i64 (z 2), .int .i64 (z 3), .int .i64 (z 4), .int .i64 (z 5), .int .i64 (z 6), .int .i64 (z 10), .int .i64 (z 8), .int .i64 (z 9), .int .i64 (z 7), .int .i64 (z 11), .int .i64 (z 12), .int .i64 (z 13), .int .i64 (z 14), .int .i64 (z 15)]) := ((Fc.out.set 7 (.int .i64 (z 10))).set 10 (.int .i64 (z 7)))
            have FX : Hid (Ext w ((wx1.setCell ⟨nc, 7, none⟩ (.int .i64 (z 10))).setCell ⟨nc, 10, none⟩ (.int .i64 (z 7)))) := ((FX.out.set (p := ⟨nc, 7, none⟩) Lc.out (.int .i64 (z 10))).set (p := ⟨nc, 10, none⟩) Lc.out (.int .i64 (z 7)))
            generalize ((wx1.setCell ⟨nc, 7, none⟩ (.int .i64 (z 10))).setCell ⟨nc, 10, none⟩ (.int .i64 (z 7))) = wx2 at *
            rw [rounds_succ]
            have qp11 : wx2.cell? ⟨np, 11, none⟩ = some (.int .i64 (z 11)) := Fp.out.c 11 rfl
            have qp8 : wx2.cell? ⟨np, 8, none⟩ = some (.int .i64 (z 8)) := Fp.out.c 8 rfl
            have qc8 : wx2.cell? ⟨nc, 8, none⟩ = some (.int .i64 (z 8)) := Fc.out.c 8 rfl
            have zc8 : wx2.frozen? ⟨nc, 8, none⟩ = false := Fc.out.f 8 rfl
            have qc11 : wx2.cell? ⟨nc, 11, none⟩ = some (.int .i64 (z 11)) := Fc.out.c 11 rfl
            have zc11 : wx2.frozen? ⟨nc, 11, none⟩ = false := Fc.out.f 11 rfl
            have qp8b : (wx2.setCell ⟨nc, 8, none⟩ (.int .i64 (z 11))).cell? ⟨np, 8, none⟩ = some (.int .i64 (z 8)) := (Fp.out.far (by omega)).c 8 rfl
            go_wp2_with fail
            clear qp11 qp8 qc8 zc8 qc11 zc11 qp8b
            have Fp : Hid (HV ((wx2.setCell ⟨nc, 8, none⟩ (.int .i64 (z 11))).setCell ⟨nc, 11, none⟩ (.int .i64 (z 8))) np [.int .i64 (z 0), .int .i64 (z 1), .int .i64 (z 2), .int .i64 (z 3), .int .i64 (z 4), .int .i64 (z 5), .int .i64 (z 6), .int .i64 (z 7), .int .i64 (z 8), .int .i64 (z 9), .int .i64 (z 10), .int .i64 (z 11), .int .i64 (z 12), .int .i64 (z 13), .int .i64 (z 14), .int .i64 (z 15), .int .i64 (z 16), .int .i64 (z 17), .int .i64 (z 18), .int .i64 (z 19)]) := ((Fp.out.far (by omega)).far (by omega))
            have Fc : Hid (HV ((wx2.setCell ⟨nc, 8, none⟩ (.int .i64 (z 11))).setCell ⟨nc, 11, none⟩ (.int .i64 (z 8))) nc [.int .i64 (z 0), .int .i64 (z 1), .int .i64 (z 2), .int .i64 (z 3), .int .i64 (z 4), .int .i64 (z 5), .int .i64 (z 6), .int .i64 (z 10), .int .i64 (z 11), .int .i64 (z 9), .int .i64 (z 7), .int .i64 (z 8), .int .i64 (z 12), .int .i64 (z 13), .int .i64 (z 14), .int .i64 (z 15)]) := ((Fc.out.set 8 (.int .i64 (z 11))).set 11 (.int .i64 (z 8)))
            have FX : Hid (Ext w ((wx2.setCell ⟨nc, 8, none⟩ (.int .i64 (z 11))).setCell ⟨nc, 11, none⟩ (.int .i64 (z 8)))) := ((FX.out.set (p := ⟨nc, 8, none⟩) Lc.out (.int .i64 (z 11))).set (p := ⟨nc, 11, none⟩) Lc.out (.int .i64 (z 8)))
            generalize ((wx2.setCell ⟨nc, 8, none⟩ (.int .i64 (z 11))).setCell ⟨nc, 11, none⟩ (.int .i64 (z 8))) = wx3 at *
            rw [rounds_succ]
            have qp12 : wx3.cell? ⟨np, 12, none⟩ = some (.int .i64 (z 12)) := Fp.out.c 12 rfl
            have qp9 : wx3.cell? ⟨np, 9, none⟩ = some (.int .i64 (z 9)) := Fp.out.c 9 rfl
            have qc9 : wx3.cell? ⟨nc, 9, none⟩ = some (.int .i64 (z 9)) := Fc.out.c 9 rfl
            have zc9 : wx3.frozen? ⟨nc, 9, none⟩ = false := Fc.out.f 9 rfl
            have qc12 : wx3.cell? ⟨nc, 12, none⟩ = some (.int .i64 (z 12)) := Fc.out.c 12 rfl
            have zc12 : wx3.frozen? ⟨nc, 12, none⟩ = false := Fc.out.f 12 rfl
            have qp9b : (wx3.setCell ⟨nc, 9, none⟩ (.int .i64 (z 12))).cell? ⟨np, 9, none⟩ = some (.int .i64 (z 9)) := (Fp.out.far (by omega)).c 9 rfl
            go_wp2_with fail
            clear qp12 qp9 qc9 zc9 qc12 zc12 qp9b
            have Fp : Hid (HV ((wx3.setCell ⟨nc, 9, none⟩ (.int .i64 (z 12))).setCell ⟨nc, 12, none⟩ (.int .i64 (z 9))) np [.int .i64 (z 0), .int .i64 (z 1), .int .i64 (z 2), .int .i64 (z 3), .int .i64 (z 4), .int .i64 (z 5), .int .i64 (z 6), .int .i64 (z 7), .int .i64 (z 8), .int .i64 (z 9), .int .i64 (z 10), .int .i64 (z 11), .int .i64 (z 12), .int .i64 (z 13), .int .i64 (z 14), .int .i64 (z 15), .int .i64 (z 16), .int .i64 (z 17), .int .i64 (z 18), .int .i64 (z 19)]) := ((Fp.out.far (by omega)).far (by omega))
            have Fc : Hid (HV ((wx3.setCell ⟨nc, 9, none⟩ (.int .i64 (z 12))).setCell ⟨nc, 12, none⟩ (.int .i64 (z 9))) nc [.int .i64 (z 0), .int .i64 (z 1), .int .i64 (z 2), .int .i64 (z 3), .int .i64 (z 4), .int .i64 (z 5), .int .i64 (z 6), .int .i64 (z 10), .int .i64 (z 11), .int .i64 (z 12), .int .i64 (z 7), .int .i64 (z 8), .int .i64 (z 9), .int .i64 (z 13), .int .i64 (z 14), .int .i64 (z 15)]) := ((Fc.out.set 9 (.int .i64 (z 12))).set 12 (.int .i64 (z 9)))
            have FX : Hid (Ext w ((wx3.setCell ⟨nc, 9, none⟩ (.int .i64 (z 12))).setCell ⟨nc, 12, none⟩ (.int .i64 (z 9)))) := ((FX.out.set (p := ⟨nc, 9, none⟩) Lc.out (.int .i64 (z 12))).set (p := ⟨nc, 12, none⟩) Lc.out (.int .i64 (z 9)))
            generalize ((wx3.setCell ⟨nc, 9, none⟩ (.int .i64 (z 12))).setCell ⟨nc, 12, none⟩ (.int .i64 (z 9))) = wx4 at *
            rw [rounds_succ]
            go_upto_region 12 with fail
            have Rp : wx4.rangeAt np 0 [.int .i64 (z 0), .int .i64 (z 1), .int .i64 (z 2), .int .i64 (z 3), .int .i64 (z 4), .int .i64 (z 5), .int .i64 (z 6), .int .i64 (z 7), .int .i64 (z 8), .int .i64 (z 9), .int .i64 (z 10), .int .i64 (z 11), .int .i64 (z 12), .int .i64 (z 13), .int .i64 (z 14), .int .i64 (z 15)] := Fp.out.take 16
            have qp16 : wx4.cell? ⟨np, 16, none⟩ = some (.int .i64 (z 16)) := Fp.out.c 16 rfl
            have qp17 : wx4.cell? ⟨np, 17, none⟩ = some (.int .i64 (z 17)) := Fp.out.c 17 rfl
            have qp18 : wx4.cell? ⟨np, 18, none⟩ = some (.int .i64 (z 18)) := Fp.out.c 18 rfl
            have qp19 : wx4.cell? ⟨np, 19, none⟩ = some (.int .i64 (z 19)) := Fp.out.c 19 rfl
            go_upto_region 13 with (first | ((with_reducible show wpList _ _ _ (_ :: _) _ _); refine wpList_load_mid rfl 27 (.tmp 65) rfl np 0 rfl [.int .i64 (z 0), .int .i64 (z 1), .int .i64 (z 2), .int .i64 (z 3), .int .i64 (z 4), .int .i64 (z 5), .int .i64 (z 6), .int .i64 (z 7), .int .i64 (z 8), .int .i64 (z 9), .int .i64 (z 10), .int .i64 (z 11), .int .i64 (z 12), .int .i64 (z 13), .int .i64 (z 14), .int .i64 (z 15)] _ Rp Try.underlying27 rfl hsC ?_) | (go_at_call 10; refine (A1.out _).mono ?_; rintro e u2 ⟨rfl, x2⟩))
            have Fp : Hid (HV u2 np [.int .i64 (z 0), .int .i64 (z 1), .int .i64 (z 2), .int .i64 (z 3), .int .i64 (z 4), .int .i64 (z 5), .int .i64 (z 6), .int .i64 (z 7), .int .i64 (z 8), .int .i64 (z 9), .int .i64 (z 10), .int .i64 (z 11), .int .i64 (z 12), .int .i64 (z 13), .int .i64 (z 14), .int .i64 (z 15), .int .i64 (z 16), .int .i64 (z 17), .int .i64 (z 18), .int .i64 (z 19)]) := Fp.out.ext x2
            have Fc : Hid (HV u2 nc [.int .i64 (z 0), .int .i64 (z 1), .int .i64 (z 2), .int .i64 (z 3), .int .i64 (z 4), .int .i64 (z 5), .int .i64 (z 6), .int .i64 (z 10), .int .i64 (z 11), .int .i64 (z 12), .int .i64 (z 7), .int .i64 (z 8), .int .i64 (z 9), .int .i64 (z 13), .int .i64 (z 14), .int .i64 (z 15)]) := Fc.out.ext x2
            have FX : Hid (Ext w u2) := FX.out.trans x2
            clear Rp qp16 qp17 qp18 qp19 x2 A1
            have ltpa : np < u2.heap.size := Fp.out.1
            have ltca : nc < u2.heap.size := Fc.out.1
            have La : Hid (w.heap.size ≤ u2.heap.size) := FX.out.size
            have Fp : Hid (HV (u2.alloc (.cells #[.int .i64 a0, .int .i64 a1, .int .i64 a2] 24)) np [.int .i64 (z 0), .int .i64 (z 1), .int .i64 (z 2), .int .i64 (z 3), .int .i64 (z 4), .int .i64 (z 5), .int .i64 (z 6), .int .i64 (z 7), .int .i64 (z 8), .int .i64 (z 9), .int .i64 (z 10), .int .i64 (z 11), .int .i64 (z 12), .int .i64 (z 13), .int .i64 (z 14), .int .i64 (z 15), .int .i64 (z 16), .int .i64 (z 17), .int .i64 (z 18), .int .i64 (z 19)]) := Fp.out.alloc _
            have Fc : Hid (HV (u2.alloc (.cells #[.int .i64 a0, .int .i64 a1, .int .i64 a2] 24)) nc [.int .i64 (z 0), .int .i64 (z 1), .int .i64 (z 2), .int .i64 (z 3), .int .i64 (z 4), .int .i64 (z 5), .int .i64 (z 6), .int .i64 (z 10), .int .i64 (z 11), .int .i64 (z 12), .int .i64 (z 7), .int .i64 (z 8), .int .i64 (z 9), .int .i64 (z 13), .int .i64 (z 14), .int .i64 (z 15)]) := Fc.out.alloc _
            have Fa : Hid (HV (u2.alloc (.cells #[.int .i64 a0, .int .i64 a1, .int .i64 a2] 24)) u2.heap.size [.int .i64 a0, .int .i64 a1, .int .i64 a2]) := hv_at rfl
            have FX : Hid (Ext w (u2.alloc (.cells #[.int .i64 a0, .int .i64 a1, .int .i64 a2] 24))) := FX.out.alloc _
            generalize (u2.alloc (.cells #[.int .i64 a0, .int .i64 a1, .int .i64 a2] 24)) = wx5 at *
            generalize u2.heap.size = na at *
            have qp16 : wx5.cell? ⟨np, 16, none⟩ = some (.int .i64 (z 16)) := Fp.out.c 16 rfl
            have qp17 : wx5.cell? ⟨np, 17, none⟩ = some (.int .i64 (z 17)) := Fp.out.c 17 rfl
            have qp18 : wx5.cell? ⟨np, 18, none⟩ = some (.int .i64 (z 18)) := Fp.out.c 18 rfl
            have qp19 : wx5.cell? ⟨np, 19, none⟩ = some (.int .i64 (z 19)) := Fp.out.c 19 rfl
            have Rc : wx5.rangeAt nc 0 [.int .i64 (z 0), .int .i64 (z 1), .int .i64 (z 2), .int .i64 (z 3), .int .i64 (z 4), .int .i64 (z 5), .int .i64 (z 6), .int .i64 (z 10), .int .i64 (z 11), .int .i64 (z 12), .int .i64 (z 7), .int .i64 (z 8), .int .i64 (z 9), .int .i64 (z 13), .int .i64 (z 14), .int .i64 (z 15)] := Fc.out.rng 0
            go_upto_region 14 with (first | ((with_reducible show wpList _ _ _ (_ :: _) _ _); refine wpList_load_mid rfl 27 (.tmp 5) rfl nc 0 rfl [.int .i64 (z 0), .int .i64 (z 1), .int .i64 (z 2), .int .i64 (z 3), .int .i64 (z 4), .int .i64 (z 5), .int .i64 (z 6), .int .i64 (z 10), .int .i64 (z 11), .int .i64 (z 12), .int .i64 (z 7), .int .i64 (z 8), .int .i64 (z 9), .int .i64 (z 13), .int .i64 (z 14), .int .i64 (z 15)] _ Rc Try.underlying27 rfl hsC ?_) | (go_at_call 10; refine (A2.out _).mono ?_; rintro e u3 ⟨rfl, x3⟩))
            have Fp : Hid (HV u3 np [.int .i64 (z 0), .int .i64 (z 1), .int .i64 (z 2), .int .i64 (z 3), .int .i64 (z 4), .int .i64 (z 5), .int .i64 (z 6), .int .i64 (z 7), .int .i64 (z 8), .int .i64 (z 9), .int .i64 (z 10), .int .i64 (z 11), .int .i64 (z 12), .int .i64 (z 13), .int .i64 (z 14), .int .i64 (z 15), .int .i64 (z 16), .int .i64 (z 17), .int .i64 (z 18), .int .i64 (z 19)]) := Fp.out.ext x3
            have Fc : Hid (HV u3 nc [.int .i64 (z 0), .int .i64 (z 1), .int .i64 (z 2), .int .i64 (z 3), .int .i64 (z 4), .int .i64 (z 5), .int .i64 (z 6), .int .i64 (z 10), .int .i64 (z 11), .int .i64 (z 12), .int .i64 (z 7), .int .i64 (z 8), .int .i64 (z 9), .int .i64 (z 13), .int .i64 (z 14), .int .i64 (z 15)]) := Fc.out.ext x3
            have Fa : Hid (HV u3 na [.int .i64 a0, .int .i64 a1, .int .i64 a2]) := Fa.out.ext x3
            have FX : Hid (Ext w u3) := FX.out.trans x3
            clear qp16 qp17 qp18 qp19 Rc x3 A2
            have ltpb : np < u3.heap.size := Fp.out.1
            have ltcb : nc < u3.heap.size := Fc.out.1
            have ltab : na < u3.heap.size := Fa.out.1
            have Lb : Hid (w.heap.size ≤ u3.heap.size) := FX.out.size
            have Fp : Hid (HV (u3.alloc (.cells #[.int .i64 a1, .int .i64 a0, .int .i64 a2] 24)) np [.int .i64 (z 0), .int .i64 (z 1), .int .i64 (z 2), .int .i64 (z 3), .int .i64 (z 4), .int .i64 (z 5), .int .i64 (z 6), .int .i64 (z 7), .int .i64 (z 8), .int .i64 (z 9), .int .i64 (z 10), .int .i64 (z 11), .int .i64 (z 12), .int .i64 (z 13), .int .i64 (z 14), .int .i64 (z 15), .int .i64 (z 16), .int .i64 (z 17), .int .i64 (z 18), .int .i64 (z 19)]) := Fp.out.alloc _
            have Fc : Hid (HV (u3.alloc (.cells #[.int .i64 a1, .int .i64 a0, .int .i64 a2] 24)) nc [.int .i64 (z 0), .int .i64 (z 1), .int .i64 (z 2), .int .i64 (z 3), .int .i64 (z 4), .int .i64 (z 5), .int .i64 (z 6), .int .i64 (z 10), .int .i64 (z 11), .int .i64 (z 12), .int .i64 (z 7), .int .i64 (z 8), .int .i64 (z 9), .int .i64 (z 13), .int .i64 (z 14), .int .i64 (z 15)]) := Fc.out.alloc _
            have Fa : Hid (HV (u3.alloc (.cells #[.int .i64 a1, .int .i64 a0, .int .i64 a2] 24)) na [.int .i64 a0, .int .i64 a1, .int .i64 a2]) := Fa.out.alloc _
            have Fb : Hid (HV (u3.alloc (.cells #[.int .i64 a1, .int .i64 a0, .int .i64 a2] 24)) u3.heap.size [.int .i64 a1, .int .i64 a0, .int .i64 a2]) := hv_at rfl
            have FX : Hid (Ext w (u3.alloc (.cells #[.int .i64 a1, .int .i64 a0, .int .i64 a2] 24))) := FX.out.alloc _
            generalize (u3.alloc (.cells #[.int .i64 a1, .int .i64 a0, .int .i64 a2] 24)) = wx6 at *
            generalize u3.heap.size = nb at *
            have qa0 : wx6.cell? ⟨na, 0, none⟩ = some (.int .i64 a0) := Fa.out.c 0 rfl
            have qa1 : wx6.cell? ⟨na, 1, none⟩ = some (.int .i64 a1) := Fa.out.c 1 rfl
            have qa2 : wx6.cell? ⟨na, 2, none⟩ = some (.int .i64 a2) := Fa.out.c 2 rfl
            have qb0 : wx6.cell? ⟨nb, 0, none⟩ = some (.int .i64 a1) := Fb.out.c 0 rfl
            have qb1 : wx6.cell? ⟨nb, 1, none⟩ = some (.int .i64 a0) := Fb.out.c 1 rfl
            have qb2 : wx6.cell? ⟨nb, 2, none⟩ = some (.int .i64 a2) := Fb.out.c 2 rfl
            go_upto_region 16 with (first | (go_at_call 11; refine (num10_any _ _).mono ?_; rintro e wx ⟨rfl, hwx⟩; have hwy := hwx.symm; clear hwx; subst hwy))
            clear qa0 qa1 qa2 qb0 qb1 qb2
            have Rp : wx6.rangeAt np 0 [.int .i64 (z 0), .int .i64 (z 1), .int .i64 (z 2), .int .i64 (z 3), .int .i64 (z 4), .int .i64 (z 5), .int .i64 (z 6), .int .i64 (z 7), .int .i64 (z 8), .int .i64 (z 9), .int .i64 (z 10), .int .i64 (z 11), .int .i64 (z 12), .int .i64 (z 13), .int .i64 (z 14), .int .i64 (z 15)] := Fp.out.take 16
            have FV : HV wx6 nc [.int .i64 (z 0), .int .i64 (z 1), .int .i64 (z 2), .int .i64 (z 3), .int .i64 (z 4), .int .i64 (z 5), .int .i64 (z 6), .int .i64 (z 10), .int .i64 (z 11), .int .i64 (z 12), .int .i64 (z 7), .int .i64 (z 8), .int .i64 (z 9), .int .i64 (z 13), .int .i64 (z 14), .int .i64 (z 15)] := Fc.out
            go_upto_region 17 with (first | ((with_reducible show wpList _ _ _ (_ :: _) _ _); refine wpList_load_mid rfl 27 (.tmp 95) rfl np 0 rfl [.int .i64 (z 0), .int .i64 (z 1), .int .i64 (z 2), .int .i64 (z 3), .int .i64 (z 4), .int .i64 (z 5), .int .i64 (z 6), .int .i64 (z 7), .int .i64 (z 8), .int .i64 (z 9), .int .i64 (z 10), .int .i64 (z 11), .int .i64 (z 12), .int .i64 (z 13), .int .i64 (z 14), .int .i64 (z 15)] _ Rp Try.underlying27 rfl hsC ?_) | ((with_reducible show wpList _ _ _ (_ :: _) _ _); refine wpList_store_var nc [.int .i64 (z 0), .int .i64 (z 1), .int .i64 (z 2), .int .i64 (z 3), .int .i64 (z 4), .int .i64 (z 5), .int .i64 (z 6), .int .i64 (z 10), .int .i64 (z 11), .int .i64 (z 12), .int .i64 (z 7), .int .i64 (z 8), .int .i64 (z 9), .int .i64 (z 13), .int .i64 (z 14), .int .i64 (z 15)] [.int .i64 (z 0), .int .i64 (z 1), .int .i64 (z 2), .int .i64 (z 3), .int .i64 (z 4), .int .i64 (z 5), .int .i64 (z 6), .int .i64 (z 7), .int .i64 (z 8), .int .i64 (z 9), .int .i64 (z 10), .int .i64 (z 11), .int .i64 (z 12), .int .i64 (z 13), .int .i64 (z 14), .int .i64 (z 15)] rfl 27 (.tmp 5) (.tmp 96) rfl rfl rfl FV rfl hsC (by simp [Value.oneCell']) ?_; intro ws V1 V2 V3))
            have Fp : Hid (HV ws np [.int .i64 (z 0), .int .i64 (z 1), .int .i64 (z 2), .int .i64 (z 3), .int .i64 (z 4), .int .i64 (z 5), .int .i64 (z 6), .int .i64 (z 7), .int .i64 (z 8), .int .i64 (z 9), .int .i64 (z 10), .int .i64 (z 11), .int .i64 (z 12), .int .i64 (z 13), .int .i64 (z 14), .int .i64 (z 15), .int .i64 (z 16), .int .i64 (z 17), .int .i64 (z 18), .int .i64 (z 19)]) := V2.out _ _ (by omega) Fp.out
            have Fa : Hid (HV ws na [.int .i64 a0, .int .i64 a1, .int .i64 a2]) := V2.out _ _ (by omega) Fa.out
            have Fb : Hid (HV ws nb [.int .i64 a1, .int .i64 a0, .int .i64 a2]) := V2.out _ _ (by omega) Fb.out
            have Fc : Hid (HV ws nc [.int .i64 (z 0), .int .i64 (z 1), .int .i64 (z 2), .int .i64 (z 3), .int .i64 (z 4), .int .i64 (z 5), .int .i64 (z 6), .int .i64 (z 7), .int .i64 (z 8), .int .i64 (z 9), .int .i64 (z 10), .int .i64 (z 11), .int .i64 (z 12), .int .i64 (z 13), .int .i64 (z 14), .int .i64 (z 15)]) := V1
            have FX : Hid (Ext w ws) := V3.out _ FX.out Lc.out
            clear Rp V1 V2 V3 FV
            have qc0 : ws.cell? ⟨nc, 0, none⟩ = some (.int .i64 (z 0)) := Fc.out.c 0 rfl
            have zc0 : ws.frozen? ⟨nc, 0, none⟩ = false := Fc.out.f 0 rfl
            have qc1 : ws.cell? ⟨nc, 1, none⟩ = some (.int .i64 (z 1)) := Fc.out.c 1 rfl
            have zc1 : ws.frozen? ⟨nc, 1, none⟩ = false := Fc.out.f 1 rfl
            have qc2 : ws.cell? ⟨nc, 2, none⟩ = some (.int .i64 (z 2)) := Fc.out.c 2 rfl
            have zc2 : ws.frozen? ⟨nc, 2, none⟩ = false := Fc.out.f 2 rfl
            go_upto_region 18 with fail
            clear qc0 zc0 qc1 zc1 qc2 zc2
            have Fp : Hid (HV (((ws.setCell ⟨nc, 0, none⟩ (.int .i64 0)).setCell ⟨nc, 1, none⟩ (.int .i64 0)).setCell ⟨nc, 2, none⟩ (.int .i64 0)) np [.int .i64 (z 0), .int .i64 (z 1), .int .i64 (z 2), .int .i64 (z 3), .int .i64 (z 4), .int .i64 (z 5), .int .i64 (z 6), .int .i64 (z 7), .int .i64 (z 8), .int .i64 (z 9), .int .i64 (z 10), .int .i64 (z 11), .int .i64 (z 12), .int .i64 (z 13), .int .i64 (z 14), .int .i64 (z 15), .int .i64 (z 16), .int .i64 (z 17), .int .i64 (z 18), .int .i64 (z 19)]) := (((Fp.out.far (by omega)).far (by omega)).far (by omega))
            have Fa : Hid (HV (((ws.setCell ⟨nc, 0, none⟩ (.int .i64 0)).setCell ⟨nc, 1, none⟩ (.int .i64 0)).setCell ⟨nc, 2, none⟩ (.int .i64 0)) na [.int .i64 a0, .int .i64 a1, .int .i64 a2]) := (((Fa.out.far (by omega)).far (by omega)).far (by omega))
            have Fb : Hid (HV (((ws.setCell ⟨nc, 0, none⟩ (.int .i64 0)).setCell ⟨nc, 1, none⟩ (.int .i64 0)).setCell ⟨nc, 2, none⟩ (.int .i64 0)) nb [.int .i64 a1, .int .i64 a0, .int .i64 a2]) := (((Fb.out.far (by omega)).far (by omega)).far (by omega))
            have Fc : Hid (HV (((ws.setCell ⟨nc, 0, none⟩ (.int .i64 0)).setCell ⟨nc, 1, none⟩ (.int .i64 0)).setCell ⟨nc, 2, none⟩ (.int .i64 0)) nc [.int .i64 0, .int .i64 0, .int .i64 0, .int .i64 (z 3), .int .i64 (z 4), .int .i64 (z 5), .int .i64 (z 6), .int .i64 (z 7), .int .i64 (z 8), .int .i64 (z 9), .int .i64 (z 10), .int .i64 (z 11), .int .i64 (z 12), .int .i64 (z 13), .int .i64 (z 14), .int .i64 (z 15)]) := (((Fc.out.set 0 (.int .i64 0)).set 1 (.int .i64 0)).set 2 (.int .i64 0))
            have FX : Hid (Ext w (((ws.setCell ⟨nc, 0, none⟩ (.int .i64 0)).setCell ⟨nc, 1, none⟩ (.int .i64 0)).setCell ⟨nc, 2, none⟩ (.int .i64 0))) := (((FX.out.set (p := ⟨nc, 0, none⟩) Lc.out (.int .i64 0)).set (p := ⟨nc, 1, none⟩) Lc.out (.int .i64 0)).set (p := ⟨nc, 2, none⟩) Lc.out (.int .i64 0))
            generalize (((ws.setCell ⟨nc, 0, none⟩ (.int .i64 0)).setCell ⟨nc, 1, none⟩ (.int .i64 0)).setCell ⟨nc, 2, none⟩ (.int .i64 0)) = wx7 at *
            have qc3 : wx7.cell? ⟨nc, 3, none⟩ = some (.int .i64 (z 3)) := Fc.out.c 3 rfl
            have zc3 : wx7.frozen? ⟨nc, 3, none⟩ = false := Fc.out.f 3 rfl
            have qc4 : wx7.cell? ⟨nc, 4, none⟩ = some (.int .i64 (z 4)) := Fc.out.c 4 rfl
            have zc4 : wx7.frozen? ⟨nc, 4, none⟩ = false := Fc.out.f 4 rfl
            have qc5 : wx7.cell? ⟨nc, 5, none⟩ = some (.int .i64 (z 5)) := Fc.out.c 5 rfl
            have zc5 : wx7.frozen? ⟨nc, 5, none⟩ = false := Fc.out.f 5 rfl
            go_upto_region 19 with fail
            clear qc3 zc3 qc4 zc4 qc5 zc5
            have Fp : Hid (HV (((wx7.setCell ⟨nc, 3, none⟩ (.int .i64 0)).setCell ⟨nc, 4, none⟩ (.int .i64 0)).setCell ⟨nc, 5, none⟩ (.int .i64 0)) np [.int .i64 (z 0), .int .i64 (z 1), .int .i64 (z 2), .int .i64 (z 3), .int .i64 (z 4), .int .i64 (z 5), .int .i64 (z 6), .int .i64 (z 7), .int .i64 (z 8), .int .i64 (z 9), .int .i64 (z 10), .int .i64 (z 11), .int .i64 (z 12), .int .i64 (z 13), .int .i64 (z 14), .int .i64 (z 15), .int .i64 (z 16), .int .i64 (z 17), .int .i64 (z 18), .int .i64 (z 19)]) := (((Fp.out.far (by omega)).far (by omega)).far (by omega))
            have Fa : Hid (HV (((wx7.setCell ⟨nc, 3, none⟩ (.int .i64 0)).setCell ⟨nc, 4, none⟩ (.int .i64 0)).setCell ⟨nc, 5, none⟩ (.int .i64 0)) na [.int .i64 a0, .int .i64 a1, .int .i64 a2]) := (((Fa.out.far (by omega)).far (by omega)).far (by omega))
            have Fb : Hid (HV (((wx7.setCell ⟨nc, 3, none⟩ (.int .i64 0)).setCell ⟨nc, 4, none⟩ (.int .i64 0)).setCell ⟨nc, 5, none⟩ (.int .i64 0)) nb [.int .i64 a1, .int .i64 a0, .int .i64 a2]) := (((Fb.out.far (by omega)).far (by omega)).far (by omega))
            have Fc : Hid (HV (((wx7.setCell ⟨nc, 3, none⟩ (.int .i64 0)).setCell ⟨nc, 4, none⟩ (.int .i64 0)).setCell ⟨nc, 5, none⟩ (.int .i64 0)) nc [.int .i64 0, .int .i64 0, .int .i64 0, .int .i64 0, .int .i64 0, .int .i64 0, .int .i64 (z 6), .int .i64 (z 7), .int .i64 (z 8), .int .i64 (z 9), .int .i64 (z 10), .int .i64 (z 11), .int .i64 (z 12), .int .i64 (z 13), .int .i64 (z 14), .int .i64 (z 15)]) := (((Fc.out.set 3 (.int .i64 0)).set 4 (.int .i64 0)).set 5 (.int .i64 0))
            have FX : Hid (Ext w (((wx7.setCell ⟨nc, 3, none⟩ (.int .i64 0)).setCell ⟨nc, 4, none⟩ (.int .i64 0)).setCell ⟨nc, 5, none⟩ (.int .i64 0))) := (((FX.out.set (p := ⟨nc, 3, none⟩) Lc.out (.int .i64 0)).set (p := ⟨nc, 4, none⟩) Lc.out (.int .i64 0)).set (p := ⟨nc, 5, none⟩) Lc.out (.int .i64 0))
            generalize (((wx7.setCell ⟨nc, 3, none⟩ (.int .i64 0)).setCell ⟨nc, 4, none⟩ (.int .i64 0)).setCell ⟨nc, 5, none⟩ (.int .i64 0)) = wx8 at *
            have qp16 : wx8.cell? ⟨np, 16, none⟩ = some (.int .i64 (z 16)) := Fp.out.c 16 rfl
            have qp17 : wx8.cell? ⟨np, 17, none⟩ = some (.int .i64 (z 17)) := Fp.out.c 17 rfl
            have qp18 : wx8.cell? ⟨np, 18, none⟩ = some (.int .i64 (z 18)) := Fp.out.c 18 rfl
            have qp19 : wx8.cell? ⟨np, 19, none⟩ = some (.int .i64 (z 19)) := Fp.out.c 19 rfl
            go_upto_region 20 with fail
            clear qp16 qp17 qp18 qp19
            have ltpr : np < wx8.heap.size := Fp.out.1
            have ltcr : nc < wx8.heap.size := Fc.out.1
            have ltar : na < wx8.heap.size := Fa.out.1
            have ltbr : nb < wx8.heap.size := Fb.out.1
            have Lr : Hid (w.heap.size ≤ wx8.heap.size) := FX.out.size
            have Fp : Hid (HV (wx8.alloc (.cells #[.int .i64 (-z 16), .int .i64 (-z 17), .int .i64 (-z 18), .int .i64 (z 19)] 29)) np [.int .i64 (z 0), .int .i64 (z 1), .int .i64 (z 2), .int .i64 (z 3), .int .i64 (z 4), .int .i64 (z 5), .int .i64 (z 6), .int .i64 (z 7), .int .i64 (z 8), .int .i64 (z 9), .int .i64 (z 10), .int .i64 (z 11), .int .i64 (z 12), .int .i64 (z 13), .int .i64 (z 14), .int .i64 (z 15), .int .i64 (z 16), .int .i64 (z 17), .int .i64 (z 18), .int .i64 (z 19)]) := Fp.out.alloc _
            have Fc : Hid (HV (wx8.alloc (.cells #[.int .i64 (-z 16), .int .i64 (-z 17), .int .i64 (-z 18), .int .i64 (z 19)] 29)) nc [.int .i64 0, .int .i64 0, .int .i64 0, .int .i64 0, .int .i64 0, .int .i64 0, .int .i64 (z 6), .int .i64 (z 7), .int .i64 (z 8), .int .i64 (z 9), .int .i64 (z 10), .int .i64 (z 11), .int .i64 (z 12), .int .i64 (z 13), .int .i64 (z 14), .int .i64 (z 15)]) := Fc.out.alloc _
            have Fa : Hid (HV (wx8.alloc (.cells #[.int .i64 (-z 16), .int .i64 (-z 17), .int .i64 (-z 18), .int .i64 (z 19)] 29)) na [.int .i64 a0, .int .i64 a1, .int .i64 a2]) := Fa.out.alloc _
            have Fb : Hid (HV (wx8.alloc (.cells #[.int .i64 (-z 16), .int .i64 (-z 17), .int .i64 (-z 18), .int .i64 (z 19)] 29)) nb [.int .i64 a1, .int .i64 a0, .int .i64 a2]) := Fb.out.alloc _
            have Fr : Hid (HV (wx8.alloc (.cells #[.int .i64 (-z 16), .int .i64 (-z 17), .int .i64 (-z 18), .int .i64 (z 19)] 29)) wx8.heap.size [.int .i64 (-z 16), .int .i64 (-z 17), .int .i64 (-z 18), .int .i64 (z 19)]) := hv_at rfl
            have FX : Hid (Ext w (wx8.alloc (.cells #[.int .i64 (-z 16), .int .i64 (-z 17), .int .i64 (-z 18), .int .i64 (z 19)] 29))) := FX.out.alloc _
            generalize (wx8.alloc (.cells #[.int .i64 (-z 16), .int .i64 (-z 17), .int .i64 (-z 18), .int .i64 (z 19)] 29)) = wx9 at *
            generalize wx8.heap.size = nr at *
            cases hn : okR (-z 16) (-z 17) (-z 18) (z 19)
            · rw [hn] at HR2
              have qr0 : wx9.cell? ⟨nr, 0, none⟩ = some (.int .i64 (-z 16)) := Fr.out.c 0 rfl
              have qr1 : wx9.cell? ⟨nr, 1, none⟩ = some (.int .i64 (-z 17)) := Fr.out.c 1 rfl
              have qr2 : wx9.cell? ⟨nr, 2, none⟩ = some (.int .i64 (-z 18)) := Fr.out.c 2 rfl
              have qr3 : wx9.cell? ⟨nr, 3, none⟩ = some (.int .i64 (z 19)) := Fr.out.c 3 rfl
              go_wp2_with (go_at_call 8; refine (HR2.out _).mono ?_; rintro e u4 ⟨rfl, x4⟩)
              go_roundw
              case rel => exact ⟨k + 1, by omega, by go_num, FX.out.trans x4⟩
              case measure => simp [intOf]; omega
            · rw [hn] at HR2
              obtain ⟨v0, v1, v2, g, hv, A3, A4⟩ := NT.out hn
              have A3 : Hid (∀ w, Calls Try.prog 10 #[.agg #[.int .i64 0, .int .i64 0, .int .i64 0, .int .i64 0, .int .i64 0, .int .i64 0, .int .i64 (z 6), .int .i64 (z 7), .int .i64 (z 8), .int .i64 (z 9), .int .i64 (z 10), .int .i64 (z 11), .int .i64 (z 12), .int .i64 (z 13), .int .i64 (z 14), .int .i64 (z 15)], .agg #[.int .i64 (z 16), .int .i64 (z 17), .int .i64 (z 18), .int .i64 (z 19)]] w fun e w' => e = .returned (.tuple #[.agg #[.int .i64 v0, .int .i64 v1, .int .i64 v2], .int .i64 g]) ∧ Ext w w') := A3
              have A4 : Hid (∀ w, Calls Try.prog 10 #[.agg #[.int .i64 0, .int .i64 0, .int .i64 0, .int .i64 0, .int .i64 0, .int .i64 0, .int .i64 (z 6), .int .i64 (z 7), .int .i64 (z 8), .int .i64 (z 9), .int .i64 (z 10), .int .i64 (z 11), .int .i64 (z 12), .int .i64 (z 13), .int .i64 (z 14), .int .i64 (z 15)], .agg #[.int .i64 (-z 16), .int .i64 (-z 17), .int .i64 (-z 18), .int .i64 (z 19)]] w fun e w' => e = .returned (.tuple #[.agg #[.int .i64 (-v0), .int .i64 (-v1), .int .i64 (-v2)], .int .i64 g]) ∧ Ext w w') := A4
              have d0 := okW_bounds (ok3_parts hv).1
              have d1 := okW_bounds (ok3_parts hv).2.1
              have d2 := okW_bounds (ok3_parts hv).2.2
              obtain ⟨d0a, d0b⟩ := d0
              obtain ⟨d1a, d1b⟩ := d1
              obtain ⟨d2a, d2b⟩ := d2
              clear hn hv NT
              have qr0 : wx9.cell? ⟨nr, 0, none⟩ = some (.int .i64 (-z 16)) := Fr.out.c 0 rfl
              have qr1 : wx9.cell? ⟨nr, 1, none⟩ = some (.int .i64 (-z 17)) := Fr.out.c 1 rfl
              have qr2 : wx9.cell? ⟨nr, 2, none⟩ = some (.int .i64 (-z 18)) := Fr.out.c 2 rfl
              have qr3 : wx9.cell? ⟨nr, 3, none⟩ = some (.int .i64 (z 19)) := Fr.out.c 3 rfl
              go_upto_region 21 with (first | (go_at_call 8; refine (HR2.out _).mono ?_; rintro e u4 ⟨rfl, x4⟩))
              have Fp : Hid (HV u4 np [.int .i64 (z 0), .int .i64 (z 1), .int .i64 (z 2), .int .i64 (z 3), .int .i64 (z 4), .int .i64 (z 5), .int .i64 (z 6), .int .i64 (z 7), .int .i64 (z 8), .int .i64 (z 9), .int .i64 (z 10), .int .i64 (z 11), .int .i64 (z 12), .int .i64 (z 13), .int .i64 (z 14), .int .i64 (z 15), .int .i64 (z 16), .int .i64 (z 17), .int .i64 (z 18), .int .i64 (z 19)]) := Fp.out.ext x4
              have Fc : Hid (HV u4 nc [.int .i64 0, .int .i64 0, .int .i64 0, .int .i64 0, .int .i64 0, .int .i64 0, .int .i64 (z 6), .int .i64 (z 7), .int .i64 (z 8), .int .i64 (z 9), .int .i64 (z 10), .int .i64 (z 11), .int .i64 (z 12), .int .i64 (z 13), .int .i64 (z 14), .int .i64 (z 15)]) := Fc.out.ext x4
              have Fa : Hid (HV u4 na [.int .i64 a0, .int .i64 a1, .int .i64 a2]) := Fa.out.ext x4
              have Fb : Hid (HV u4 nb [.int .i64 a1, .int .i64 a0, .int .i64 a2]) := Fb.out.ext x4
              have Fr : Hid (HV u4 nr [.int .i64 (-z 16), .int .i64 (-z 17), .int .i64 (-z 18), .int .i64 (z 19)]) := Fr.out.ext x4
              have FX : Hid (Ext w u4) := FX.out.trans x4
              clear qr0 qr1 qr2 qr3 x4 HR2
              have qp16 : u4.cell? ⟨np, 16, none⟩ = some (.int .i64 (z 16)) := Fp.out.c 16 rfl
              have qp17 : u4.cell? ⟨np, 17, none⟩ = some (.int .i64 (z 17)) := Fp.out.c 17 rfl
              have qp18 : u4.cell? ⟨np, 18, none⟩ = some (.int .i64 (z 18)) := Fp.out.c 18 rfl
              have qp19 : u4.cell? ⟨np, 19, none⟩ = some (.int .i64 (z 19)) := Fp.out.c 19 rfl
              have Rc : u4.rangeAt nc 0 [.int .i64 0, .int .i64 0, .int .i64 0, .int .i64 0, .int .i64 0, .int .i64 0, .int .i64 (z 6), .int .i64 (z 7), .int .i64 (z 8), .int .i64 (z 9), .int .i64 (z 10), .int .i64 (z 11), .int .i64 (z 12), .int .i64 (z 13), .int .i64 (z 14), .int .i64 (z 15)] := Fc.out.rng 0
              go_upto_region 22 with (first | ((with_reducible show wpList _ _ _ (_ :: _) _ _); refine wpList_load_mid rfl 27 (.tmp 5) rfl nc 0 rfl [.int .i64 0, .int .i64 0, .int .i64 0, .int .i64 0, .int .i64 0, .int .i64 0, .int .i64 (z 6), .int .i64 (z 7), .int .i64 (z 8), .int .i64 (z 9), .int .i64 (z 10), .int .i64 (z 11), .int .i64 (z 12), .int .i64 (z 13), .int .i64 (z 14), .int .i64 (z 15)] _ Rc Try.underlying27 rfl hsC ?_) | (go_at_call 10; refine (A3.out _).mono ?_; rintro e u5 ⟨rfl, x5⟩))
              have Fp : Hid (HV u5 np [.int .i64 (z 0), .int .i64 (z 1), .int .i64 (z 2), .int .i64 (z 3), .int .i64 (z 4), .int .i64 (z 5), .int .i64 (z 6), .int .i64 (z 7), .int .i64 (z 8), .int .i64 (z 9), .int .i64 (z 10), .int .i64 (z 11), .int .i64 (z 12), .int .i64 (z 13), .int .i64 (z 14), .int .i64 (z 15), .int .i64 (z 16), .int .i64 (z 17), .int .i64 (z 18), .int .i64 (z 19)]) := Fp.out.ext x5
              have Fc : Hid (HV u5 nc [.int .i64 0, .int .i64 0, .int .i64 0, .int .i64 0, .int .i64 0, .int .i64 0, .int .i64 (z 6), .int .i64 (z 7), .int .i64 (z 8), .int .i64 (z 9), .int .i64 (z 10), .int .i64 (z 11), .int .i64 (z 12), .int .i64 (z 13), .int .i64 (z 14), .int .i64 (z 15)]) := Fc.out.ext x5
              have Fa : Hid (HV u5 na [.int .i64 a0, .int .i64 a1, .int .i64 a2]) := Fa.out.ext x5
              have Fb : Hid (HV u5 nb [.int .i64 a1, .int .i64 a0, .int .i64 a2]) := Fb.out.ext x5
              have Fr : Hid (HV u5 nr [.int .i64 (-z 16), .int .i64 (-z 17), .int .i64 (-z 18), .int .i64 (z 19)]) := Fr.out.ext x5
              have FX : Hid (Ext w u5) := FX.out.trans x5
              clear qp16 qp17 qp18 qp19 Rc x5 A3
              have ltpu : np < u5.heap.size := Fp.out.1
              have ltcu : nc < u5.heap.size := Fc.out.1
              have ltau : na < u5.heap.size := Fa.out.1
              have ltbu : nb < u5.heap.size := Fb.out.1
              have ltru : nr < u5.heap.size := Fr.out.1
              have Lu : Hid (w.heap.size ≤ u5.heap.size) := FX.out.size
              have Fp : Hid (HV (u5.alloc (.cells #[.int .i64 v0, .int .i64 v1, .int .i64 v2] 24)) np [.int .i64 (z 0), .int .i64 (z 1), .int .i64 (z 2), .int .i64 (z 3), .int .i64 (z 4), .int .i64 (z 5), .int .i64 (z 6), .int .i64 (z 7), .int .i64 (z 8), .int .i64 (z 9), .int .i64 (z 10), .int .i64 (z 11), .int .i64 (z 12), .int .i64 (z 13), .int .i64 (z 14), .int .i64 (z 15), .int .i64 (z 16), .int .i64 (z 17), .int .i64 (z 18), .int .i64 (z 19)]) := Fp.out.alloc _
              have Fc : Hid (HV (u5.alloc (.cells #[.int .i64 v0, .int .i64 v1, .int .i64 v2] 24)) nc [.int .i64 0, .int .i64 0, .int .i64 0, .int .i64 0, .int .i64 0, .int .i64 0, .int .i64 (z 6), .int .i64 (z 7), .int .i64 (z 8), .int .i64 (z 9), .int .i64 (z 10), .int .i64 (z 11), .int .i64 (z 12), .int .i64 (z 13), .int .i64 (z 14), .int .i64 (z 15)]) := Fc.out.alloc _
              have Fa : Hid (HV (u5.alloc (.cells #[.int .i64 v0, .int .i64 v1, .int .i64 v2] 24)) na [.int .i64 a0, .int .i64 a1, .int .i64 a2]) := Fa.out.alloc _
              have Fb : Hid (HV (u5.alloc (.cells #[.int .i64 v0, .int .i64 v1, .int .i64 v2] 24)) nb [.int .i64 a1, .int .i64 a0, .int .i64 a2]) := Fb.out.alloc _
              have Fr : Hid (HV (u5.alloc (.cells #[.int .i64 v0, .int .i64 v1, .int .i64 v2] 24)) nr [.int .i64 (-z 16), .int .i64 (-z 17), .int .i64 (-z 18), .int .i64 (z 19)]) := Fr.out.alloc _
              have Fu : Hid (HV (u5.alloc (.cells #[.int .i64 v0, .int .i64 v1, .int .i64 v2] 24)) u5.heap.size [.int .i64 v0, .int .i64 v1, .int .i64 v2]) := hv_at rfl
              have FX : Hid (Ext w (u5.alloc (.cells #[.int .i64 v0, .int .i64 v1, .int .i64 v2] 24))) := FX.out.alloc _
              generalize (u5.alloc (.cells #[.int .i64 v0, .int .i64 v1, .int .i64 v2] 24)) = wx10 at *
              generalize u5.heap.size = nu at *
              have qr0 : wx10.cell? ⟨nr, 0, none⟩ = some (.int .i64 (-z 16)) := Fr.out.c 0 rfl
              have qr1 : wx10.cell? ⟨nr, 1, none⟩ = some (.int .i64 (-z 17)) := Fr.out.c 1 rfl
              have qr2 : wx10.cell? ⟨nr, 2, none⟩ = some (.int .i64 (-z 18)) := Fr.out.c 2 rfl
              have qr3 : wx10.cell? ⟨nr, 3, none⟩ = some (.int .i64 (z 19)) := Fr.out.c 3 rfl
              have Rc : wx10.rangeAt nc 0 [.int .i64 0, .int .i64 0, .int .i64 0, .int .i64 0, .int .i64 0, .int .i64 0, .int .i64 (z 6), .int .i64 (z 7), .int .i64 (z 8), .int .i64 (z 9), .int .i64 (z 10), .int .i64 (z 11), .int .i64 (z 12), .int .i64 (z 13), .int .i64 (z 14), .int .i64 (z 15)] := Fc.out.rng 0
              go_upto_region 23 with (first | ((with_reducible show wpList _ _ _ (_ :: _) _ _); refine wpList_load_mid rfl 27 (.tmp 5) rfl nc 0 rfl [.int .i64 0, .int .i64 0, .int .i64 0, .int .i64 0, .int .i64 0, .int .i64 0, .int .i64 (z 6), .int .i64 (z 7), .int .i64 (z 8), .int .i64 (z 9), .int .i64 (z 10), .int .i64 (z 11), .int .i64 (z 12), .int .i64 (z 13), .int .i64 (z 14), .int .i64 (z 15)] _ Rc Try.underlying27 rfl hsC ?_) | (go_at_call 10; refine (A4.out _).mono ?_; rintro e u6 ⟨rfl, x6⟩))
              have Fp : Hid (HV u6 np [.int .i64 (z 0), .int .i64 (z 1), .int .i64 (z 2), .int .i64 (z 3), .int .i64 (z 4), .int .i64 (z 5), .int .i64 (z 6), .int .i64 (z 7), .int .i64 (z 8), .int .i64 (z 9), .int .i64 (z 10), .int .i64 (z 11), .int .i64 (z 12), .int .i64 (z 13), .int .i64 (z 14), .int .i64 (z 15), .int .i64 (z 16), .int .i64 (z 17), .int .i64 (z 18), .int .i64 (z 19)]) := Fp.out.ext x6
              have Fc : Hid (HV u6 nc [.int .i64 0, .int .i64 0, .int .i64 0, .int .i64 0, .int .i64 0, .int .i64 0, .int .i64 (z 6), .int .i64 (z 7), .int .i64 (z 8), .int .i64 (z 9), .int .i64 (z 10), .int .i64 (z 11), .int .i64 (z 12), .int .i64 (z 13), .int .i64 (z 14), .int .i64 (z 15)]) := Fc.out.ext x6
              have Fa : Hid (HV u6 na [.int .i64 a0, .int .i64 a1, .int .i64 a2]) := Fa.out.ext x6
              have Fb : Hid (HV u6 nb [.int .i64 a1, .int .i64 a0, .int .i64 a2]) := Fb.out.ext x6
              have Fr : Hid (HV u6 nr [.int .i64 (-z 16), .int .i64 (-z 17), .int .i64 (-z 18), .int .i64 (z 19)]) := Fr.out.ext x6
              have Fu : Hid (HV u6 nu [.int .i64 v0, .int .i64 v1, .int .i64 v2]) := Fu.out.ext x6
              have FX : Hid (Ext w u6) := FX.out.trans x6
              clear qr0 qr1 qr2 qr3 Rc x6 A4
              have ltpv : np < u6.heap.size := Fp.out.1
              have ltcv : nc < u6.heap.size := Fc.out.1
              have ltav : na < u6.heap.size := Fa.out.1
              have ltbv : nb < u6.heap.size := Fb.out.1
              have ltrv : nr < u6.heap.size := Fr.out.1
              have ltuv : nu < u6.heap.size := Fu.out.1
              have Lv : Hid (w.heap.size ≤ u6.heap.size) := FX.out.size
              have Fp : Hid (HV (u6.alloc (.cells #[.int .i64 (-v0), .int .i64 (-v1), .int .i64 (-v2)] 24)) np [.int .i64 (z 0), .int .i64 (z 1), .int .i64 (z 2), .int .i64 (z 3), .int .i64 (z 4), .int .i64 (z 5), .int .i64 (z 6), .int .i64 (z 7), .int .i64 (z 8), .int .i64 (z 9), .int .i64 (z 10), .int .i64 (z 11), .int .i64 (z 12), .int .i64 (z 13), .int .i64 (z 14), .int .i64 (z 15), .int .i64 (z 16), .int .i64 (z 17), .int .i64 (z 18), .int .i64 (z 19)]) := Fp.out.alloc _
              have Fc : Hid (HV (u6.alloc (.cells #[.int .i64 (-v0), .int .i64 (-v1), .int .i64 (-v2)] 24)) nc [.int .i64 0, .int .i64 0, .int .i64 0, .int .i64 0, .int .i64 0, .int .i64 0, .int .i64 (z 6), .int .i64 (z 7), .int .i64 (z 8), .int .i64 (z 9), .int .i64 (z 10), .int .i64 (z 11), .int .i64 (z 12), .int .i64 (z 13), .int .i64 (z 14), .int .i64 (z 15)]) := Fc.out.alloc _
              have Fa : Hid (HV (u6.alloc (.cells #[.int .i64 (-v0), .int .i64 (-v1), .int .i64 (-v2)] 24)) na [.int .i64 a0, .int .i64 a1, .int .i64 a2]) := Fa.out.alloc _
              have Fb : Hid (HV (u6.alloc (.cells #[.int .i64 (-v0), .int .i64 (-v1), .int .i64 (-v2)] 24)) nb [.int .i64 a1, .int .i64 a0, .int .i64 a2]) := Fb.out.alloc _
              have Fr : Hid (HV (u6.alloc (.cells #[.int .i64 (-v0), .int .i64 (-v1), .int .i64 (-v2)] 24)) nr [.int .i64 (-z 16), .int .i64 (-z 17), .int .i64 (-z 18), .int .i64 (z 19)]) := Fr.out.alloc _
              have Fu : Hid (HV (u6.alloc (.cells #[.int .i64 (-v0), .int .i64 (-v1), .int .i64 (-v2)] 24)) nu [.int .i64 v0, .int .i64 v1, .int .i64 v2]) := Fu.out.alloc _
              have Fv : Hid (HV (u6.alloc (.cells #[.int .i64 (-v0), .int .i64 (-v1), .int .i64 (-v2)] 24)) u6.heap.size [.int .i64 (-v0), .int .i64 (-v1), .int .i64 (-v2)]) := hv_at rfl
              have FX : Hid (Ext w (u6.alloc (.cells #[.int .i64 (-v0), .int .i64 (-v1), .int .i64 (-v2)] 24))) := FX.out.alloc _
              generalize (u6.alloc (.cells #[.int .i64 (-v0), .int .i64 (-v1), .int .i64 (-v2)] 24)) = wx11 at *
              generalize u6.heap.size = nv at *
              have qu0 : wx11.cell? ⟨nu, 0, none⟩ = some (.int .i64 v0) := Fu.out.c 0 rfl
              have qu1 : wx11.cell? ⟨nu, 1, none⟩ = some (.int .i64 v1) := Fu.out.c 1 rfl
              have qu2 : wx11.cell? ⟨nu, 2, none⟩ = some (.int .i64 v2) := Fu.out.c 2 rfl
              have qv0 : wx11.cell? ⟨nv, 0, none⟩ = some (.int .i64 (-v0)) := Fv.out.c 0 rfl
              have qv1 : wx11.cell? ⟨nv, 1, none⟩ = some (.int .i64 (-v1)) := Fv.out.c 1 rfl
              have qv2 : wx11.cell? ⟨nv, 2, none⟩ = some (.int .i64 (-v2)) := Fv.out.c 2 rfl
              go_wp2_with (go_at_call 11; refine (num10_any _ _).mono ?_; rintro e wx ⟨rfl, hwx⟩; have hwy := hwx.symm; clear hwx; subst hwy)
              go_roundw
              case rel => exact ⟨k + 1, by omega, by go_num, FX.out⟩
              case measure => simp [intOf]; omega
      · go_wp2_with fail
        refine (wakes10_any _).mono ?_
        rintro e w1 ⟨rfl, x1⟩
        have E1 : Ext w w1 := HX.out.trans x1
        go_wp2_with fail
        go_ret
        exact ⟨rfl, E1⟩
    · have hk' : k = len := by omega
      subst hk'
      go_wp2_with fail
      refine (wakes10_any _).mono ?_
      rintro e w1 ⟨rfl, x1⟩
      have E1 : Ext w w1 := HX.out.trans x1
      go_wp2_with fail
      go_ret
      exact ⟨rfl, E1⟩
set_option maxHeartbeats 4000000 in
theorem calrows_none (a : Option Addr) (cap : Nat) (w : World) :
    Calls Try.prog 6 #[.slice a 0 cap] w fun e w' => e = .returned (.bool true) ∧ Ext w w' := by
  go_enter Try.func6, Try.ntmps6
  go_wp2_with fail
  go_loopw [3] (fun i wr => i = .int .i64 0 ∧ Ext w wr) (fun _ _ => 0)
  case atStart => exact ⟨rfl, Ext.refl _⟩
  case round =>
    obtain ⟨rfl, hx⟩ := hrel
    go_wp2_with fail
    refine (wakes10_any _).mono ?_
    rintro e w1 ⟨rfl, x1⟩
    have E1 : Ext w w1 := hx.trans x1
    go_wp2_with fail
    go_ret
    exact ⟨rfl, E1⟩
end Go.Proofs.Ytnilhamcojjloaa
