/- cal: image. -/
import Derived.Test.YtnilhamcojjloaaCa1
import Derived.Test.YtnilhamcojjloaaWS
namespace Go.Proofs.Ytnilhamcojjloaa
open Go.RowKit Go.Shelf
set_option maxRecDepth 20000 in
set_option maxHeartbeats 8000000 in
theorem sum64_off (n A B oa ob ca cb : Nat) (X Y Z : Nat → Int) (w : World) (hn : n ≤ 4)
    (HA : Hid (∀ i, i < n → w.cell? ⟨A, oa + i, none⟩ = some (.int .i64 (X i)) ∧ A < w.heap.size))
    (HB : Hid (∀ i, i < n → w.cell? ⟨B, ob + i, none⟩ = some (.int .i64 (Y i)) ∧ B < w.heap.size))
    (HT : Hid (∀ i w', i < n → Calls Try.prog 47 #[.int .i64 (X i), .int .i64 (Y i)] w' fun e w'' => (∃ r, e = .returned r ∧ IsW r (Z i)) ∧ Ext w' w''))
    (HP : Hid (∀ u v p q w', IsW u p → IsW v q → Calls Try.prog 62 #[u, v] w' fun e w'' => (∃ r, e = .returned r ∧ IsW r (p + q)) ∧ Ext w' w'')) :
    Calls Try.prog 46 #[.slice (some ⟨A, oa, none⟩) n ca, .slice (some ⟨B, ob, none⟩) n cb, .func (.func 47) #[] #[]] w fun e w' => (∃ r, e = .returned r ∧ IsW r (sumTo Z n)) ∧ Ext w w' := by
  go_enter Try.func46, Try.ntmps46
  go_wp2_with fail
  go_loopw [13] (fun i wr => ∃ k : Nat, k ≤ n ∧ i = .int .i64 (k : Int) ∧ ∃ t0 t1 t2 : Int, H3 wr (w.heap.size + 1) (.int .u64 t0) (.int .u64 t1) (.int .u64 t2) ∧ IsW (.agg #[.int .u64 t0, .int .u64 t1, .int .u64 t2]) (sumTo Z k) ∧ H3 wr w.heap.size (.int .u64 0) (.int .u64 0) (.int .u64 0) ∧ Ext w wr) (fun i _ => n - (intOf i).toNat)
  case atStart => exact ⟨0, by omega, rfl, 0, 0, 0, h3_at (by simp), isW_of rfl rfl rfl, H3.alloc (h3_at rfl) _, by repeat (first | with_reducible assumption | with_reducible exact Ext.refl _ | with_reducible refine Ext.drew ?_ | with_reducible refine Ext.drewN ?_ _ | with_reducible refine Ext.alloc ?_ _ | with_reducible refine Ext.set ?_ (by first | exact Nat.le_refl _ | (dsimp only; omega) | (simp; done)) _)⟩
  case round =>
    obtain ⟨k, hk, rfl, t0, t1, t2, TB, hT0, RB, hx⟩ := hrel
    have hT : Hid (IsW (.agg #[.int .u64 t0, .int .u64 t1, .int .u64 t2]) (sumTo Z k)) := hT0
    clear hT0
    by_cases hlt : k < n
    · have kx : (k : Int) < (n : Int) := by omega
      have TT : Hid (H3 wr (w.heap.size + 1) (.int .u64 t0) (.int .u64 t1) (.int .u64 t2)) := TB
      have RR : Hid (H3 wr w.heap.size (.int .u64 0) (.int .u64 0) (.int .u64 0)) := RB
      obtain ⟨hcx, hax⟩ := HA.out k hlt
      have hcx := ((hx.lay).1 A (oa + k) hax).trans hcx
      obtain ⟨hcy, hay⟩ := HB.out k hlt
      have hcy := ((hx.lay).1 B (ob + k) hay).trans hcy
      have PT : Hid _ := fun w' => HT.out k w' hlt
      obtain ⟨c0, c1, c2, c3, c4, c5, c6⟩ := TB
      clear HA HB HT
      go_wp2_with fail
      go_region_with (first | (go_at_call 47; refine (PT.out _).mono ?_; rintro e w1 ⟨⟨u1, rfl, hu1⟩, x1⟩; have y1 : Ext wr.drew w1 := Ext.trans (by repeat (first | with_reducible assumption | with_reducible exact Ext.refl _ | with_reducible refine Ext.drew ?_ | with_reducible refine Ext.drewN ?_ _ | with_reducible refine Ext.alloc ?_ _ | with_reducible refine Ext.set ?_ (by first | exact Nat.le_refl _ | (dsimp only; omega) | (simp; done)) _)) x1; obtain ⟨c0, c1, c2, c3, c4, c5, c6⟩ := TT.out.drew.ext y1) | (go_at_call 62; refine (HP.out _ _ _ _ _ hT.out hu1).mono ?_; rintro e w2 ⟨⟨u2, rfl, s0, s1, s2, rfl, hs⟩, x2⟩; have HSs : Hid _ := hs; clear hs; have y2 : Ext wr.drew w2 := y1.trans x2; obtain ⟨c0, c1, c2, c3, c4, c5, c6⟩ := TT.out.drew.ext y2))
      all_goals
        have T2 := TT.out.drew.ext y2
        have R2 := RR.out.drew.ext y2
        have X2 : Ext w w2 := Ext.trans hx.drew y2
        clear y2 x1 x2 y1 hx
        go_wp2_with fail
        go_roundw
        case rel => exact ⟨k + 1, by omega, by go_num, _, _, _, T2.set3 _ _ _, isW_of HSs.out.1 HSs.out.2.1 HSs.out.2.2, R2.far3 (by omega), by clear T2 R2; repeat (first | with_reducible assumption | with_reducible exact Ext.refl _ | with_reducible refine Ext.drew ?_ | with_reducible refine Ext.drewN ?_ _ | with_reducible refine Ext.alloc ?_ _ | with_reducible refine Ext.set ?_ (by first | exact Nat.le_refl _ | (dsimp only; omega) | (simp; done)) _)⟩
        case measure => simp [intOf]; omega
    · have hkn : k = n := by omega
      subst hkn
      obtain ⟨c0, c1, c2, c3, c4, c5, c6⟩ := TB
      obtain ⟨r0, r1, r2, r3, r4, r5, r6⟩ := RB
      go_wp2_with fail
      exact bodyPost_ret (v := .agg #[.int .u64 t0, .int .u64 t1, .int .u64 t2]) (by simp [results, Try.results46, go_sem, r0, r1, r2]) rfl ⟨⟨_, rfl, hT.out⟩, by repeat (first | with_reducible assumption | with_reducible exact Ext.refl _ | with_reducible refine Ext.drew ?_ | with_reducible refine Ext.drewN ?_ _ | with_reducible refine Ext.alloc ?_ _ | with_reducible refine Ext.set ?_ (by first | exact Nat.le_refl _ | (dsimp only; omega) | (simp; done)) _)⟩

/-- a row of the matrix times u -/
def rowU (m u : Nat → Int) (i : Nat) : Int := sumTo (fun j => u j * m (3 * i + j)) 3
theorem rowU_eq (m u : Nat → Int) (i : Nat) : rowU m u i = u 0 * m (3 * i) + u 1 * m (3 * i + 1) + u 2 * m (3 * i + 2) := by
  unfold rowU; simp only [sumTo, Nat.add_zero, Int.zero_add]
theorem mul_bound {a b A B : Int} (h1 : -A ≤ a) (h2 : a ≤ A) (k1 : -B ≤ b) (k2 : b ≤ B) : -(A * B) ≤ a * b ∧ a * b ≤ A * B := by
  have hA : 0 ≤ A := by omega
  have hB : 0 ≤ B := by omega
  have h3 : (a * b).natAbs ≤ A.natAbs * B.natAbs := by
    rw [Int.natAbs_mul]
    exact Nat.mul_le_mul (by omega) (by omega)
  have h4 : ((A.natAbs * B.natAbs : Nat) : Int) = A * B := by
    rw [Int.natCast_mul, Int.natAbs_of_nonneg hA, Int.natAbs_of_nonneg hB]
  omega
theorem rowU_bound (m u : Nat → Int) (i : Nat) (hi : i < 3) (hm : ∀ k, k < 9 → okW (m k) = true) (hu : ∀ j, j < 3 → -36028797018963968 ≤ u j ∧ u j ≤ 36028797018963968) :
    -3802951800684688204490109616128 ≤ rowU m u i ∧ rowU m u i ≤ 3802951800684688204490109616128 := by
  rw [rowU_eq]
  have b0 := okW_bounds (hm (3 * i) (by omega))
  have b1 := okW_bounds (hm (3 * i + 1) (by omega))
  have b2 := okW_bounds (hm (3 * i + 2) (by omega))
  have p0 := mul_bound (A := 36028797018963968) (B := 35184372088832) (hu 0 (by omega)).1 (hu 0 (by omega)).2 (b := m (3 * i)) (by omega) (by omega)
  have p1 := mul_bound (A := 36028797018963968) (B := 35184372088832) (hu 1 (by omega)).1 (hu 1 (by omega)).2 (b := m (3 * i + 1)) (by omega) (by omega)
  have p2 := mul_bound (A := 36028797018963968) (B := 35184372088832) (hu 2 (by omega)).1 (hu 2 (by omega)).2 (b := m (3 * i + 2)) (by omega) (by omega)
  omega
/-- one row: summed, rounded, told -/
theorem row_calls (m u : Nat → Int) (i : Nat) (hi : i < 3) (hm : ∀ k, k < 9 → okW (m k) = true) (hu : ∀ j, j < 3 → -36028797018963968 ≤ u j ∧ u j ≤ 36028797018963968) :
    (∀ (gm gu cc : Nat) (w : World), HV w gm [.int .i64 (m 0), .int .i64 (m 1), .int .i64 (m 2), .int .i64 (m 3), .int .i64 (m 4), .int .i64 (m 5), .int .i64 (m 6), .int .i64 (m 7), .int .i64 (m 8)] → HV w gu [.int .i64 (u 0), .int .i64 (u 1), .int .i64 (u 2)] → Calls Try.prog 46 #[.slice (some ⟨gu, 0, none⟩) 3 3, .slice (some ⟨gm, 3 * i, none⟩) 3 cc, .func (.func 47) #[] #[]] w fun e w' => (∃ r, e = .returned r ∧ IsW r (rowU m u i)) ∧ Ext w w') ∧
    (∀ v w, IsW v (rowU m u i) → Calls Try.prog 48 #[v, .int .i64 30] w fun e w' => (∃ r, e = .returned r ∧ IsW r (nearQ (rowU m u i))) ∧ Ext w w') ∧
    (∀ v w, IsW v (nearQ (rowU m u i)) → Calls Try.prog 49 #[v] w fun e w' => e = .returned (.tuple #[.int .i64 (fitR (nearQ (rowU m u i))).1, .int .i64 (fitR (nearQ (rowU m u i))).2]) ∧ Ext w w') := by
  have hb := rowU_bound m u i hi hm hu
  refine ⟨fun gm gu cc w h1 h2 => ?_, fun v w hv => ?_, fun v w hv => ?_⟩
  · refine sum64_off 3 gu gm 0 (3 * i) 3 cc u (fun j => m (3 * i + j)) (fun j => u j * m (3 * i + j)) w (by omega) (fun j hj => ?_) (fun j hj => ?_) (fun j w' hj => ?_) (fun a b p q w' ha hb => plus_any p q a b w' ha hb)
    · rw [Nat.zero_add]
      refine ⟨h2.c j ?_, h2.1⟩
      match j, hj with
      | 0, _ => rfl
      | 1, _ => rfl
      | 2, _ => rfl
    · refine ⟨h1.c (3 * i + j) ?_, h1.1⟩
      have hk : 3 * i + j < 9 := by omega
      generalize 3 * i + j = k at hk
      match k, hk with
      | 0, _ => rfl
      | 1, _ => rfl
      | 2, _ => rfl
      | 3, _ => rfl
      | 4, _ => rfl
      | 5, _ => rfl
      | 6, _ => rfl
      | 7, _ => rfl
      | 8, _ => rfl
    · have b := okW_bounds (hm (3 * i + j) (by omega))
      have c := hu j hj
      exact productw_any (u j) (m (3 * i + j)) w' (by omega) (by omega) (by omega) (by omega)
  · exact nearestw_any _ v w hv (by unfold InW; omega) (by unfold InW; omega)
  · refine wordw_any _ v w hv ?_
    have : -3802951800684688204490109616128 - 1 ≤ nearQ (rowU m u i) ∧ nearQ (rowU m u i) ≤ 3802951800684688204490109616128 + 1 := by
      generalize rowU m u i = z at hb
      unfold nearQ oddQ
      omega
    unfold InW
    omega

set_option maxRecDepth 20000 in
set_option maxHeartbeats 8000000 in
theorem image_any (m u : Nat → Int) (w : World) (hm : ∀ k, k < 9 → okW (m k) = true) (hu : ∀ j, j < 3 → -36028797018963968 ≤ u j ∧ u j ≤ 36028797018963968) :
    Calls Try.prog 27 #[.agg #[.int .i64 (m 0), .int .i64 (m 1), .int .i64 (m 2), .int .i64 (m 3), .int .i64 (m 4), .int .i64 (m 5), .int .i64 (m 6), .int .i64 (m 7), .int .i64 (m 8)], .agg #[.int .i64 (u 0), .int .i64 (u 1), .int .i64 (u 2)]] w fun e w' => e = .returned (vres (nearQ (rowU m u 0)) (nearQ (rowU m u 1)) (nearQ (rowU m u 2))) ∧ Ext w w' := by
  obtain ⟨S0, N0, W0⟩ := row_calls m u 0 (by omega) hm hu
  have S0 : Hid (∀ (gm gu cc : Nat) (w : World), HV w gm [.int .i64 (m 0), .int .i64 (m 1), .int .i64 (m 2), .int .i64 (m 3), .int .i64 (m 4), .int .i64 (m 5), .int .i64 (m 6), .int .i64 (m 7), .int .i64 (m 8)] → HV w gu [.int .i64 (u 0), .int .i64 (u 1), .int .i64 (u 2)] → Calls Try.prog 46 #[.slice (some ⟨gu, 0, none⟩) 3 3, .slice (some ⟨gm, 0, none⟩) 3 cc, .func (.func 47) #[] #[]] w fun e w' => (∃ r, e = .returned r ∧ IsW r (rowU m u 0)) ∧ Ext w w') := S0
  have N0 : Hid _ := N0
  have W0 : Hid _ := W0
  obtain ⟨S1, N1, W1⟩ := row_calls m u 1 (by omega) hm hu
  have S1 : Hid (∀ (gm gu cc : Nat) (w : World), HV w gm [.int .i64 (m 0), .int .i64 (m 1), .int .i64 (m 2), .int .i64 (m 3), .int .i64 (m 4), .int .i64 (m 5), .int .i64 (m 6), .int .i64 (m 7), .int .i64 (m 8)] → HV w gu [.int .i64 (u 0), .int .i64 (u 1), .int .i64 (u 2)] → Calls Try.prog 46 #[.slice (some ⟨gu, 0, none⟩) 3 3, .slice (some ⟨gm, 3, none⟩) 3 cc, .func (.func 47) #[] #[]] w fun e w' => (∃ r, e = .returned r ∧ IsW r (rowU m u 1)) ∧ Ext w w') := S1
  have N1 : Hid _ := N1
  have W1 : Hid _ := W1
  obtain ⟨S2, N2, W2⟩ := row_calls m u 2 (by omega) hm hu
  have S2 : Hid (∀ (gm gu cc : Nat) (w : World), HV w gm [.int .i64 (m 0), .int .i64 (m 1), .int .i64 (m 2), .int .i64 (m 3), .int .i64 (m 4), .int .i64 (m 5), .int .i64 (m 6), .int .i64 (m 7), .int .i64 (m 8)] → HV w gu [.int .i64 (u 0), .int .i64 (u 1), .int .i64 (u 2)] → Calls Try.prog 46 #[.slice (some ⟨gu, 0, none⟩) 3 3, .slice (some ⟨gm, 6, none⟩) 3 cc, .func (.func 47) #[] #[]] w fun e w' => (∃ r, e = .returned r ∧ IsW r (rowU m u 2)) ∧ Ext w w') := S2
  have N2 : Hid _ := N2
  have W2 : Hid _ := W2
  rw [← thr_fit]
  clear hm hu
  generalize nearQ (rowU m u 0) = q0 at *
  generalize rowU m u 0 = p0 at *
  generalize nearQ (rowU m u 1) = q1 at *
  generalize rowU m u 1 = p1 at *
  generalize nearQ (rowU m u 2) = q2 at *
  generalize rowU m u 2 = p2 at *
  generalize (fitR q0).1 = r0 at *
  generalize (fitR q0).2 = e0 at *
  generalize (fitR q1).1 = r1 at *
  generalize (fitR q1).2 = e1 at *
  generalize (fitR q2).1 = r2 at *
  generalize (fitR q2).2 = e2 at *
  have HM : Hid (HV ((((w.alloc (.cells #[.int .i64 (m 0), .int .i64 (m 1), .int .i64 (m 2), .int .i64 (m 3), .int .i64 (m 4), .int .i64 (m 5), .int .i64 (m 6), .int .i64 (m 7), .int .i64 (m 8)] 25)).alloc (.cells #[.int .i64 (u 0), .int .i64 (u 1), .int .i64 (u 2)] 55)).alloc (.cells #[.int .i64 0, .int .i64 0, .int .i64 0] 24)).alloc (.cells #[.int .i64 0, .int .i64 0, .int .i64 0] 55)) w.heap.size [.int .i64 (m 0), .int .i64 (m 1), .int .i64 (m 2), .int .i64 (m 3), .int .i64 (m 4), .int .i64 (m 5), .int .i64 (m 6), .int .i64 (m 7), .int .i64 (m 8)]) := (((hv_at rfl).alloc _).alloc _).alloc _
  have HU : Hid (HV ((((w.alloc (.cells #[.int .i64 (m 0), .int .i64 (m 1), .int .i64 (m 2), .int .i64 (m 3), .int .i64 (m 4), .int .i64 (m 5), .int .i64 (m 6), .int .i64 (m 7), .int .i64 (m 8)] 25)).alloc (.cells #[.int .i64 (u 0), .int .i64 (u 1), .int .i64 (u 2)] 55)).alloc (.cells #[.int .i64 0, .int .i64 0, .int .i64 0] 24)).alloc (.cells #[.int .i64 0, .int .i64 0, .int .i64 0] 55)) (w.heap.size + 1) [.int .i64 (u 0), .int .i64 (u 1), .int .i64 (u 2)]) := ((hv_at (by simp)).alloc _).alloc _
  have HR : Hid (HV ((((w.alloc (.cells #[.int .i64 (m 0), .int .i64 (m 1), .int .i64 (m 2), .int .i64 (m 3), .int .i64 (m 4), .int .i64 (m 5), .int .i64 (m 6), .int .i64 (m 7), .int .i64 (m 8)] 25)).alloc (.cells #[.int .i64 (u 0), .int .i64 (u 1), .int .i64 (u 2)] 55)).alloc (.cells #[.int .i64 0, .int .i64 0, .int .i64 0] 24)).alloc (.cells #[.int .i64 0, .int .i64 0, .int .i64 0] 55)) (w.heap.size + 2) [.int .i64 0, .int .i64 0, .int .i64 0]) := (hv_at (by simp)).alloc _
  have HT : Hid (HV ((((w.alloc (.cells #[.int .i64 (m 0), .int .i64 (m 1), .int .i64 (m 2), .int .i64 (m 3), .int .i64 (m 4), .int .i64 (m 5), .int .i64 (m 6), .int .i64 (m 7), .int .i64 (m 8)] 25)).alloc (.cells #[.int .i64 (u 0), .int .i64 (u 1), .int .i64 (u 2)] 55)).alloc (.cells #[.int .i64 0, .int .i64 0, .int .i64 0] 24)).alloc (.cells #[.int .i64 0, .int .i64 0, .int .i64 0] 55)) (w.heap.size + 3) [.int .i64 0, .int .i64 0, .int .i64 0]) := hv_at (by simp)
  have HX : Hid (Ext w ((((w.alloc (.cells #[.int .i64 (m 0), .int .i64 (m 1), .int .i64 (m 2), .int .i64 (m 3), .int .i64 (m 4), .int .i64 (m 5), .int .i64 (m 6), .int .i64 (m 7), .int .i64 (m 8)] 25)).alloc (.cells #[.int .i64 (u 0), .int .i64 (u 1), .int .i64 (u 2)] 55)).alloc (.cells #[.int .i64 0, .int .i64 0, .int .i64 0] 24)).alloc (.cells #[.int .i64 0, .int .i64 0, .int .i64 0] 55))) := ((((Ext.refl w).alloc _).alloc _).alloc _).alloc _
  go_enter Try.func27, Try.ntmps27
  go_wp2_with fail
  generalize ((((w.alloc (.cells #[.int .i64 (m 0), .int .i64 (m 1), .int .i64 (m 2), .int .i64 (m 3), .int .i64 (m 4), .int .i64 (m 5), .int .i64 (m 6), .int .i64 (m 7), .int .i64 (m 8)] 25)).alloc (.cells #[.int .i64 (u 0), .int .i64 (u 1), .int .i64 (u 2)] 55)).alloc (.cells #[.int .i64 0, .int .i64 0, .int .i64 0] 24)).alloc (.cells #[.int .i64 0, .int .i64 0, .int .i64 0] 55)) = wa at *
  have lt3 : Hid (w.heap.size ≤ w.heap.size + 3) := Nat.le_add_right _ _
  have lt2 : Hid (w.heap.size ≤ w.heap.size + 2) := Nat.le_add_right _ _
  refine wp_loop_rounds 4 ?_
  rw [rounds_succ]
  go_wp2_with fail
  refine (S0.out _ _ _ _ HM.out HU.out).mono ?_
  rintro e wb0 ⟨⟨v0, rfl, hv0⟩, x⟩
  have HM : Hid (HV wb0 w.heap.size [.int .i64 (m 0), .int .i64 (m 1), .int .i64 (m 2), .int .i64 (m 3), .int .i64 (m 4), .int .i64 (m 5), .int .i64 (m 6), .int .i64 (m 7), .int .i64 (m 8)]) := HM.out.ext x
  have HU : Hid (HV wb0 (w.heap.size + 1) [.int .i64 (u 0), .int .i64 (u 1), .int .i64 (u 2)]) := HU.out.ext x
  have HR : Hid (HV wb0 (w.heap.size + 2) [.int .i64 0, .int .i64 0, .int .i64 0]) := HR.out.ext x
  have HT : Hid (HV wb0 (w.heap.size + 3) [.int .i64 0, .int .i64 0, .int .i64 0]) := HT.out.ext x
  have HX : Hid (Ext w wb0) := HX.out.trans x
  clear x
  have hv0 : Hid (IsW v0 p0) := hv0
  go_wp2_with fail
  refine (N0.out _ _ hv0.out).mono ?_
  rintro e wc0 ⟨⟨y0, rfl, hy0⟩, x⟩
  have HM : Hid (HV wc0 w.heap.size [.int .i64 (m 0), .int .i64 (m 1), .int .i64 (m 2), .int .i64 (m 3), .int .i64 (m 4), .int .i64 (m 5), .int .i64 (m 6), .int .i64 (m 7), .int .i64 (m 8)]) := HM.out.ext x
  have HU : Hid (HV wc0 (w.heap.size + 1) [.int .i64 (u 0), .int .i64 (u 1), .int .i64 (u 2)]) := HU.out.ext x
  have HR : Hid (HV wc0 (w.heap.size + 2) [.int .i64 0, .int .i64 0, .int .i64 0]) := HR.out.ext x
  have HT : Hid (HV wc0 (w.heap.size + 3) [.int .i64 0, .int .i64 0, .int .i64 0]) := HT.out.ext x
  have HX : Hid (Ext w wc0) := HX.out.trans x
  clear x
  have hy0 : Hid (IsW y0 q0) := hy0
  go_wp2_with fail
  refine (W0.out _ _ hy0.out).mono ?_
  rintro e wd0 ⟨rfl, x⟩
  have HM : Hid (HV wd0 w.heap.size [.int .i64 (m 0), .int .i64 (m 1), .int .i64 (m 2), .int .i64 (m 3), .int .i64 (m 4), .int .i64 (m 5), .int .i64 (m 6), .int .i64 (m 7), .int .i64 (m 8)]) := HM.out.ext x
  have HU : Hid (HV wd0 (w.heap.size + 1) [.int .i64 (u 0), .int .i64 (u 1), .int .i64 (u 2)]) := HU.out.ext x
  have HR : Hid (HV wd0 (w.heap.size + 2) [.int .i64 0, .int .i64 0, .int .i64 0]) := HR.out.ext x
  have HT : Hid (HV wd0 (w.heap.size + 3) [.int .i64 0, .int .i64 0, .int .i64 0]) := HT.out.ext x
  have HX : Hid (Ext w wd0) := HX.out.trans x
  clear x
  obtain ⟨z0, z1, z2⟩ := HR.out.k3
  obtain ⟨y0, y1, y2⟩ := HR.out.z3
  obtain ⟨t0, t1, t2⟩ := HT.out.k3
  obtain ⟨s0, s1, s2⟩ := HT.out.z3
  by_cases he0 : e0 = 0
  · subst he0
    go_wp2_with fail
    have HM : Hid (HV (wd0.setCell ⟨w.heap.size + 3, 0, none⟩ (.int .i64 r0)) w.heap.size [.int .i64 (m 0), .int .i64 (m 1), .int .i64 (m 2), .int .i64 (m 3), .int .i64 (m 4), .int .i64 (m 5), .int .i64 (m 6), .int .i64 (m 7), .int .i64 (m 8)]) := HM.out.far (by omega)
    have HU : Hid (HV (wd0.setCell ⟨w.heap.size + 3, 0, none⟩ (.int .i64 r0)) (w.heap.size + 1) [.int .i64 (u 0), .int .i64 (u 1), .int .i64 (u 2)]) := HU.out.far (by omega)
    have HR : Hid (HV (wd0.setCell ⟨w.heap.size + 3, 0, none⟩ (.int .i64 r0)) (w.heap.size + 2) [.int .i64 0, .int .i64 0, .int .i64 0]) := HR.out.far (by omega)
    have HT : Hid (HV (wd0.setCell ⟨w.heap.size + 3, 0, none⟩ (.int .i64 r0)) (w.heap.size + 3) [.int .i64 r0, .int .i64 0, .int .i64 0]) := HT.out.set 0 (.int .i64 r0)
    have HX : Hid (Ext w (wd0.setCell ⟨w.heap.size + 3, 0, none⟩ (.int .i64 r0))) := HX.out.set (p := ⟨w.heap.size + 3, 0, none⟩) lt3.out _
    clear z0 z1 z2 y0 y1 y2 t0 t1 t2 s0 s1 s2
    generalize (wd0.setCell ⟨w.heap.size + 3, 0, none⟩ (.int .i64 r0)) = we0 at *
    rw [rounds_succ]
    go_wp2_with fail
    refine (S1.out _ _ _ _ HM.out HU.out).mono ?_
    rintro e wb1 ⟨⟨v1, rfl, hv1⟩, x⟩
    have HM : Hid (HV wb1 w.heap.size [.int .i64 (m 0), .int .i64 (m 1), .int .i64 (m 2), .int .i64 (m 3), .int .i64 (m 4), .int .i64 (m 5), .int .i64 (m 6), .int .i64 (m 7), .int .i64 (m 8)]) := HM.out.ext x
    have HU : Hid (HV wb1 (w.heap.size + 1) [.int .i64 (u 0), .int .i64 (u 1), .int .i64 (u 2)]) := HU.out.ext x
    have HR : Hid (HV wb1 (w.heap.size + 2) [.int .i64 0, .int .i64 0, .int .i64 0]) := HR.out.ext x
    have HT : Hid (HV wb1 (w.heap.size + 3) [.int .i64 r0, .int .i64 0, .int .i64 0]) := HT.out.ext x
    have HX : Hid (Ext w wb1) := HX.out.trans x
    clear x
    have hv1 : Hid (IsW v1 p1) := hv1
    go_wp2_with fail
    refine (N1.out _ _ hv1.out).mono ?_
    rintro e wc1 ⟨⟨y1, rfl, hy1⟩, x⟩
    have HM : Hid (HV wc1 w.heap.size [.int .i64 (m 0), .int .i64 (m 1), .int .i64 (m 2), .int .i64 (m 3), .int .i64 (m 4), .int .i64 (m 5), .int .i64 (m 6), .int .i64 (m 7), .int .i64 (m 8)]) := HM.out.ext x
    have HU : Hid (HV wc1 (w.heap.size + 1) [.int .i64 (u 0), .int .i64 (u 1), .int .i64 (u 2)]) := HU.out.ext x
    have HR : Hid (HV wc1 (w.heap.size + 2) [.int .i64 0, .int .i64 0, .int .i64 0]) := HR.out.ext x
    have HT : Hid (HV wc1 (w.heap.size + 3) [.int .i64 r0, .int .i64 0, .int .i64 0]) := HT.out.ext x
    have HX : Hid (Ext w wc1) := HX.out.trans x
    clear x
    have hy1 : Hid (IsW y1 q1) := hy1
    go_wp2_with fail
    refine (W1.out _ _ hy1.out).mono ?_
    rintro e wd1 ⟨rfl, x⟩
    have HM : Hid (HV wd1 w.heap.size [.int .i64 (m 0), .int .i64 (m 1), .int .i64 (m 2), .int .i64 (m 3), .int .i64 (m 4), .int .i64 (m 5), .int .i64 (m 6), .int .i64 (m 7), .int .i64 (m 8)]) := HM.out.ext x
    have HU : Hid (HV wd1 (w.heap.size + 1) [.int .i64 (u 0), .int .i64 (u 1), .int .i64 (u 2)]) := HU.out.ext x
    have HR : Hid (HV wd1 (w.heap.size + 2) [.int .i64 0, .int .i64 0, .int .i64 0]) := HR.out.ext x
    have HT : Hid (HV wd1 (w.heap.size + 3) [.int .i64 r0, .int .i64 0, .int .i64 0]) := HT.out.ext x
    have HX : Hid (Ext w wd1) := HX.out.trans x
    clear x
    obtain ⟨z0, z1, z2⟩ := HR.out.k3
    obtain ⟨y0, y1, y2⟩ := HR.out.z3
    obtain ⟨t0, t1, t2⟩ := HT.out.k3
    obtain ⟨s0, s1, s2⟩ := HT.out.z3
    by_cases he1 : e1 = 0
    · subst he1
      go_wp2_with fail
      have HM : Hid (HV (wd1.setCell ⟨w.heap.size + 3, 1, none⟩ (.int .i64 r1)) w.heap.size [.int .i64 (m 0), .int .i64 (m 1), .int .i64 (m 2), .int .i64 (m 3), .int .i64 (m 4), .int .i64 (m 5), .int .i64 (m 6), .int .i64 (m 7), .int .i64 (m 8)]) := HM.out.far (by omega)
      have HU : Hid (HV (wd1.setCell ⟨w.heap.size + 3, 1, none⟩ (.int .i64 r1)) (w.heap.size + 1) [.int .i64 (u 0), .int .i64 (u 1), .int .i64 (u 2)]) := HU.out.far (by omega)
      have HR : Hid (HV (wd1.setCell ⟨w.heap.size + 3, 1, none⟩ (.int .i64 r1)) (w.heap.size + 2) [.int .i64 0, .int .i64 0, .int .i64 0]) := HR.out.far (by omega)
      have HT : Hid (HV (wd1.setCell ⟨w.heap.size + 3, 1, none⟩ (.int .i64 r1)) (w.heap.size + 3) [.int .i64 r0, .int .i64 r1, .int .i64 0]) := HT.out.set 1 (.int .i64 r1)
      have HX : Hid (Ext w (wd1.setCell ⟨w.heap.size + 3, 1, none⟩ (.int .i64 r1))) := HX.out.set (p := ⟨w.heap.size + 3, 1, none⟩) lt3.out _
      clear z0 z1 z2 y0 y1 y2 t0 t1 t2 s0 s1 s2
      generalize (wd1.setCell ⟨w.heap.size + 3, 1, none⟩ (.int .i64 r1)) = we1 at *
      rw [rounds_succ]
      go_wp2_with fail
      refine (S2.out _ _ _ _ HM.out HU.out).mono ?_
      rintro e wb2 ⟨⟨v2, rfl, hv2⟩, x⟩
      have HM : Hid (HV wb2 w.heap.size [.int .i64 (m 0), .int .i64 (m 1), .int .i64 (m 2), .int .i64 (m 3), .int .i64 (m 4), .int .i64 (m 5), .int .i64 (m 6), .int .i64 (m 7), .int .i64 (m 8)]) := HM.out.ext x
      have HU : Hid (HV wb2 (w.heap.size + 1) [.int .i64 (u 0), .int .i64 (u 1), .int .i64 (u 2)]) := HU.out.ext x
      have HR : Hid (HV wb2 (w.heap.size + 2) [.int .i64 0, .int .i64 0, .int .i64 0]) := HR.out.ext x
      have HT : Hid (HV wb2 (w.heap.size + 3) [.int .i64 r0, .int .i64 r1, .int .i64 0]) := HT.out.ext x
      have HX : Hid (Ext w wb2) := HX.out.trans x
      clear x
      have hv2 : Hid (IsW v2 p2) := hv2
      go_wp2_with fail
      refine (N2.out _ _ hv2.out).mono ?_
      rintro e wc2 ⟨⟨y2, rfl, hy2⟩, x⟩
      have HM : Hid (HV wc2 w.heap.size [.int .i64 (m 0), .int .i64 (m 1), .int .i64 (m 2), .int .i64 (m 3), .int .i64 (m 4), .int .i64 (m 5), .int .i64 (m 6), .int .i64 (m 7), .int .i64 (m 8)]) := HM.out.ext x
      have HU : Hid (HV wc2 (w.heap.size + 1) [.int .i64 (u 0), .int .i64 (u 1), .int .i64 (u 2)]) := HU.out.ext x
      have HR : Hid (HV wc2 (w.heap.size + 2) [.int .i64 0, .int .i64 0, .int .i64 0]) := HR.out.ext x
      have HT : Hid (HV wc2 (w.heap.size + 3) [.int .i64 r0, .int .i64 r1, .int .i64 0]) := HT.out.ext x
      have HX : Hid (Ext w wc2) := HX.out.trans x
      clear x
      have hy2 : Hid (IsW y2 q2) := hy2
      go_wp2_with fail
      refine (W2.out _ _ hy2.out).mono ?_
      rintro e wd2 ⟨rfl, x⟩
      have HM : Hid (HV wd2 w.heap.size [.int .i64 (m 0), .int .i64 (m 1), .int .i64 (m 2), .int .i64 (m 3), .int .i64 (m 4), .int .i64 (m 5), .int .i64 (m 6), .int .i64 (m 7), .int .i64 (m 8)]) := HM.out.ext x
      have HU : Hid (HV wd2 (w.heap.size + 1) [.int .i64 (u 0), .int .i64 (u 1), .int .i64 (u 2)]) := HU.out.ext x
      have HR : Hid (HV wd2 (w.heap.size + 2) [.int .i64 0, .int .i64 0, .int .i64 0]) := HR.out.ext x
      have HT : Hid (HV wd2 (w.heap.size + 3) [.int .i64 r0, .int .i64 r1, .int .i64 0]) := HT.out.ext x
      have HX : Hid (Ext w wd2) := HX.out.trans x
      clear x
      obtain ⟨z0, z1, z2⟩ := HR.out.k3
      obtain ⟨y0, y1, y2⟩ := HR.out.z3
      obtain ⟨t0, t1, t2⟩ := HT.out.k3
      obtain ⟨s0, s1, s2⟩ := HT.out.z3
      by_cases he2 : e2 = 0
      · subst he2
        go_wp2_with fail
        rw [rounds_succ]
        go_wp2_with fail
        refine bodyPost_ret (v := .tuple #[.agg #[.int .i64 r0, .int .i64 r1, .int .i64 r2], .int .i64 0]) (by simp [results, Try.results27, go_sem, z0, z1, z2]) rfl ⟨by unfold thr; simp, ?_⟩
        exact Ext.set (Ext.set (Ext.set (HX.out.set (p := ⟨w.heap.size + 3, 2, none⟩) lt3.out _) lt2.out _) lt2.out _) lt2.out _
      · have heb : (e2 != 0) = true := by simp [he2]
        go_wp2_with fail
        refine bodyPost_ret (v := .tuple #[.agg #[.int .i64 0, .int .i64 0, .int .i64 0], .int .i64 e2]) (by simp [results, Try.results27, go_sem, z0, z1, z2]) rfl ⟨by unfold thr; simp [he2], ?_⟩
        exact Ext.set (Ext.set (Ext.set HX.out lt2.out _) lt2.out _) lt2.out _
    · have heb : (e1 != 0) = true := by simp [he1]
      go_wp2_with fail
      refine bodyPost_ret (v := .tuple #[.agg #[.int .i64 0, .int .i64 0, .int .i64 0], .int .i64 e1]) (by simp [results, Try.results27, go_sem, z0, z1, z2]) rfl ⟨by unfold thr; simp [he1], ?_⟩
      exact Ext.set (Ext.set (Ext.set HX.out lt2.out _) lt2.out _) lt2.out _
  · have heb : (e0 != 0) = true := by simp [he0]
    go_wp2_with fail
    refine bodyPost_ret (v := .tuple #[.agg #[.int .i64 0, .int .i64 0, .int .i64 0], .int .i64 e0]) (by simp [results, Try.results27, go_sem, z0, z1, z2]) rfl ⟨by unfold thr; simp [he0], ?_⟩
    exact Ext.set (Ext.set (Ext.set HX.out lt2.out _) lt2.out _) lt2.out _
end Go.Proofs.Ytnilhamcojjloaa
