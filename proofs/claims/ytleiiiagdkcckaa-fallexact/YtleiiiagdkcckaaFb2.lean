/- What the statements of layer 20 share: the reference's own, num, Within, wakes. -/
import Derived.Test.YtleiiiagdkcckaaFb1
namespace Go.Proofs.Ytleiiiagdkcckaa
open Go.RowKit
set_option maxHeartbeats 400000 in
theorem num20_any (v : Int) (w : World) :
    Calls Try.prog 11 #[.int .i64 v] w fun e w' => e = .returned (.int .i64 v) ∧ w' = w := by
  go_enter Try.func11, Try.ntmps11
  go_wp2
  go_ret
  exact ⟨rfl, rfl⟩
set_option maxHeartbeats 1000000 in
theorem within_60 (v : Int) (w : World) :
    Calls Try.prog 13 #[.int .i64 v, .int .i64 60] w fun e w' => e = .returned (.int .i64 (v % 18446744073709551616 % 60)) ∧ w' = w := by
  obtain ⟨X, hX, hX0, hX1⟩ : ∃ X : Int, IntKind.u64.wrap v = X ∧ 0 ≤ X ∧ X ≤ 18446744073709551615 := ⟨_, rfl, by rw [IntKind.wrap_u64]; omega, by rw [IntKind.wrap_u64]; omega⟩
  have hE : Hid (X % 60 = v % 18446744073709551616 % 60) := by
    show _ = _
    rw [← hX, IntKind.wrap_u64]
  have h1 : 0 ≤ X % 60 := by omega
  have h2 : X % 60 ≤ 59 := by omega
  go_enter Try.func13, Try.ntmps13
  go_wp2_with fail
  go_ret
  exact ⟨ret_int hE.out, rfl⟩
set_option maxHeartbeats 1000000 in
theorem within_3 (v : Int) (w : World) :
    Calls Try.prog 13 #[.int .i64 v, .int .i64 3] w fun e w' => e = .returned (.int .i64 (v % 18446744073709551616 % 3)) ∧ w' = w := by
  obtain ⟨X, hX, hX0, hX1⟩ : ∃ X : Int, IntKind.u64.wrap v = X ∧ 0 ≤ X ∧ X ≤ 18446744073709551615 := ⟨_, rfl, by rw [IntKind.wrap_u64]; omega, by rw [IntKind.wrap_u64]; omega⟩
  have hE : Hid (X % 3 = v % 18446744073709551616 % 3) := by
    show _ = _
    rw [← hX, IntKind.wrap_u64]
  have h1 : 0 ≤ X % 3 := by omega
  have h2 : X % 3 ≤ 2 := by omega
  go_enter Try.func13, Try.ntmps13
  go_wp2_with fail
  go_ret
  exact ⟨ret_int hE.out, rfl⟩
set_option maxHeartbeats 1000000 in
theorem within_7 (v : Int) (w : World) :
    Calls Try.prog 13 #[.int .i64 v, .int .i64 7] w fun e w' => e = .returned (.int .i64 (v % 18446744073709551616 % 7)) ∧ w' = w := by
  obtain ⟨X, hX, hX0, hX1⟩ : ∃ X : Int, IntKind.u64.wrap v = X ∧ 0 ≤ X ∧ X ≤ 18446744073709551615 := ⟨_, rfl, by rw [IntKind.wrap_u64]; omega, by rw [IntKind.wrap_u64]; omega⟩
  have hE : Hid (X % 7 = v % 18446744073709551616 % 7) := by
    show _ = _
    rw [← hX, IntKind.wrap_u64]
  have h1 : 0 ≤ X % 7 := by omega
  have h2 : X % 7 ≤ 6 := by omega
  go_enter Try.func13, Try.ntmps13
  go_wp2_with fail
  go_ret
  exact ⟨ret_int hE.out, rfl⟩
set_option maxHeartbeats 1000000 in
theorem within_99 (v : Int) (w : World) :
    Calls Try.prog 13 #[.int .i64 v, .int .i64 99] w fun e w' => e = .returned (.int .i64 (v % 18446744073709551616 % 99)) ∧ w' = w := by
  obtain ⟨X, hX, hX0, hX1⟩ : ∃ X : Int, IntKind.u64.wrap v = X ∧ 0 ≤ X ∧ X ≤ 18446744073709551615 := ⟨_, rfl, by rw [IntKind.wrap_u64]; omega, by rw [IntKind.wrap_u64]; omega⟩
  have hE : Hid (X % 99 = v % 18446744073709551616 % 99) := by
    show _ = _
    rw [← hX, IntKind.wrap_u64]
  have h1 : 0 ≤ X % 99 := by omega
  have h2 : X % 99 ≤ 98 := by omega
  go_enter Try.func13, Try.ntmps13
  go_wp2_with fail
  go_ret
  exact ⟨ret_int hE.out, rfl⟩
set_option maxHeartbeats 1000000 in
theorem within_9806650 (v : Int) (w : World) :
    Calls Try.prog 13 #[.int .i64 v, .int .i64 9806650] w fun e w' => e = .returned (.int .i64 (v % 18446744073709551616 % 9806650)) ∧ w' = w := by
  obtain ⟨X, hX, hX0, hX1⟩ : ∃ X : Int, IntKind.u64.wrap v = X ∧ 0 ≤ X ∧ X ≤ 18446744073709551615 := ⟨_, rfl, by rw [IntKind.wrap_u64]; omega, by rw [IntKind.wrap_u64]; omega⟩
  have hE : Hid (X % 9806650 = v % 18446744073709551616 % 9806650) := by
    show _ = _
    rw [← hX, IntKind.wrap_u64]
  have h1 : 0 ≤ X % 9806650 := by omega
  have h2 : X % 9806650 ≤ 9806649 := by omega
  go_enter Try.func13, Try.ntmps13
  go_wp2_with fail
  go_ret
  exact ⟨ret_int hE.out, rfl⟩
set_option maxHeartbeats 400000 in
theorem rtime_any (x : Int) (w : World) : Calls Try.prog 8 #[.int .i64 x] w fun e w' => e = .returned (.bool (okTm x)) ∧ w' = w := by
  by_cases h1 : 0 ≤ x
  · by_cases h2 : x ≤ 1099511627776
    · have e : Hid (okTm x = true) := okTm_iff.2 ⟨h1, h2⟩
      go_enter Try.func8, Try.ntmps8
      go_wp2
      go_ret
      rw [e.out]; exact ⟨rfl, rfl⟩
    · have e : Hid (okTm x = false) := Bool.eq_false_iff.2 (fun h => h2 (okTm_iff.1 h).2)
      go_enter Try.func8, Try.ntmps8
      go_wp2
      go_ret
      rw [e.out]; exact ⟨rfl, rfl⟩
  · have e : Hid (okTm x = false) := Bool.eq_false_iff.2 (fun h => h1 (okTm_iff.1 h).1)
    go_enter Try.func8, Try.ntmps8
    go_wp2
    go_ret
    rw [e.out]; exact ⟨rfl, rfl⟩
set_option maxHeartbeats 400000 in
theorem rmag_any (m : Int) (w : World) : Calls Try.prog 7 #[.int .i64 m] w fun e w' => e = .returned (.bool (okMg m)) ∧ w' = w := by
  have HC : Hid (∀ w, Calls Try.prog 14 #[.int .i64 m] w fun e w' => e = .returned (.bool (okW m)) ∧ w' = w) := may_any m
  by_cases h2 : 0 ≤ m
  · have er : Hid (okMg m = okW m) := by show _ = _; unfold okMg; simp [h2]
    generalize okMg m = R at *
    generalize okW m = p at *
    go_enter Try.func7, Try.ntmps7
    go_wp2_with (go_at_call 14; refine (HC.out _).mono ?_; rintro e wx ⟨rfl, hwx⟩; have hwy := hwx.symm; clear hwx; subst hwy)
    go_ret
    rw [er.out]; exact ⟨rfl, rfl⟩
  · have er : Hid (okMg m = false) := by show _ = _; unfold okMg; simp [h2]
    generalize okMg m = R at *
    go_enter Try.func7, Try.ntmps7
    go_wp2_with fail
    go_ret
    rw [er.out]; exact ⟨rfl, rfl⟩
set_option maxRecDepth 20000 in
set_option maxHeartbeats 4000000 in
theorem mayfall_any (lo tl : Bool) (s : Int) (w : World) : Calls Try.prog 6 #[.agg #[.bool lo, .bool tl, .int .i64 s]] w fun e w' => e = .returned (.bool (okF lo tl s)) ∧ Ext w w' := by
  have HT : Hid (∀ w, Calls Try.prog 8 #[.int .i64 s] w fun e w' => e = .returned (.bool (okTm s)) ∧ w' = w) := rtime_any s
  have B : Hid (HV (w.alloc (.cells #[.bool lo, .bool tl, .int .i64 s] 24)) w.heap.size [.bool lo, .bool tl, .int .i64 s]) := hv_at rfl
  cases lo
  · by_cases h : s = 0
    · have er : okF false tl s = !tl := by unfold okF; simp [h]
      have e2 : okTm s = true := by rw [h]; decide
      rw [er]
      rw [e2] at HT
      subst h
      clear er e2 B
      cases tl
      all_goals
        go_enter Try.func6, Try.ntmps6
        go_wp2_with (go_at_call 8; refine (HT.out _).mono ?_; rintro e wx ⟨rfl, hwx⟩; have hwy := hwx.symm; clear hwx; subst hwy)
        go_ret
        exact ⟨rfl, by repeat (first | with_reducible assumption | with_reducible exact Ext.refl _ | with_reducible refine Ext.drew ?_ | with_reducible refine Ext.drewN ?_ _ | with_reducible refine Ext.alloc ?_ _ | with_reducible refine Ext.set ?_ (by first | exact Nat.le_refl _ | (dsimp only; omega) | (simp; done)) _)⟩
    · have er : okF false tl s = false := by unfold okF; simp [h]
      rw [er]
      clear er B
      cases h2 : okTm s
      · rw [h2] at HT
        clear h2
        go_enter Try.func6, Try.ntmps6
        go_wp2_with (go_at_call 8; refine (HT.out _).mono ?_; rintro e wx ⟨rfl, hwx⟩; have hwy := hwx.symm; clear hwx; subst hwy)
        go_ret
        exact ⟨rfl, by repeat (first | with_reducible assumption | with_reducible exact Ext.refl _ | with_reducible refine Ext.drew ?_ | with_reducible refine Ext.drewN ?_ _ | with_reducible refine Ext.alloc ?_ _ | with_reducible refine Ext.set ?_ (by first | exact Nat.le_refl _ | (dsimp only; omega) | (simp; done)) _)⟩
      · rw [h2] at HT
        clear h2
        have h3 : (s == 0) = false := by simpa using h
        clear h
        go_enter Try.func6, Try.ntmps6
        go_wp2_with (go_at_call 8; refine (HT.out _).mono ?_; rintro e wx ⟨rfl, hwx⟩; have hwy := hwx.symm; clear hwx; subst hwy)
        go_ret
        exact ⟨rfl, by repeat (first | with_reducible assumption | with_reducible exact Ext.refl _ | with_reducible refine Ext.drew ?_ | with_reducible refine Ext.drewN ?_ _ | with_reducible refine Ext.alloc ?_ _ | with_reducible refine Ext.set ?_ (by first | exact Nat.le_refl _ | (dsimp only; omega) | (simp; done)) _)⟩
  · have er : okF true tl s = okTm s := rfl
    rw [er]
    clear er B
    cases h2 : okTm s
    all_goals
      rw [h2] at HT
      clear h2
      go_enter Try.func6, Try.ntmps6
      go_wp2_with (go_at_call 8; refine (HT.out _).mono ?_; rintro e wx ⟨rfl, hwx⟩; have hwy := hwx.symm; clear hwx; subst hwy)
      go_ret
      exact ⟨rfl, by repeat (first | with_reducible assumption | with_reducible exact Ext.refl _ | with_reducible refine Ext.drew ?_ | with_reducible refine Ext.drewN ?_ _ | with_reducible refine Ext.alloc ?_ _ | with_reducible refine Ext.set ?_ (by first | exact Nat.le_refl _ | (dsimp only; omega) | (simp; done)) _)⟩
set_option maxRecDepth 20000 in
set_option maxHeartbeats 16000000 in
theorem rfall_any (lo tl : Bool) (s m n : Int) (w : World) (a1 : okF lo tl s = true) (a2 : okMg m = true) (a3 : okTm n = true) (a4 : s ≤ n) : ∃ (a b : Bool) (d : Int) (t : Bool), takeF lo tl s m n = .tuple #[.agg #[.bool a, .bool b, .int .i64 d], .bool t, .int .i64 0] ∧ Calls Try.prog 9 #[.agg #[.bool lo, .bool tl, .int .i64 s], .int .i64 m, .int .i64 n] w fun e w' => e = .returned (.tuple #[.agg #[.bool a, .bool b, .int .i64 d], .bool t]) ∧ Ext w w' := by
  rw [takeF_good a1 a2 a3 a4]
  obtain ⟨⟨l1, l2⟩, lf⟩ := okF_bounds a1
  obtain ⟨n1, n2⟩ := okTm_iff.1 a3
  have ed : wrap64 (n - s) = n - s := wrap_le _ (by omega) (by omega)
  clear a1 a2 a3 a4 l1 l2 n1 n2
  by_cases b1 : 4903325 < m
  · rw [if_pos b1]
    clear ed lf
    have b2 : ¬ m < 2451662 := by omega
    refine ⟨false, false, 0, false, rfl, ?_⟩
    go_enter Try.func9, Try.ntmps9
    go_wp2_with fail
    refine bodyPost_ret (v := .tuple #[.agg #[.bool false, .bool false, .int .i64 0], .bool false]) (by simp [results, Try.results9, go_sem, *]) rfl ⟨rfl, ?_⟩
    exact by repeat (first | with_reducible assumption | with_reducible exact Ext.refl _ | with_reducible refine Ext.drew ?_ | with_reducible refine Ext.drewN ?_ _ | with_reducible refine Ext.alloc ?_ _ | with_reducible refine Ext.set ?_ (by first | exact Nat.le_refl _ | (dsimp only; omega) | (simp; done)) _)
  · rw [if_neg b1]
    by_cases b2 : m < 2451662
    · rw [if_pos b2]
      cases lo
      · rw [if_pos rfl]
        clear ed lf
        refine ⟨true, false, n, false, rfl, ?_⟩
        go_enter Try.func9, Try.ntmps9
        go_wp2_with fail
        refine bodyPost_ret (v := .tuple #[.agg #[.bool true, .bool false, .int .i64 n], .bool false]) (by simp [results, Try.results9, go_sem, *]) rfl ⟨rfl, ?_⟩
        exact by repeat (first | with_reducible assumption | with_reducible exact Ext.refl _ | with_reducible refine Ext.drew ?_ | with_reducible refine Ext.drewN ?_ _ | with_reducible refine Ext.alloc ?_ _ | with_reducible refine Ext.set ?_ (by first | exact Nat.le_refl _ | (dsimp only; omega) | (simp; done)) _)
      · rw [if_neg (by simp)]
        clear lf
        cases tl
        · by_cases b3 : 100 ≤ n - s
          · rw [if_pos ⟨rfl, b3⟩]
            refine ⟨true, true, s, true, rfl, ?_⟩
            go_enter Try.func9, Try.ntmps9
            go_wp2_with fail
            refine bodyPost_ret (v := .tuple #[.agg #[.bool true, .bool true, .int .i64 s], .bool true]) (by simp [results, Try.results9, go_sem, *]) rfl ⟨rfl, ?_⟩
            exact by repeat (first | with_reducible assumption | with_reducible exact Ext.refl _ | with_reducible refine Ext.drew ?_ | with_reducible refine Ext.drewN ?_ _ | with_reducible refine Ext.alloc ?_ _ | with_reducible refine Ext.set ?_ (by first | exact Nat.le_refl _ | (dsimp only; omega) | (simp; done)) _)
          · rw [if_neg (fun h => b3 h.2)]
            refine ⟨true, false, s, false, rfl, ?_⟩
            go_enter Try.func9, Try.ntmps9
            go_wp2_with fail
            refine bodyPost_ret (v := .tuple #[.agg #[.bool true, .bool false, .int .i64 s], .bool false]) (by simp [results, Try.results9, go_sem, *]) rfl ⟨rfl, ?_⟩
            exact by repeat (first | with_reducible assumption | with_reducible exact Ext.refl _ | with_reducible refine Ext.drew ?_ | with_reducible refine Ext.drewN ?_ _ | with_reducible refine Ext.alloc ?_ _ | with_reducible refine Ext.set ?_ (by first | exact Nat.le_refl _ | (dsimp only; omega) | (simp; done)) _)
        · rw [if_neg (fun h => by cases h.1)]
          clear ed
          refine ⟨true, true, s, false, rfl, ?_⟩
          go_enter Try.func9, Try.ntmps9
          go_wp2_with fail
          refine bodyPost_ret (v := .tuple #[.agg #[.bool true, .bool true, .int .i64 s], .bool false]) (by simp [results, Try.results9, go_sem, *]) rfl ⟨rfl, ?_⟩
          exact by repeat (first | with_reducible assumption | with_reducible exact Ext.refl _ | with_reducible refine Ext.drew ?_ | with_reducible refine Ext.drewN ?_ _ | with_reducible refine Ext.alloc ?_ _ | with_reducible refine Ext.set ?_ (by first | exact Nat.le_refl _ | (dsimp only; omega) | (simp; done)) _)
    · rw [if_neg b2]
      clear ed lf
      refine ⟨lo, tl, s, false, rfl, ?_⟩
      go_enter Try.func9, Try.ntmps9
      go_wp2_with fail
      refine bodyPost_ret (v := .tuple #[.agg #[.bool lo, .bool tl, .int .i64 s], .bool false]) (by simp [results, Try.results9, go_sem, *]) rfl ⟨rfl, ?_⟩
      exact by repeat (first | with_reducible assumption | with_reducible exact Ext.refl _ | with_reducible refine Ext.drew ?_ | with_reducible refine Ext.drewN ?_ _ | with_reducible refine Ext.alloc ?_ _ | with_reducible refine Ext.set ?_ (by first | exact Nat.le_refl _ | (dsimp only; omega) | (simp; done)) _)
set_option maxRecDepth 20000 in
set_option maxHeartbeats 4000000 in
theorem wakes20_any (w : World) : Calls Try.prog 12 #[] w fun e w' => e = .returned (.bool true) ∧ Ext w w' := by
  have HA : Hid (∀ w, Calls Try.prog 10 #[.agg #[.bool false, .bool false, .int .i64 0], .int .i64 0, .int .i64 3] w fun e w' => e = .returned (.tuple #[.agg #[.bool true, .bool false, .int .i64 3], .bool false, .int .i64 0]) ∧ Ext w w') := fun w => by
    have h := ftake_any false false 0 0 3 w
    have e : takeF false false 0 0 3 = .tuple #[.agg #[.bool true, .bool false, .int .i64 3], .bool false, .int .i64 0] := by kernel_rfl
    rw [e] at h
    exact h
  have FX : Hid (Ext w w) := Ext.refl _
  go_enter Try.func12, Try.ntmps12
  go_wp2_with fail
  refine (HA.out _).mono ?_
  rintro e w1 ⟨rfl, x1⟩
  have FX : Hid (Ext w w1) := FX.out.trans x1
  clear x1 HA
  go_upto_region 2 with fail
  have Ls : Hid (w.heap.size ≤ w1.heap.size) := FX.out.size
  have Fs : Hid (HV (w1.alloc (.cells #[.bool true, .bool false, .int .i64 3] 24)) w1.heap.size [.bool true, .bool false, .int .i64 3]) := hv_at rfl
  have FX : Hid (Ext w (w1.alloc (.cells #[.bool true, .bool false, .int .i64 3] 24))) := FX.out.alloc _
  generalize (w1.alloc (.cells #[.bool true, .bool false, .int .i64 3] 24)) = wx1 at *
  generalize w1.heap.size = ns at *
  have qs0 : wx1.cell? ⟨ns, 0, none⟩ = some (.bool true) := Fs.out.c 0 rfl
  have qs1 : wx1.cell? ⟨ns, 1, none⟩ = some (.bool false) := Fs.out.c 1 rfl
  have qs2 : wx1.cell? ⟨ns, 2, none⟩ = some (.int .i64 3) := Fs.out.c 2 rfl
  go_wp2_with (go_at_call 11; refine (num20_any _ _).mono ?_; rintro e wx ⟨rfl, hwx⟩; have hwy := hwx.symm; clear hwx; subst hwy)
  go_ret
  exact ⟨rfl, FX.out⟩
end Go.Proofs.Ytleiiiagdkcckaa
