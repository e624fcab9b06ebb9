/- What the statements of layer 17 share: the reference's own, num, Within, wakes. -/
import Derived.Test.YtfeoiolcdiddiaaSp1
namespace Go.Proofs.Ytfeoiolcdiddiaa
open Go.RowKit
set_option maxHeartbeats 400000 in
theorem num17_any (v : Int) (w : World) :
    Calls Try.prog 11 #[.int .i64 v] w fun e w' => e = .returned (.int .i64 v) ∧ w' = w := by
  go_enter Try.func11, Try.ntmps11
  go_wp2
  go_ret
  exact ⟨rfl, rfl⟩
set_option maxHeartbeats 1000000 in
theorem within_29419950 (v : Int) (w : World) :
    Calls Try.prog 13 #[.int .i64 v, .int .i64 29419950] w fun e w' => e = .returned (.int .i64 (v % 18446744073709551616 % 29419950)) ∧ w' = w := by
  obtain ⟨X, hX, hX0, hX1⟩ : ∃ X : Int, IntKind.u64.wrap v = X ∧ 0 ≤ X ∧ X ≤ 18446744073709551615 := ⟨_, rfl, by rw [IntKind.wrap_u64]; omega, by rw [IntKind.wrap_u64]; omega⟩
  have hE : Hid (X % 29419950 = v % 18446744073709551616 % 29419950) := by
    show _ = _
    rw [← hX, IntKind.wrap_u64]
  have h1 : 0 ≤ X % 29419950 := by omega
  have h2 : X % 29419950 ≤ 29419949 := by omega
  go_enter Try.func13, Try.ntmps13
  go_wp2_with fail
  go_ret
  exact ⟨ret_int hE.out, rfl⟩
set_option maxHeartbeats 1000000 in
theorem within_200 (v : Int) (w : World) :
    Calls Try.prog 13 #[.int .i64 v, .int .i64 200] w fun e w' => e = .returned (.int .i64 (v % 18446744073709551616 % 200)) ∧ w' = w := by
  obtain ⟨X, hX, hX0, hX1⟩ : ∃ X : Int, IntKind.u64.wrap v = X ∧ 0 ≤ X ∧ X ≤ 18446744073709551615 := ⟨_, rfl, by rw [IntKind.wrap_u64]; omega, by rw [IntKind.wrap_u64]; omega⟩
  have hE : Hid (X % 200 = v % 18446744073709551616 % 200) := by
    show _ = _
    rw [← hX, IntKind.wrap_u64]
  have h1 : 0 ≤ X % 200 := by omega
  have h2 : X % 200 ≤ 199 := by omega
  go_enter Try.func13, Try.ntmps13
  go_wp2_with fail
  go_ret
  exact ⟨ret_int hE.out, rfl⟩
set_option maxHeartbeats 1000000 in
theorem within_500 (v : Int) (w : World) :
    Calls Try.prog 13 #[.int .i64 v, .int .i64 500] w fun e w' => e = .returned (.int .i64 (v % 18446744073709551616 % 500)) ∧ w' = w := by
  obtain ⟨X, hX, hX0, hX1⟩ : ∃ X : Int, IntKind.u64.wrap v = X ∧ 0 ≤ X ∧ X ≤ 18446744073709551615 := ⟨_, rfl, by rw [IntKind.wrap_u64]; omega, by rw [IntKind.wrap_u64]; omega⟩
  have hE : Hid (X % 500 = v % 18446744073709551616 % 500) := by
    show _ = _
    rw [← hX, IntKind.wrap_u64]
  have h1 : 0 ≤ X % 500 := by omega
  have h2 : X % 500 ≤ 499 := by omega
  go_enter Try.func13, Try.ntmps13
  go_wp2_with fail
  go_ret
  exact ⟨ret_int hE.out, rfl⟩
set_option maxHeartbeats 1000000 in
theorem within_11032482 (v : Int) (w : World) :
    Calls Try.prog 13 #[.int .i64 v, .int .i64 11032482] w fun e w' => e = .returned (.int .i64 (v % 18446744073709551616 % 11032482)) ∧ w' = w := by
  obtain ⟨X, hX, hX0, hX1⟩ : ∃ X : Int, IntKind.u64.wrap v = X ∧ 0 ≤ X ∧ X ≤ 18446744073709551615 := ⟨_, rfl, by rw [IntKind.wrap_u64]; omega, by rw [IntKind.wrap_u64]; omega⟩
  have hE : Hid (X % 11032482 = v % 18446744073709551616 % 11032482) := by
    show _ = _
    rw [← hX, IntKind.wrap_u64]
  have h1 : 0 ≤ X % 11032482 := by omega
  have h2 : X % 11032482 ≤ 11032481 := by omega
  go_enter Try.func13, Try.ntmps13
  go_wp2_with fail
  go_ret
  exact ⟨ret_int hE.out, rfl⟩
set_option maxHeartbeats 400000 in
theorem rtime_any (x : Int) (w : World) : Calls Try.prog 8 #[.int .i64 x] w fun e w' => e = .returned (.bool (okTm x)) ∧ w' = w := by
  by_cases h1 : 0 ≤ x
  · by_cases h2 : x ≤ 1099511627776
    · have e : Hid (okTm x = true) := okTm_iff.2 ⟨h1, h2⟩
      go_enter Try.func8, Try.ntmps8
      go_wp2
      go_ret
      rw [e.out]; exact ⟨rfl, rfl⟩
    · have e : Hid (okTm x = false) := Bool.eq_false_iff.2 (fun h => h2 (okTm_iff.1 h).2)
      go_enter Try.func8, Try.ntmps8
      go_wp2
      go_ret
      rw [e.out]; exact ⟨rfl, rfl⟩
  · have e : Hid (okTm x = false) := Bool.eq_false_iff.2 (fun h => h1 (okTm_iff.1 h).1)
    go_enter Try.func8, Try.ntmps8
    go_wp2
    go_ret
    rw [e.out]; exact ⟨rfl, rfl⟩
set_option maxHeartbeats 400000 in
theorem rmag_any (m : Int) (w : World) : Calls Try.prog 7 #[.int .i64 m] w fun e w' => e = .returned (.bool (okMg m)) ∧ w' = w := by
  have HC : Hid (∀ w, Calls Try.prog 14 #[.int .i64 m] w fun e w' => e = .returned (.bool (okW m)) ∧ w' = w) := may_any m
  by_cases h2 : 0 ≤ m
  · have er : Hid (okMg m = okW m) := by show _ = _; unfold okMg; simp [h2]
    generalize okMg m = R at *
    generalize okW m = p at *
    go_enter Try.func7, Try.ntmps7
    go_wp2_with (go_at_call 14; refine (HC.out _).mono ?_; rintro e wx ⟨rfl, hwx⟩; have hwy := hwx.symm; clear hwx; subst hwy)
    go_ret
    rw [er.out]; exact ⟨rfl, rfl⟩
  · have er : Hid (okMg m = false) := by show _ = _; unfold okMg; simp [h2]
    generalize okMg m = R at *
    go_enter Try.func7, Try.ntmps7
    go_wp2_with fail
    go_ret
    rw [er.out]; exact ⟨rfl, rfl⟩
set_option maxRecDepth 20000 in
set_option maxHeartbeats 4000000 in
theorem maystep_any (u : Bool) (l c : Int) (w : World) : Calls Try.prog 6 #[.agg #[.bool u, .int .i64 l, .int .i64 c]] w fun e w' => e = .returned (.bool (okSt l c)) ∧ Ext w w' := by
  have HL : Hid (∀ w, Calls Try.prog 8 #[.int .i64 l] w fun e w' => e = .returned (.bool (okTm l)) ∧ w' = w) := rtime_any l
  have HC : Hid (∀ w, Calls Try.prog 8 #[.int .i64 c] w fun e w' => e = .returned (.bool (okTm c)) ∧ w' = w) := rtime_any c
  have eo : okSt l c = (okTm l && okTm c) := rfl
  rw [eo]
  clear eo
  generalize okTm c = q at *
  cases h : okTm l
  · rw [h] at HL
    clear h HC
    go_enter Try.func6, Try.ntmps6
    go_wp2_with (go_at_call_of 8 (Value.int IntKind.i64 l); refine (HL.out _).mono ?_; rintro e wx ⟨rfl, hwx⟩; have hwy := hwx.symm; clear hwx; subst hwy)
    go_ret
    exact ⟨rfl, by repeat (first | with_reducible assumption | with_reducible exact Ext.refl _ | with_reducible refine Ext.drew ?_ | with_reducible refine Ext.drewN ?_ _ | with_reducible refine Ext.alloc ?_ _ | with_reducible refine Ext.set ?_ (by first | exact Nat.le_refl _ | (dsimp only; omega) | (simp; done)) _)⟩
  · rw [h] at HL
    clear h
    go_enter Try.func6, Try.ntmps6
    go_wp2_with (first | (go_at_call_of 8 (Value.int IntKind.i64 l); refine (HL.out _).mono ?_; rintro e wx ⟨rfl, hwx⟩; have hwy := hwx.symm; clear hwx; subst hwy; clear HL) | (go_at_call_of 8 (Value.int IntKind.i64 c); refine (HC.out _).mono ?_; rintro e wx ⟨rfl, hwx⟩; have hwy := hwx.symm; clear hwx; subst hwy))
    go_ret
    exact ⟨rfl, by repeat (first | with_reducible assumption | with_reducible exact Ext.refl _ | with_reducible refine Ext.drew ?_ | with_reducible refine Ext.drewN ?_ _ | with_reducible refine Ext.alloc ?_ _ | with_reducible refine Ext.set ?_ (by first | exact Nat.le_refl _ | (dsimp only; omega) | (simp; done)) _)⟩
set_option maxRecDepth 20000 in
set_option maxHeartbeats 16000000 in
theorem rstep_any (u : Bool) (l c m n : Int) (w : World) (a1 : okSt l c = true) (a2 : okMg m = true) (a3 : okTm n = true) (a4 : l ≤ n) : Calls Try.prog 9 #[.agg #[.bool u, .int .i64 l, .int .i64 c], .int .i64 m, .int .i64 n] w fun e w' => e = .returned (takeS u l c m n) ∧ Ext w w' := by
  rw [takeS_good a1 a2 a3 a4]
  obtain ⟨⟨l1, l2⟩, c1, c2⟩ := okSt_bounds a1
  obtain ⟨n1, n2⟩ := okTm_iff.1 a3
  have ew : wrap64 (c + 1) = c + 1 := wrap_le _ (by omega) (by omega)
  have ed : wrap64 (n - l) = n - l := wrap_le _ (by omega) (by omega)
  clear a1 a2 a3 a4 l1 l2 c2 n1 n2
  cases u
  · clear ew ed c1
    by_cases b1 : 11032481 < m
    · rw [if_pos b1]
      have b2 : decide (11032481 < m) = true := by simpa using b1
      go_enter Try.func9, Try.ntmps9
      go_wp2_with fail
      refine bodyPost_ret (v := .tuple #[.agg #[.bool true, .int .i64 l, .int .i64 c], .bool false, .int .i64 0]) (by simp [results, Try.results9, go_sem, *]) rfl ⟨rfl, ?_⟩
      exact by repeat (first | with_reducible assumption | with_reducible exact Ext.refl _ | with_reducible refine Ext.drew ?_ | with_reducible refine Ext.drewN ?_ _ | with_reducible refine Ext.alloc ?_ _ | with_reducible refine Ext.set ?_ (by first | exact Nat.le_refl _ | (dsimp only; omega) | (simp; done)) _)
    · rw [if_neg b1, if_neg (by simp)]
      have b2 : decide (11032481 < m) = false := by simpa using b1
      go_enter Try.func9, Try.ntmps9
      go_wp2_with fail
      refine bodyPost_ret (v := .tuple #[.agg #[.bool false, .int .i64 l, .int .i64 c], .bool false, .int .i64 0]) (by simp [results, Try.results9, go_sem, *]) rfl ⟨rfl, ?_⟩
      exact by repeat (first | with_reducible assumption | with_reducible exact Ext.refl _ | with_reducible refine Ext.drew ?_ | with_reducible refine Ext.drewN ?_ _ | with_reducible refine Ext.alloc ?_ _ | with_reducible refine Ext.set ?_ (by first | exact Nat.le_refl _ | (dsimp only; omega) | (simp; done)) _)
  · by_cases b1 : 9193735 ≤ m
    · clear ew ed c1
      have er : (if 11032481 < m then (.tuple #[.agg #[.bool true, .int .i64 l, .int .i64 c], .bool false, .int .i64 0] : Value) else if m < 9193735 ∧ true = true then if c = 0 ∨ 250 ≤ n - l then if c = 1099511627776 then .tuple #[.agg #[.bool false, .int .i64 0, .int .i64 0], .bool false, .int .i64 4] else .tuple #[.agg #[.bool false, .int .i64 n, .int .i64 (c + 1)], .bool true, .int .i64 0] else .tuple #[.agg #[.bool false, .int .i64 l, .int .i64 c], .bool false, .int .i64 0] else .tuple #[.agg #[.bool true, .int .i64 l, .int .i64 c], .bool false, .int .i64 0]) = .tuple #[.agg #[.bool true, .int .i64 l, .int .i64 c], .bool false, .int .i64 0] := by
        by_cases b2 : 11032481 < m
        · rw [if_pos b2]
        · rw [if_neg b2, if_neg (by omega)]
      rw [er]
      clear er
      go_enter Try.func9, Try.ntmps9
      go_wp2_with fail
      refine bodyPost_ret (v := .tuple #[.agg #[.bool true, .int .i64 l, .int .i64 c], .bool false, .int .i64 0]) (by simp [results, Try.results9, go_sem, *]) rfl ⟨rfl, ?_⟩
      exact by repeat (first | with_reducible assumption | with_reducible exact Ext.refl _ | with_reducible refine Ext.drew ?_ | with_reducible refine Ext.drewN ?_ _ | with_reducible refine Ext.alloc ?_ _ | with_reducible refine Ext.set ?_ (by first | exact Nat.le_refl _ | (dsimp only; omega) | (simp; done)) _)
    · rw [if_neg (by omega), if_pos ⟨by omega, rfl⟩]
      have b3 : decide (9193735 ≤ m) = false := by simpa using b1
      by_cases b2 : c = 0 ∨ 250 ≤ n - l
      · rw [if_pos b2]
        by_cases b4 : c = 1099511627776
        · rw [if_pos b4]
          subst b4
          have b5 : 250 ≤ n - l := by omega
          clear b2 ew
          go_enter Try.func9, Try.ntmps9
          go_wp2_with fail
          refine bodyPost_ret (v := .tuple #[.agg #[.bool false, .int .i64 0, .int .i64 0], .bool false, .int .i64 4]) (by simp [results, Try.results9, go_sem, *]) rfl ⟨rfl, ?_⟩
          exact by repeat (first | with_reducible assumption | with_reducible exact Ext.refl _ | with_reducible refine Ext.drew ?_ | with_reducible refine Ext.drewN ?_ _ | with_reducible refine Ext.alloc ?_ _ | with_reducible refine Ext.set ?_ (by first | exact Nat.le_refl _ | (dsimp only; omega) | (simp; done)) _)
        · rw [if_neg b4]
          have b5 : (c == 1099511627776) = false := by simpa using b4
          by_cases b6 : 0 < c
          · have b7 : 250 ≤ n - l := by omega
            clear b2 b4
            go_enter Try.func9, Try.ntmps9
            go_wp2_with fail
            refine bodyPost_ret (v := .tuple #[.agg #[.bool false, .int .i64 n, .int .i64 (c + 1)], .bool true, .int .i64 0]) (by simp [results, Try.results9, go_sem, *]) rfl ⟨rfl, ?_⟩
            exact by repeat (first | with_reducible assumption | with_reducible exact Ext.refl _ | with_reducible refine Ext.drew ?_ | with_reducible refine Ext.drewN ?_ _ | with_reducible refine Ext.alloc ?_ _ | with_reducible refine Ext.set ?_ (by first | exact Nat.le_refl _ | (dsimp only; omega) | (simp; done)) _)
          · have b7 : c = 0 := by omega
            subst b7
            clear b2 b4 ed b6 b5
            go_enter Try.func9, Try.ntmps9
            go_wp2_with fail
            refine bodyPost_ret (v := .tuple #[.agg #[.bool false, .int .i64 n, .int .i64 (0 + 1)], .bool true, .int .i64 0]) (by simp [results, Try.results9, go_sem, *]) rfl ⟨rfl, ?_⟩
            exact by repeat (first | with_reducible assumption | with_reducible exact Ext.refl _ | with_reducible refine Ext.drew ?_ | with_reducible refine Ext.drewN ?_ _ | with_reducible refine Ext.alloc ?_ _ | with_reducible refine Ext.set ?_ (by first | exact Nat.le_refl _ | (dsimp only; omega) | (simp; done)) _)
      · rw [if_neg b2]
        have b6 : 0 < c := by omega
        have b7 : n - l < 250 := by omega
        clear b2 ew
        go_enter Try.func9, Try.ntmps9
        go_wp2_with fail
        refine bodyPost_ret (v := .tuple #[.agg #[.bool false, .int .i64 l, .int .i64 c], .bool false, .int .i64 0]) (by simp [results, Try.results9, go_sem, *]) rfl ⟨rfl, ?_⟩
        exact by repeat (first | with_reducible assumption | with_reducible exact Ext.refl _ | with_reducible refine Ext.drew ?_ | with_reducible refine Ext.drewN ?_ _ | with_reducible refine Ext.alloc ?_ _ | with_reducible refine Ext.set ?_ (by first | exact Nat.le_refl _ | (dsimp only; omega) | (simp; done)) _)
theorem takeS_form (u : Bool) (l c m n : Int) : ∃ (a : Bool) (b d : Int) (t : Bool) (e : Int), takeS u l c m n = .tuple #[.agg #[.bool a, .int .i64 b, .int .i64 d], .bool t, .int .i64 e] := by
  unfold takeS
  split
  · split
    · exact ⟨_, _, _, _, _, rfl⟩
    · split
      · split
        · split
          · exact ⟨_, _, _, _, _, rfl⟩
          · exact ⟨_, _, _, _, _, rfl⟩
        · exact ⟨_, _, _, _, _, rfl⟩
      · exact ⟨_, _, _, _, _, rfl⟩
  · exact ⟨_, _, _, _, _, rfl⟩
set_option maxRecDepth 20000 in
set_option maxHeartbeats 4000000 in
theorem wakes17_any (w : World) : Calls Try.prog 12 #[] w fun e w' => e = .returned (.bool true) ∧ Ext w w' := by
  have HA : Hid (∀ w, Calls Try.prog 10 #[.agg #[.bool false, .int .i64 0, .int .i64 0], .int .i64 12000000, .int .i64 5] w fun e w' => e = .returned (.tuple #[.agg #[.bool true, .int .i64 0, .int .i64 0], .bool false, .int .i64 0]) ∧ Ext w w') := fun w => by
    have h := stake_any false 0 0 12000000 5 w
    have e : takeS false 0 0 12000000 5 = .tuple #[.agg #[.bool true, .int .i64 0, .int .i64 0], .bool false, .int .i64 0] := by kernel_rfl
    rw [e] at h
    exact h
  have HB : Hid (∀ w, Calls Try.prog 10 #[.agg #[.bool true, .int .i64 0, .int .i64 0], .int .i64 9000000, .int .i64 6] w fun e w' => e = .returned (.tuple #[.agg #[.bool false, .int .i64 6, .int .i64 1], .bool true, .int .i64 0]) ∧ Ext w w') := fun w => by
    have h := stake_any true 0 0 9000000 6 w
    have e : takeS true 0 0 9000000 6 = .tuple #[.agg #[.bool false, .int .i64 6, .int .i64 1], .bool true, .int .i64 0] := by kernel_rfl
    rw [e] at h
    exact h
  have FX : Hid (Ext w w) := Ext.refl _
  go_enter Try.func12, Try.ntmps12
  go_wp2_with fail
  refine (HA.out _).mono ?_
  rintro e w1 ⟨rfl, x1⟩
  have FX : Hid (Ext w w1) := FX.out.trans x1
  clear x1 HA
  go_upto_region 2 with fail
  have Ls : Hid (w.heap.size ≤ w1.heap.size) := FX.out.size
  have Fs : Hid (HV (w1.alloc (.cells #[.bool true, .int .i64 0, .int .i64 0] 24)) w1.heap.size [.bool true, .int .i64 0, .int .i64 0]) := hv_at rfl
  have FX : Hid (Ext w (w1.alloc (.cells #[.bool true, .int .i64 0, .int .i64 0] 24))) := FX.out.alloc _
  generalize (w1.alloc (.cells #[.bool true, .int .i64 0, .int .i64 0] 24)) = wx1 at *
  generalize w1.heap.size = ns at *
  have qs0 : wx1.cell? ⟨ns, 0, none⟩ = some (.bool true) := Fs.out.c 0 rfl
  have qs1 : wx1.cell? ⟨ns, 1, none⟩ = some (.int .i64 0) := Fs.out.c 1 rfl
  have qs2 : wx1.cell? ⟨ns, 2, none⟩ = some (.int .i64 0) := Fs.out.c 2 rfl
  go_upto_region 3 with (first | (go_at_call 10; refine (HB.out _).mono ?_; rintro e w2 ⟨rfl, x2⟩))
  have Fs : Hid (HV w2 ns [.bool true, .int .i64 0, .int .i64 0]) := Fs.out.ext x2
  have FX : Hid (Ext w w2) := FX.out.trans x2
  clear qs0 qs1 qs2 x2 HB
  have ltst : ns < w2.heap.size := Fs.out.1
  have Lt : Hid (w.heap.size ≤ w2.heap.size) := FX.out.size
  have Fs : Hid (HV (w2.alloc (.cells #[.bool false, .int .i64 6, .int .i64 1] 24)) ns [.bool true, .int .i64 0, .int .i64 0]) := Fs.out.alloc _
  have Ft : Hid (HV (w2.alloc (.cells #[.bool false, .int .i64 6, .int .i64 1] 24)) w2.heap.size [.bool false, .int .i64 6, .int .i64 1]) := hv_at rfl
  have FX : Hid (Ext w (w2.alloc (.cells #[.bool false, .int .i64 6, .int .i64 1] 24))) := FX.out.alloc _
  generalize (w2.alloc (.cells #[.bool false, .int .i64 6, .int .i64 1] 24)) = wx2 at *
  generalize w2.heap.size = nt at *
  have qt0 : wx2.cell? ⟨nt, 0, none⟩ = some (.bool false) := Ft.out.c 0 rfl
  have qt1 : wx2.cell? ⟨nt, 1, none⟩ = some (.int .i64 6) := Ft.out.c 1 rfl
  have qt2 : wx2.cell? ⟨nt, 2, none⟩ = some (.int .i64 1) := Ft.out.c 2 rfl
  go_wp2_with (go_at_call 11; refine (num17_any _ _).mono ?_; rintro e wx ⟨rfl, hwx⟩; have hwy := hwx.symm; clear hwx; subst hwy)
  go_ret
  exact ⟨rfl, FX.out⟩
end Go.Proofs.Ytfeoiolcdiddiaa
