/- step.Take. -/
import Derived.Test.YtfeoiolcdiddiaaSp0
namespace Go.Proofs.Ytfeoiolcdiddiaa
open Go.RowKit
/-- what Take tells -/
def takeS (u : Bool) (l c m n : Int) : Value :=
  if okSt l c && okMg m && okTm n && decide (l ≤ n) then
    if 11032481 < m then .tuple #[.agg #[.bool true, .int .i64 l, .int .i64 c], .bool false, .int .i64 0]
    else if m < 9193735 ∧ u = true then
      if c = 0 ∨ 250 ≤ n - l then
        if c = 1099511627776 then .tuple #[.agg #[.bool false, .int .i64 0, .int .i64 0], .bool false, .int .i64 4] else .tuple #[.agg #[.bool false, .int .i64 n, .int .i64 (c + 1)], .bool true, .int .i64 0]
      else .tuple #[.agg #[.bool false, .int .i64 l, .int .i64 c], .bool false, .int .i64 0]
    else .tuple #[.agg #[.bool u, .int .i64 l, .int .i64 c], .bool false, .int .i64 0]
  else .tuple #[.agg #[.bool false, .int .i64 0, .int .i64 0], .bool false, .int .i64 1]
theorem takeS_good {u : Bool} {l c m n : Int} (h1 : okSt l c = true) (h2 : okMg m = true) (h3 : okTm n = true) (h4 : l ≤ n) : takeS u l c m n =
    if 11032481 < m then .tuple #[.agg #[.bool true, .int .i64 l, .int .i64 c], .bool false, .int .i64 0]
    else if m < 9193735 ∧ u = true then
      if c = 0 ∨ 250 ≤ n - l then
        if c = 1099511627776 then .tuple #[.agg #[.bool false, .int .i64 0, .int .i64 0], .bool false, .int .i64 4] else .tuple #[.agg #[.bool false, .int .i64 n, .int .i64 (c + 1)], .bool true, .int .i64 0]
      else .tuple #[.agg #[.bool false, .int .i64 l, .int .i64 c], .bool false, .int .i64 0]
    else .tuple #[.agg #[.bool u, .int .i64 l, .int .i64 c], .bool false, .int .i64 0] := by
  unfold takeS
  rw [h1, h2, h3, if_pos (by simpa using h4)]
theorem okSt_bounds {l c : Int} (h : okSt l c = true) : (0 ≤ l ∧ l ≤ 1099511627776) ∧ 0 ≤ c ∧ c ≤ 1099511627776 := by
  unfold okSt at h
  rw [Bool.and_eq_true] at h
  exact ⟨okTm_iff.1 h.1, okTm_iff.1 h.2⟩
theorem own_iff {l c n : Int} (h : 0 ≤ n - l) (h2 : n - l ≤ 1099511627776) : own l c n = true ↔ c = 0 ∨ 250 ≤ n - l := by
  unfold own
  rw [wrap_le _ (by omega) (by omega)]
  simp
set_option maxRecDepth 20000 in
set_option maxHeartbeats 16000000 in
theorem stake_any (u : Bool) (l c m n : Int) (w : World) : Calls Try.prog 10 #[.agg #[.bool u, .int .i64 l, .int .i64 c], .int .i64 m, .int .i64 n] w fun e w' => e = .returned (takeS u l c m n) ∧ Ext w w' := by
  have HI : Hid (∀ w, Calls Try.prog 15 #[.agg #[.bool u, .int .i64 l, .int .i64 c]] w fun e w' => e = .returned (.bool (okSt l c)) ∧ Ext w w') := isstate_any u l c
  have HM : Hid (∀ w, Calls Try.prog 16 #[.int .i64 m] w fun e w' => e = .returned (.bool (okMg m)) ∧ w' = w) := ismag_any m
  have HT : Hid (∀ w, Calls Try.prog 17 #[.int .i64 n] w fun e w' => e = .returned (.bool (okTm n)) ∧ w' = w) := istime_any n
  have Fs : Hid (HV ((w.alloc (.cells #[.bool u, .int .i64 l, .int .i64 c] 24)).alloc (.cells #[.bool false, .int .i64 0, .int .i64 0] 24)) w.heap.size [.bool u, .int .i64 l, .int .i64 c]) := (hv_at rfl).alloc _
  have Ft : Hid (HV ((w.alloc (.cells #[.bool u, .int .i64 l, .int .i64 c] 24)).alloc (.cells #[.bool false, .int .i64 0, .int .i64 0] 24)) (w.heap.size + 1) [.bool false, .int .i64 0, .int .i64 0]) := hv_at (by simp)
  have Ls : Hid (w.heap.size ≤ w.heap.size) := Nat.le_refl _
  have Lt : Hid (w.heap.size ≤ w.heap.size + 1) := Nat.le_add_right _ _
  have FX : Hid (Ext w ((w.alloc (.cells #[.bool u, .int .i64 l, .int .i64 c] 24)).alloc (.cells #[.bool false, .int .i64 0, .int .i64 0] 24))) := ((Ext.refl w).alloc _).alloc _
  cases a1 : okSt l c
  · have er : takeS u l c m n = .tuple #[.agg #[.bool false, .int .i64 0, .int .i64 0], .bool false, .int .i64 1] := by unfold takeS; rw [a1]; rfl
    rw [er]
    rw [a1] at HI
    clear er a1
    go_enter Try.func10, Try.ntmps10
    go_upto_region 1 with fail
    generalize ((w.alloc (.cells #[.bool u, .int .i64 l, .int .i64 c] 24)).alloc (.cells #[.bool false, .int .i64 0, .int .i64 0] 24)) = wa at *
    have qs0 : wa.cell? ⟨w.heap.size, 0, none⟩ = some (.bool u) := Fs.out.c 0 rfl
    have qs1 : wa.cell? ⟨w.heap.size, 1, none⟩ = some (.int .i64 l) := Fs.out.c 1 rfl
    have qs2 : wa.cell? ⟨w.heap.size, 2, none⟩ = some (.int .i64 c) := Fs.out.c 2 rfl
    go_upto_region 2 with (first | (go_at_call 15; refine (HI.out _).mono ?_; rintro e w1 ⟨rfl, x1⟩; have ks1 : w1.cell? ⟨w.heap.size, 1, none⟩ = some (.int .i64 l) := (Fs.out.ext x1).c 1 rfl))
    have Fs : Hid (HV w1 w.heap.size [.bool u, .int .i64 l, .int .i64 c]) := Fs.out.ext x1
    have Ft : Hid (HV w1 (w.heap.size + 1) [.bool false, .int .i64 0, .int .i64 0]) := Ft.out.ext x1
    have FX : Hid (Ext w w1) := FX.out.trans x1
    clear qs0 qs1 qs2 x1 HI HM HT
    have o0 : w1.cell? ⟨(w.heap.size + 1), 0, none⟩ = some (.bool false) := Ft.out.c 0 rfl
    have z0 : w1.frozen? ⟨(w.heap.size + 1), 0, none⟩ = false := Ft.out.f 0 rfl
    have o1 : w1.cell? ⟨(w.heap.size + 1), 1, none⟩ = some (.int .i64 0) := Ft.out.c 1 rfl
    have z1 : w1.frozen? ⟨(w.heap.size + 1), 1, none⟩ = false := Ft.out.f 1 rfl
    have o2 : w1.cell? ⟨(w.heap.size + 1), 2, none⟩ = some (.int .i64 0) := Ft.out.c 2 rfl
    have z2 : w1.frozen? ⟨(w.heap.size + 1), 2, none⟩ = false := Ft.out.f 2 rfl
    go_wp2_with fail
    refine bodyPost_ret (v := .tuple #[.agg #[.bool false, .int .i64 0, .int .i64 0], .bool false, .int .i64 1]) (by simp [results, Try.results10, go_sem, *]) rfl ⟨rfl, ?_⟩
    exact (Ext.set (Ext.set (Ext.set FX.out Lt.out _) Lt.out _) Lt.out _)
  · cases a2 : okMg m
    · have er : takeS u l c m n = .tuple #[.agg #[.bool false, .int .i64 0, .int .i64 0], .bool false, .int .i64 1] := by unfold takeS; rw [a1, a2]; rfl
      rw [er]
      rw [a1] at HI
      rw [a2] at HM
      clear er a1 a2
      go_enter Try.func10, Try.ntmps10
      go_upto_region 1 with fail
      generalize ((w.alloc (.cells #[.bool u, .int .i64 l, .int .i64 c] 24)).alloc (.cells #[.bool false, .int .i64 0, .int .i64 0] 24)) = wa at *
      have qs0 : wa.cell? ⟨w.heap.size, 0, none⟩ = some (.bool u) := Fs.out.c 0 rfl
      have qs1 : wa.cell? ⟨w.heap.size, 1, none⟩ = some (.int .i64 l) := Fs.out.c 1 rfl
      have qs2 : wa.cell? ⟨w.heap.size, 2, none⟩ = some (.int .i64 c) := Fs.out.c 2 rfl
      go_upto_region 2 with (first | (go_at_call 15; refine (HI.out _).mono ?_; rintro e w1 ⟨rfl, x1⟩; have ks1 : w1.cell? ⟨w.heap.size, 1, none⟩ = some (.int .i64 l) := (Fs.out.ext x1).c 1 rfl) | (go_at_call 16; refine (HM.out _).mono ?_; rintro e wx ⟨rfl, hwx⟩; have hwy := hwx.symm; clear hwx; subst hwy))
      have Fs : Hid (HV w1 w.heap.size [.bool u, .int .i64 l, .int .i64 c]) := Fs.out.ext x1
      have Ft : Hid (HV w1 (w.heap.size + 1) [.bool false, .int .i64 0, .int .i64 0]) := Ft.out.ext x1
      have FX : Hid (Ext w w1) := FX.out.trans x1
      clear qs0 qs1 qs2 x1 HI HM HT
      have o0 : w1.cell? ⟨(w.heap.size + 1), 0, none⟩ = some (.bool false) := Ft.out.c 0 rfl
      have z0 : w1.frozen? ⟨(w.heap.size + 1), 0, none⟩ = false := Ft.out.f 0 rfl
      have o1 : w1.cell? ⟨(w.heap.size + 1), 1, none⟩ = some (.int .i64 0) := Ft.out.c 1 rfl
      have z1 : w1.frozen? ⟨(w.heap.size + 1), 1, none⟩ = false := Ft.out.f 1 rfl
      have o2 : w1.cell? ⟨(w.heap.size + 1), 2, none⟩ = some (.int .i64 0) := Ft.out.c 2 rfl
      have z2 : w1.frozen? ⟨(w.heap.size + 1), 2, none⟩ = false := Ft.out.f 2 rfl
      go_wp2_with fail
      refine bodyPost_ret (v := .tuple #[.agg #[.bool false, .int .i64 0, .int .i64 0], .bool false, .int .i64 1]) (by simp [results, Try.results10, go_sem, *]) rfl ⟨rfl, ?_⟩
      exact (Ext.set (Ext.set (Ext.set FX.out Lt.out _) Lt.out _) Lt.out _)
    · cases a3 : okTm n
      · have er : takeS u l c m n = .tuple #[.agg #[.bool false, .int .i64 0, .int .i64 0], .bool false, .int .i64 1] := by unfold takeS; rw [a1, a2, a3]; rfl
        rw [er]
        rw [a1] at HI
        rw [a2] at HM
        rw [a3] at HT
        clear er a1 a2 a3
        go_enter Try.func10, Try.ntmps10
        go_upto_region 1 with fail
        generalize ((w.alloc (.cells #[.bool u, .int .i64 l, .int .i64 c] 24)).alloc (.cells #[.bool false, .int .i64 0, .int .i64 0] 24)) = wa at *
        have qs0 : wa.cell? ⟨w.heap.size, 0, none⟩ = some (.bool u) := Fs.out.c 0 rfl
        have qs1 : wa.cell? ⟨w.heap.size, 1, none⟩ = some (.int .i64 l) := Fs.out.c 1 rfl
        have qs2 : wa.cell? ⟨w.heap.size, 2, none⟩ = some (.int .i64 c) := Fs.out.c 2 rfl
        go_upto_region 2 with (first | (go_at_call 15; refine (HI.out _).mono ?_; rintro e w1 ⟨rfl, x1⟩; have ks1 : w1.cell? ⟨w.heap.size, 1, none⟩ = some (.int .i64 l) := (Fs.out.ext x1).c 1 rfl) | (go_at_call 16; refine (HM.out _).mono ?_; rintro e wx ⟨rfl, hwx⟩; have hwy := hwx.symm; clear hwx; subst hwy) | (go_at_call 17; refine (HT.out _).mono ?_; rintro e wx ⟨rfl, hwx⟩; have hwy := hwx.symm; clear hwx; subst hwy))
        have Fs : Hid (HV w1 w.heap.size [.bool u, .int .i64 l, .int .i64 c]) := Fs.out.ext x1
        have Ft : Hid (HV w1 (w.heap.size + 1) [.bool false, .int .i64 0, .int .i64 0]) := Ft.out.ext x1
        have FX : Hid (Ext w w1) := FX.out.trans x1
        clear qs0 qs1 qs2 x1 HI HM HT
        have o0 : w1.cell? ⟨(w.heap.size + 1), 0, none⟩ = some (.bool false) := Ft.out.c 0 rfl
        have z0 : w1.frozen? ⟨(w.heap.size + 1), 0, none⟩ = false := Ft.out.f 0 rfl
        have o1 : w1.cell? ⟨(w.heap.size + 1), 1, none⟩ = some (.int .i64 0) := Ft.out.c 1 rfl
        have z1 : w1.frozen? ⟨(w.heap.size + 1), 1, none⟩ = false := Ft.out.f 1 rfl
        have o2 : w1.cell? ⟨(w.heap.size + 1), 2, none⟩ = some (.int .i64 0) := Ft.out.c 2 rfl
        have z2 : w1.frozen? ⟨(w.heap.size + 1), 2, none⟩ = false := Ft.out.f 2 rfl
        go_wp2_with fail
        refine bodyPost_ret (v := .tuple #[.agg #[.bool false, .int .i64 0, .int .i64 0], .bool false, .int .i64 1]) (by simp [results, Try.results10, go_sem, *]) rfl ⟨rfl, ?_⟩
        exact (Ext.set (Ext.set (Ext.set FX.out Lt.out _) Lt.out _) Lt.out _)
      · by_cases a4 : n < l
        · have er : takeS u l c m n = .tuple #[.agg #[.bool false, .int .i64 0, .int .i64 0], .bool false, .int .i64 1] := by unfold takeS; rw [a1, a2, a3, if_neg (by simp; omega)]
          rw [er]
          rw [a1] at HI
          rw [a2] at HM
          rw [a3] at HT
          clear er a1 a2 a3
          go_enter Try.func10, Try.ntmps10
          go_upto_region 1 with fail
          generalize ((w.alloc (.cells #[.bool u, .int .i64 l, .int .i64 c] 24)).alloc (.cells #[.bool false, .int .i64 0, .int .i64 0] 24)) = wa at *
          have qs0 : wa.cell? ⟨w.heap.size, 0, none⟩ = some (.bool u) := Fs.out.c 0 rfl
          have qs1 : wa.cell? ⟨w.heap.size, 1, none⟩ = some (.int .i64 l) := Fs.out.c 1 rfl
          have qs2 : wa.cell? ⟨w.heap.size, 2, none⟩ = some (.int .i64 c) := Fs.out.c 2 rfl
          go_upto_region 2 with (first | (go_at_call 15; refine (HI.out _).mono ?_; rintro e w1 ⟨rfl, x1⟩; have ks1 : w1.cell? ⟨w.heap.size, 1, none⟩ = some (.int .i64 l) := (Fs.out.ext x1).c 1 rfl) | (go_at_call 16; refine (HM.out _).mono ?_; rintro e wx ⟨rfl, hwx⟩; have hwy := hwx.symm; clear hwx; subst hwy) | (go_at_call 17; refine (HT.out _).mono ?_; rintro e wx ⟨rfl, hwx⟩; have hwy := hwx.symm; clear hwx; subst hwy))
          have Fs : Hid (HV w1 w.heap.size [.bool u, .int .i64 l, .int .i64 c]) := Fs.out.ext x1
          have Ft : Hid (HV w1 (w.heap.size + 1) [.bool false, .int .i64 0, .int .i64 0]) := Ft.out.ext x1
          have FX : Hid (Ext w w1) := FX.out.trans x1
          clear qs0 qs1 qs2 x1 HI HM HT
          clear ks1
          have o0 : w1.cell? ⟨(w.heap.size + 1), 0, none⟩ = some (.bool false) := Ft.out.c 0 rfl
          have z0 : w1.frozen? ⟨(w.heap.size + 1), 0, none⟩ = false := Ft.out.f 0 rfl
          have o1 : w1.cell? ⟨(w.heap.size + 1), 1, none⟩ = some (.int .i64 0) := Ft.out.c 1 rfl
          have z1 : w1.frozen? ⟨(w.heap.size + 1), 1, none⟩ = false := Ft.out.f 1 rfl
          have o2 : w1.cell? ⟨(w.heap.size + 1), 2, none⟩ = some (.int .i64 0) := Ft.out.c 2 rfl
          have z2 : w1.frozen? ⟨(w.heap.size + 1), 2, none⟩ = false := Ft.out.f 2 rfl
          go_wp2_with fail
          refine bodyPost_ret (v := .tuple #[.agg #[.bool false, .int .i64 0, .int .i64 0], .bool false, .int .i64 1]) (by simp [results, Try.results10, go_sem, *]) rfl ⟨rfl, ?_⟩
          exact (Ext.set (Ext.set (Ext.set FX.out Lt.out _) Lt.out _) Lt.out _)
        · have b4 : l ≤ n := by omega
          rw [takeS_good a1 a2 a3 b4]
          obtain ⟨⟨l1, l2⟩, c1, c2⟩ := okSt_bounds a1
          obtain ⟨n1, n2⟩ := okTm_iff.1 a3
          have HO : Hid (own l c n = true ↔ c = 0 ∨ 250 ≤ n - l) := own_iff (by omega) (by omega)
          have ew : Hid (wrap64 (c + 1) = c + 1) := wrap_le _ (by omega) (by omega)
          have HW : Hid (∀ w, Calls Try.prog 18 #[.int .i64 m, .agg #[.int .i64 9193735, .int .i64 11032481]] w fun e w' => e = .returned (.int .i64 (whr m 9193735 11032481)) ∧ Ext w w') := where_any m 9193735 11032481
          rw [a1] at HI
          rw [a2] at HM
          rw [a3] at HT
          have a5 : decide (n < l) = false := by simp; omega
          clear a1 a2 a3 b4 l1 l2 c1 c2 n1 n2 a4
          by_cases b1 : 11032481 < m
          · rw [if_pos b1]
            have er : whr m 9193735 11032481 = 2 := by unfold whr; rw [if_neg (by omega), if_pos b1]
            rw [er] at HW
            clear er b1 HO ew
            go_enter Try.func10, Try.ntmps10
            go_upto_region 1 with fail
            generalize ((w.alloc (.cells #[.bool u, .int .i64 l, .int .i64 c] 24)).alloc (.cells #[.bool false, .int .i64 0, .int .i64 0] 24)) = wa at *
            have qs0 : wa.cell? ⟨w.heap.size, 0, none⟩ = some (.bool u) := Fs.out.c 0 rfl
            have qs1 : wa.cell? ⟨w.heap.size, 1, none⟩ = some (.int .i64 l) := Fs.out.c 1 rfl
            have qs2 : wa.cell? ⟨w.heap.size, 2, none⟩ = some (.int .i64 c) := Fs.out.c 2 rfl
            go_upto_region 3 with (first | (go_at_call 15; refine (HI.out _).mono ?_; rintro e w1 ⟨rfl, x1⟩; have ks1 : w1.cell? ⟨w.heap.size, 1, none⟩ = some (.int .i64 l) := (Fs.out.ext x1).c 1 rfl) | (go_at_call 16; refine (HM.out _).mono ?_; rintro e wx ⟨rfl, hwx⟩; have hwy := hwx.symm; clear hwx; subst hwy) | (go_at_call 17; refine (HT.out _).mono ?_; rintro e wx ⟨rfl, hwx⟩; have hwy := hwx.symm; clear hwx; subst hwy))
            have Fs : Hid (HV w1 w.heap.size [.bool u, .int .i64 l, .int .i64 c]) := Fs.out.ext x1
            have Ft : Hid (HV w1 (w.heap.size + 1) [.bool false, .int .i64 0, .int .i64 0]) := Ft.out.ext x1
            have FX : Hid (Ext w w1) := FX.out.trans x1
            clear qs0 qs1 qs2 x1 HI HM HT
            clear ks1
            go_upto_region 4 with (first | (go_at_call 18; refine (HW.out _).mono ?_; rintro e w2 ⟨rfl, x2⟩))
            have Fs : Hid (HV w2 w.heap.size [.bool u, .int .i64 l, .int .i64 c]) := Fs.out.ext x2
            have Ft : Hid (HV w2 (w.heap.size + 1) [.bool false, .int .i64 0, .int .i64 0]) := Ft.out.ext x2
            have FX : Hid (Ext w w2) := FX.out.trans x2
            clear x2 HW
            have q0 : w2.cell? ⟨w.heap.size, 0, none⟩ = some (.bool u) := Fs.out.c 0 rfl
            have y0 : w2.frozen? ⟨w.heap.size, 0, none⟩ = false := Fs.out.f 0 rfl
            go_upto_region 10 with fail
            clear q0 y0
            have Ft : Hid (HV (w2.setCell ⟨w.heap.size, 0, none⟩ (.bool true)) (w.heap.size + 1) [.bool false, .int .i64 0, .int .i64 0]) := (Ft.out.far (by omega))
            have Fs : Hid (HV (w2.setCell ⟨w.heap.size, 0, none⟩ (.bool true)) w.heap.size [.bool true, .int .i64 l, .int .i64 c]) := (Fs.out.set 0 (.bool true))
            have FX : Hid (Ext w (w2.setCell ⟨w.heap.size, 0, none⟩ (.bool true))) := (FX.out.set (p := ⟨w.heap.size, 0, none⟩) Ls.out (.bool true))
            generalize (w2.setCell ⟨w.heap.size, 0, none⟩ (.bool true)) = wx1 at *
            have qs0 : wx1.cell? ⟨w.heap.size, 0, none⟩ = some (.bool true) := Fs.out.c 0 rfl
            have qs1 : wx1.cell? ⟨w.heap.size, 1, none⟩ = some (.int .i64 l) := Fs.out.c 1 rfl
            have qs2 : wx1.cell? ⟨w.heap.size, 2, none⟩ = some (.int .i64 c) := Fs.out.c 2 rfl
            have o0 : wx1.cell? ⟨(w.heap.size + 1), 0, none⟩ = some (.bool false) := Ft.out.c 0 rfl
            have z0 : wx1.frozen? ⟨(w.heap.size + 1), 0, none⟩ = false := Ft.out.f 0 rfl
            have o1 : wx1.cell? ⟨(w.heap.size + 1), 1, none⟩ = some (.int .i64 0) := Ft.out.c 1 rfl
            have z1 : wx1.frozen? ⟨(w.heap.size + 1), 1, none⟩ = false := Ft.out.f 1 rfl
            have o2 : wx1.cell? ⟨(w.heap.size + 1), 2, none⟩ = some (.int .i64 0) := Ft.out.c 2 rfl
            have z2 : wx1.frozen? ⟨(w.heap.size + 1), 2, none⟩ = false := Ft.out.f 2 rfl
            go_wp2_with fail
            refine bodyPost_ret (v := .tuple #[.agg #[.bool true, .int .i64 l, .int .i64 c], .bool false, .int .i64 0]) (by simp [results, Try.results10, go_sem, *]) rfl ⟨rfl, ?_⟩
            exact (Ext.set (Ext.set (Ext.set FX.out Lt.out _) Lt.out _) Lt.out _)
          · rw [if_neg b1]
            by_cases b2 : m < 9193735
            · have er : whr m 9193735 11032481 = 0 := by unfold whr; rw [if_pos b2]
              rw [er] at HW
              cases u
              · rw [if_neg (by simp)]
                clear er b1 b2 HO ew
                go_enter Try.func10, Try.ntmps10
                go_upto_region 1 with fail
                generalize ((w.alloc (.cells #[.bool false, .int .i64 l, .int .i64 c] 24)).alloc (.cells #[.bool false, .int .i64 0, .int .i64 0] 24)) = wa at *
                have qs0 : wa.cell? ⟨w.heap.size, 0, none⟩ = some (.bool false) := Fs.out.c 0 rfl
                have qs1 : wa.cell? ⟨w.heap.size, 1, none⟩ = some (.int .i64 l) := Fs.out.c 1 rfl
                have qs2 : wa.cell? ⟨w.heap.size, 2, none⟩ = some (.int .i64 c) := Fs.out.c 2 rfl
                go_upto_region 3 with (first | (go_at_call 15; refine (HI.out _).mono ?_; rintro e w1 ⟨rfl, x1⟩; have ks1 : w1.cell? ⟨w.heap.size, 1, none⟩ = some (.int .i64 l) := (Fs.out.ext x1).c 1 rfl) | (go_at_call 16; refine (HM.out _).mono ?_; rintro e wx ⟨rfl, hwx⟩; have hwy := hwx.symm; clear hwx; subst hwy) | (go_at_call 17; refine (HT.out _).mono ?_; rintro e wx ⟨rfl, hwx⟩; have hwy := hwx.symm; clear hwx; subst hwy))
                have Fs : Hid (HV w1 w.heap.size [.bool false, .int .i64 l, .int .i64 c]) := Fs.out.ext x1
                have Ft : Hid (HV w1 (w.heap.size + 1) [.bool false, .int .i64 0, .int .i64 0]) := Ft.out.ext x1
                have FX : Hid (Ext w w1) := FX.out.trans x1
                clear qs0 qs1 qs2 x1 HI HM HT ks1
                go_upto_region 4 with (first | (go_at_call 18; refine (HW.out _).mono ?_; rintro e w2 ⟨rfl, x2⟩))
                have Fs : Hid (HV w2 w.heap.size [.bool false, .int .i64 l, .int .i64 c]) := Fs.out.ext x2
                have Ft : Hid (HV w2 (w.heap.size + 1) [.bool false, .int .i64 0, .int .i64 0]) := Ft.out.ext x2
                have FX : Hid (Ext w w2) := FX.out.trans x2
                clear x2 HW
                have qs0 : w2.cell? ⟨w.heap.size, 0, none⟩ = some (.bool false) := Fs.out.c 0 rfl
                have qs1 : w2.cell? ⟨w.heap.size, 1, none⟩ = some (.int .i64 l) := Fs.out.c 1 rfl
                have qs2 : w2.cell? ⟨w.heap.size, 2, none⟩ = some (.int .i64 c) := Fs.out.c 2 rfl
                have o0 : w2.cell? ⟨(w.heap.size + 1), 0, none⟩ = some (.bool false) := Ft.out.c 0 rfl
                have z0 : w2.frozen? ⟨(w.heap.size + 1), 0, none⟩ = false := Ft.out.f 0 rfl
                have o1 : w2.cell? ⟨(w.heap.size + 1), 1, none⟩ = some (.int .i64 0) := Ft.out.c 1 rfl
                have z1 : w2.frozen? ⟨(w.heap.size + 1), 1, none⟩ = false := Ft.out.f 1 rfl
                have o2 : w2.cell? ⟨(w.heap.size + 1), 2, none⟩ = some (.int .i64 0) := Ft.out.c 2 rfl
                have z2 : w2.frozen? ⟨(w.heap.size + 1), 2, none⟩ = false := Ft.out.f 2 rfl
                go_wp2_with fail
                refine bodyPost_ret (v := .tuple #[.agg #[.bool false, .int .i64 l, .int .i64 c], .bool false, .int .i64 0]) (by simp [results, Try.results10, go_sem, *]) rfl ⟨rfl, ?_⟩
                exact (Ext.set (Ext.set (Ext.set FX.out Lt.out _) Lt.out _) Lt.out _)
              · rw [if_pos ⟨b2, rfl⟩]
                clear er b1 b2
                have HQ : Hid (∀ w, Calls Try.prog 19 #[.agg #[.bool false, .int .i64 l, .int .i64 c], .int .i64 n] w fun e w' => e = .returned (.bool (own l c n)) ∧ Ext w w') := isown_any false l c n
                cases b3 : own l c n
                · rw [if_neg (fun h => by have := HO.out.2 h; rw [b3] at this; cases this)]
                  rw [b3] at HQ
                  clear b3 HO ew
                  go_enter Try.func10, Try.ntmps10
                  go_upto_region 1 with fail
                  generalize ((w.alloc (.cells #[.bool true, .int .i64 l, .int .i64 c] 24)).alloc (.cells #[.bool false, .int .i64 0, .int .i64 0] 24)) = wa at *
                  have qs0 : wa.cell? ⟨w.heap.size, 0, none⟩ = some (.bool true) := Fs.out.c 0 rfl
                  have qs1 : wa.cell? ⟨w.heap.size, 1, none⟩ = some (.int .i64 l) := Fs.out.c 1 rfl
                  have qs2 : wa.cell? ⟨w.heap.size, 2, none⟩ = some (.int .i64 c) := Fs.out.c 2 rfl
                  go_upto_region 3 with (first | (go_at_call 15; refine (HI.out _).mono ?_; rintro e w1 ⟨rfl, x1⟩; have ks1 : w1.cell? ⟨w.heap.size, 1, none⟩ = some (.int .i64 l) := (Fs.out.ext x1).c 1 rfl) | (go_at_call 16; refine (HM.out _).mono ?_; rintro e wx ⟨rfl, hwx⟩; have hwy := hwx.symm; clear hwx; subst hwy) | (go_at_call 17; refine (HT.out _).mono ?_; rintro e wx ⟨rfl, hwx⟩; have hwy := hwx.symm; clear hwx; subst hwy))
                  have Fs : Hid (HV w1 w.heap.size [.bool true, .int .i64 l, .int .i64 c]) := Fs.out.ext x1
                  have Ft : Hid (HV w1 (w.heap.size + 1) [.bool false, .int .i64 0, .int .i64 0]) := Ft.out.ext x1
                  have FX : Hid (Ext w w1) := FX.out.trans x1
                  clear qs0 qs1 qs2 x1 HI HM HT ks1
                  go_upto_region 4 with (first | (go_at_call 18; refine (HW.out _).mono ?_; rintro e w2 ⟨rfl, x2⟩))
                  have Fs : Hid (HV w2 w.heap.size [.bool true, .int .i64 l, .int .i64 c]) := Fs.out.ext x2
                  have Ft : Hid (HV w2 (w.heap.size + 1) [.bool false, .int .i64 0, .int .i64 0]) := Ft.out.ext x2
                  have FX : Hid (Ext w w2) := FX.out.trans x2
                  clear x2 HW
                  have qs0 : w2.cell? ⟨w.heap.size, 0, none⟩ = some (.bool true) := Fs.out.c 0 rfl
                  go_upto_region 7 with fail
                  clear qs0
                  have q0 : w2.cell? ⟨w.heap.size, 0, none⟩ = some (.bool true) := Fs.out.c 0 rfl
                  have y0 : w2.frozen? ⟨w.heap.size, 0, none⟩ = false := Fs.out.f 0 rfl
                  go_upto_region 8 with fail
                  clear q0 y0
                  have Ft : Hid (HV (w2.setCell ⟨w.heap.size, 0, none⟩ (.bool false)) (w.heap.size + 1) [.bool false, .int .i64 0, .int .i64 0]) := (Ft.out.far (by omega))
                  have Fs : Hid (HV (w2.setCell ⟨w.heap.size, 0, none⟩ (.bool false)) w.heap.size [.bool false, .int .i64 l, .int .i64 c]) := (Fs.out.set 0 (.bool false))
                  have FX : Hid (Ext w (w2.setCell ⟨w.heap.size, 0, none⟩ (.bool false))) := (FX.out.set (p := ⟨w.heap.size, 0, none⟩) Ls.out (.bool false))
                  generalize (w2.setCell ⟨w.heap.size, 0, none⟩ (.bool false)) = wx1 at *
                  have qs0 : wx1.cell? ⟨w.heap.size, 0, none⟩ = some (.bool false) := Fs.out.c 0 rfl
                  have qs1 : wx1.cell? ⟨w.heap.size, 1, none⟩ = some (.int .i64 l) := Fs.out.c 1 rfl
                  have qs2 : wx1.cell? ⟨w.heap.size, 2, none⟩ = some (.int .i64 c) := Fs.out.c 2 rfl
                  go_upto_region 10 with (first | (go_at_call 19; refine (HQ.out _).mono ?_; rintro e w3 ⟨rfl, x3⟩))
                  have Fs : Hid (HV w3 w.heap.size [.bool false, .int .i64 l, .int .i64 c]) := Fs.out.ext x3
                  have Ft : Hid (HV w3 (w.heap.size + 1) [.bool false, .int .i64 0, .int .i64 0]) := Ft.out.ext x3
                  have FX : Hid (Ext w w3) := FX.out.trans x3
                  clear qs0 qs1 qs2 x3 HQ
                  have qs0 : w3.cell? ⟨w.heap.size, 0, none⟩ = some (.bool false) := Fs.out.c 0 rfl
                  have qs1 : w3.cell? ⟨w.heap.size, 1, none⟩ = some (.int .i64 l) := Fs.out.c 1 rfl
                  have qs2 : w3.cell? ⟨w.heap.size, 2, none⟩ = some (.int .i64 c) := Fs.out.c 2 rfl
                  have o0 : w3.cell? ⟨(w.heap.size + 1), 0, none⟩ = some (.bool false) := Ft.out.c 0 rfl
                  have z0 : w3.frozen? ⟨(w.heap.size + 1), 0, none⟩ = false := Ft.out.f 0 rfl
                  have o1 : w3.cell? ⟨(w.heap.size + 1), 1, none⟩ = some (.int .i64 0) := Ft.out.c 1 rfl
                  have z1 : w3.frozen? ⟨(w.heap.size + 1), 1, none⟩ = false := Ft.out.f 1 rfl
                  have o2 : w3.cell? ⟨(w.heap.size + 1), 2, none⟩ = some (.int .i64 0) := Ft.out.c 2 rfl
                  have z2 : w3.frozen? ⟨(w.heap.size + 1), 2, none⟩ = false := Ft.out.f 2 rfl
                  go_wp2_with fail
                  refine bodyPost_ret (v := .tuple #[.agg #[.bool false, .int .i64 l, .int .i64 c], .bool false, .int .i64 0]) (by simp [results, Try.results10, go_sem, *]) rfl ⟨rfl, ?_⟩
                  exact (Ext.set (Ext.set (Ext.set FX.out Lt.out _) Lt.out _) Lt.out _)
                · rw [if_pos (HO.out.1 b3)]
                  rw [b3] at HQ
                  clear b3 HO
                  by_cases b4 : c = 1099511627776
                  · rw [if_pos b4]
                    have HK : Hid (∀ w, Calls Try.prog 20 #[.agg #[.bool false, .int .i64 l, .int .i64 c], .int .i64 n] w fun e w' => e = .returned (.tuple #[.agg #[.bool false, .int .i64 0, .int .i64 0], .bool false, .int .i64 4]) ∧ Ext w w') := by
                      intro w
                      rw [b4]
                      exact counted_full false l n w
                    clear b4 ew
                    go_enter Try.func10, Try.ntmps10
                    go_upto_region 1 with fail
                    generalize ((w.alloc (.cells #[.bool true, .int .i64 l, .int .i64 c] 24)).alloc (.cells #[.bool false, .int .i64 0, .int .i64 0] 24)) = wa at *
                    have qs0 : wa.cell? ⟨w.heap.size, 0, none⟩ = some (.bool true) := Fs.out.c 0 rfl
                    have qs1 : wa.cell? ⟨w.heap.size, 1, none⟩ = some (.int .i64 l) := Fs.out.c 1 rfl
                    have qs2 : wa.cell? ⟨w.heap.size, 2, none⟩ = some (.int .i64 c) := Fs.out.c 2 rfl
                    go_upto_region 3 with (first | (go_at_call 15; refine (HI.out _).mono ?_; rintro e w1 ⟨rfl, x1⟩; have ks1 : w1.cell? ⟨w.heap.size, 1, none⟩ = some (.int .i64 l) := (Fs.out.ext x1).c 1 rfl) | (go_at_call 16; refine (HM.out _).mono ?_; rintro e wx ⟨rfl, hwx⟩; have hwy := hwx.symm; clear hwx; subst hwy) | (go_at_call 17; refine (HT.out _).mono ?_; rintro e wx ⟨rfl, hwx⟩; have hwy := hwx.symm; clear hwx; subst hwy))
                    have Fs : Hid (HV w1 w.heap.size [.bool true, .int .i64 l, .int .i64 c]) := Fs.out.ext x1
                    have Ft : Hid (HV w1 (w.heap.size + 1) [.bool false, .int .i64 0, .int .i64 0]) := Ft.out.ext x1
                    have FX : Hid (Ext w w1) := FX.out.trans x1
                    clear qs0 qs1 qs2 x1 HI HM HT ks1
                    go_upto_region 4 with (first | (go_at_call 18; refine (HW.out _).mono ?_; rintro e w2 ⟨rfl, x2⟩))
                    have Fs : Hid (HV w2 w.heap.size [.bool true, .int .i64 l, .int .i64 c]) := Fs.out.ext x2
                    have Ft : Hid (HV w2 (w.heap.size + 1) [.bool false, .int .i64 0, .int .i64 0]) := Ft.out.ext x2
                    have FX : Hid (Ext w w2) := FX.out.trans x2
                    clear x2 HW
                    have qs0 : w2.cell? ⟨w.heap.size, 0, none⟩ = some (.bool true) := Fs.out.c 0 rfl
                    go_upto_region 7 with fail
                    clear qs0
                    have q0 : w2.cell? ⟨w.heap.size, 0, none⟩ = some (.bool true) := Fs.out.c 0 rfl
                    have y0 : w2.frozen? ⟨w.heap.size, 0, none⟩ = false := Fs.out.f 0 rfl
                    go_upto_region 8 with fail
                    clear q0 y0
                    have Ft : Hid (HV (w2.setCell ⟨w.heap.size, 0, none⟩ (.bool false)) (w.heap.size + 1) [.bool false, .int .i64 0, .int .i64 0]) := (Ft.out.far (by omega))
                    have Fs : Hid (HV (w2.setCell ⟨w.heap.size, 0, none⟩ (.bool false)) w.heap.size [.bool false, .int .i64 l, .int .i64 c]) := (Fs.out.set 0 (.bool false))
                    have FX : Hid (Ext w (w2.setCell ⟨w.heap.size, 0, none⟩ (.bool false))) := (FX.out.set (p := ⟨w.heap.size, 0, none⟩) Ls.out (.bool false))
                    generalize (w2.setCell ⟨w.heap.size, 0, none⟩ (.bool false)) = wx1 at *
                    have qs0 : wx1.cell? ⟨w.heap.size, 0, none⟩ = some (.bool false) := Fs.out.c 0 rfl
                    have qs1 : wx1.cell? ⟨w.heap.size, 1, none⟩ = some (.int .i64 l) := Fs.out.c 1 rfl
                    have qs2 : wx1.cell? ⟨w.heap.size, 2, none⟩ = some (.int .i64 c) := Fs.out.c 2 rfl
                    go_upto_region 9 with (first | (go_at_call 19; refine (HQ.out _).mono ?_; rintro e w3 ⟨rfl, x3⟩))
                    have Fs : Hid (HV w3 w.heap.size [.bool false, .int .i64 l, .int .i64 c]) := Fs.out.ext x3
                    have Ft : Hid (HV w3 (w.heap.size + 1) [.bool false, .int .i64 0, .int .i64 0]) := Ft.out.ext x3
                    have FX : Hid (Ext w w3) := FX.out.trans x3
                    clear qs0 qs1 qs2 x3 HQ
                    have qs0 : w3.cell? ⟨w.heap.size, 0, none⟩ = some (.bool false) := Fs.out.c 0 rfl
                    have qs1 : w3.cell? ⟨w.heap.size, 1, none⟩ = some (.int .i64 l) := Fs.out.c 1 rfl
                    have qs2 : w3.cell? ⟨w.heap.size, 2, none⟩ = some (.int .i64 c) := Fs.out.c 2 rfl
                    go_wp2_with fail
                    refine (HK.out _).mono ?_
                    rintro e w4 ⟨rfl, x4⟩
                    have Fs : Hid (HV w4 w.heap.size [.bool false, .int .i64 l, .int .i64 c]) := Fs.out.ext x4
                    have Ft : Hid (HV w4 (w.heap.size + 1) [.bool false, .int .i64 0, .int .i64 0]) := Ft.out.ext x4
                    have FX : Hid (Ext w w4) := FX.out.trans x4
                    clear qs0 qs1 qs2 x4 HK
                    have o0 : w4.cell? ⟨(w.heap.size + 1), 0, none⟩ = some (.bool false) := Ft.out.c 0 rfl
                    have z0 : w4.frozen? ⟨(w.heap.size + 1), 0, none⟩ = false := Ft.out.f 0 rfl
                    have o1 : w4.cell? ⟨(w.heap.size + 1), 1, none⟩ = some (.int .i64 0) := Ft.out.c 1 rfl
                    have z1 : w4.frozen? ⟨(w.heap.size + 1), 1, none⟩ = false := Ft.out.f 1 rfl
                    have o2 : w4.cell? ⟨(w.heap.size + 1), 2, none⟩ = some (.int .i64 0) := Ft.out.c 2 rfl
                    have z2 : w4.frozen? ⟨(w.heap.size + 1), 2, none⟩ = false := Ft.out.f 2 rfl
                    go_wp2_with fail
                    refine bodyPost_ret (v := .tuple #[.agg #[.bool false, .int .i64 0, .int .i64 0], .bool false, .int .i64 4]) (by simp [results, Try.results10, go_sem, *]) rfl ⟨rfl, ?_⟩
                    exact (Ext.set (Ext.set (Ext.set FX.out Lt.out _) Lt.out _) Lt.out _)
                  · rw [if_neg b4]
                    have HK : Hid (∀ w, Calls Try.prog 20 #[.agg #[.bool false, .int .i64 l, .int .i64 c], .int .i64 n] w fun e w' => e = .returned (.tuple #[.agg #[.bool false, .int .i64 n, .int .i64 (c + 1)], .bool true, .int .i64 0]) ∧ Ext w w') := fun w => counted_more false l c n _ w b4 ew.out
                    clear b4 ew
                    go_enter Try.func10, Try.ntmps10
                    go_upto_region 1 with fail
                    generalize ((w.alloc (.cells #[.bool true, .int .i64 l, .int .i64 c] 24)).alloc (.cells #[.bool false, .int .i64 0, .int .i64 0] 24)) = wa at *
                    have qs0 : wa.cell? ⟨w.heap.size, 0, none⟩ = some (.bool true) := Fs.out.c 0 rfl
                    have qs1 : wa.cell? ⟨w.heap.size, 1, none⟩ = some (.int .i64 l) := Fs.out.c 1 rfl
                    have qs2 : wa.cell? ⟨w.heap.size, 2, none⟩ = some (.int .i64 c) := Fs.out.c 2 rfl
                    go_upto_region 3 with (first | (go_at_call 15; refine (HI.out _).mono ?_; rintro e w1 ⟨rfl, x1⟩; have ks1 : w1.cell? ⟨w.heap.size, 1, none⟩ = some (.int .i64 l) := (Fs.out.ext x1).c 1 rfl) | (go_at_call 16; refine (HM.out _).mono ?_; rintro e wx ⟨rfl, hwx⟩; have hwy := hwx.symm; clear hwx; subst hwy) | (go_at_call 17; refine (HT.out _).mono ?_; rintro e wx ⟨rfl, hwx⟩; have hwy := hwx.symm; clear hwx; subst hwy))
                    have Fs : Hid (HV w1 w.heap.size [.bool true, .int .i64 l, .int .i64 c]) := Fs.out.ext x1
                    have Ft : Hid (HV w1 (w.heap.size + 1) [.bool false, .int .i64 0, .int .i64 0]) := Ft.out.ext x1
                    have FX : Hid (Ext w w1) := FX.out.trans x1
                    clear qs0 qs1 qs2 x1 HI HM HT ks1
                    go_upto_region 4 with (first | (go_at_call 18; refine (HW.out _).mono ?_; rintro e w2 ⟨rfl, x2⟩))
                    have Fs : Hid (HV w2 w.heap.size [.bool true, .int .i64 l, .int .i64 c]) := Fs.out.ext x2
                    have Ft : Hid (HV w2 (w.heap.size + 1) [.bool false, .int .i64 0, .int .i64 0]) := Ft.out.ext x2
                    have FX : Hid (Ext w w2) := FX.out.trans x2
                    clear x2 HW
                    have qs0 : w2.cell? ⟨w.heap.size, 0, none⟩ = some (.bool true) := Fs.out.c 0 rfl
                    go_upto_region 7 with fail
                    clear qs0
                    have q0 : w2.cell? ⟨w.heap.size, 0, none⟩ = some (.bool true) := Fs.out.c 0 rfl
                    have y0 : w2.frozen? ⟨w.heap.size, 0, none⟩ = false := Fs.out.f 0 rfl
                    go_upto_region 8 with fail
                    clear q0 y0
                    have Ft : Hid (HV (w2.setCell ⟨w.heap.size, 0, none⟩ (.bool false)) (w.heap.size + 1) [.bool false, .int .i64 0, .int .i64 0]) := (Ft.out.far (by omega))
                    have Fs : Hid (HV (w2.setCell ⟨w.heap.size, 0, none⟩ (.bool false)) w.heap.size [.bool false, .int .i64 l, .int .i64 c]) := (Fs.out.set 0 (.bool false))
                    have FX : Hid (Ext w (w2.setCell ⟨w.heap.size, 0, none⟩ (.bool false))) := (FX.out.set (p := ⟨w.heap.size, 0, none⟩) Ls.out (.bool false))
                    generalize (w2.setCell ⟨w.heap.size, 0, none⟩ (.bool false)) = wx1 at *
                    have qs0 : wx1.cell? ⟨w.heap.size, 0, none⟩ = some (.bool false) := Fs.out.c 0 rfl
                    have qs1 : wx1.cell? ⟨w.heap.size, 1, none⟩ = some (.int .i64 l) := Fs.out.c 1 rfl
                    have qs2 : wx1.cell? ⟨w.heap.size, 2, none⟩ = some (.int .i64 c) := Fs.out.c 2 rfl
                    go_upto_region 9 with (first | (go_at_call 19; refine (HQ.out _).mono ?_; rintro e w3 ⟨rfl, x3⟩))
                    have Fs : Hid (HV w3 w.heap.size [.bool false, .int .i64 l, .int .i64 c]) := Fs.out.ext x3
                    have Ft : Hid (HV w3 (w.heap.size + 1) [.bool false, .int .i64 0, .int .i64 0]) := Ft.out.ext x3
                    have FX : Hid (Ext w w3) := FX.out.trans x3
                    clear qs0 qs1 qs2 x3 HQ
                    have qs0 : w3.cell? ⟨w.heap.size, 0, none⟩ = some (.bool false) := Fs.out.c 0 rfl
                    have qs1 : w3.cell? ⟨w.heap.size, 1, none⟩ = some (.int .i64 l) := Fs.out.c 1 rfl
                    have qs2 : w3.cell? ⟨w.heap.size, 2, none⟩ = some (.int .i64 c) := Fs.out.c 2 rfl
                    go_wp2_with fail
                    refine (HK.out _).mono ?_
                    rintro e w4 ⟨rfl, x4⟩
                    have Fs : Hid (HV w4 w.heap.size [.bool false, .int .i64 l, .int .i64 c]) := Fs.out.ext x4
                    have Ft : Hid (HV w4 (w.heap.size + 1) [.bool false, .int .i64 0, .int .i64 0]) := Ft.out.ext x4
                    have FX : Hid (Ext w w4) := FX.out.trans x4
                    clear qs0 qs1 qs2 x4 HK
                    have o0 : w4.cell? ⟨(w.heap.size + 1), 0, none⟩ = some (.bool false) := Ft.out.c 0 rfl
                    have z0 : w4.frozen? ⟨(w.heap.size + 1), 0, none⟩ = false := Ft.out.f 0 rfl
                    have o1 : w4.cell? ⟨(w.heap.size + 1), 1, none⟩ = some (.int .i64 0) := Ft.out.c 1 rfl
                    have z1 : w4.frozen? ⟨(w.heap.size + 1), 1, none⟩ = false := Ft.out.f 1 rfl
                    have o2 : w4.cell? ⟨(w.heap.size + 1), 2, none⟩ = some (.int .i64 0) := Ft.out.c 2 rfl
                    have z2 : w4.frozen? ⟨(w.heap.size + 1), 2, none⟩ = false := Ft.out.f 2 rfl
                    go_wp2_with fail
                    refine bodyPost_ret (v := .tuple #[.agg #[.bool false, .int .i64 n, .int .i64 (c + 1)], .bool true, .int .i64 0]) (by simp [results, Try.results10, go_sem, *]) rfl ⟨rfl, ?_⟩
                    exact (Ext.set (Ext.set (Ext.set FX.out Lt.out _) Lt.out _) Lt.out _)
            · rw [if_neg (fun h => b2 h.1)]
              have er : whr m 9193735 11032481 = 1 := by unfold whr; rw [if_neg b2, if_neg b1]
              rw [er] at HW
              clear er b1 b2 HO ew
              go_enter Try.func10, Try.ntmps10
              go_upto_region 1 with fail
              generalize ((w.alloc (.cells #[.bool u, .int .i64 l, .int .i64 c] 24)).alloc (.cells #[.bool false, .int .i64 0, .int .i64 0] 24)) = wa at *
              have qs0 : wa.cell? ⟨w.heap.size, 0, none⟩ = some (.bool u) := Fs.out.c 0 rfl
              have qs1 : wa.cell? ⟨w.heap.size, 1, none⟩ = some (.int .i64 l) := Fs.out.c 1 rfl
              have qs2 : wa.cell? ⟨w.heap.size, 2, none⟩ = some (.int .i64 c) := Fs.out.c 2 rfl
              go_upto_region 3 with (first | (go_at_call 15; refine (HI.out _).mono ?_; rintro e w1 ⟨rfl, x1⟩; have ks1 : w1.cell? ⟨w.heap.size, 1, none⟩ = some (.int .i64 l) := (Fs.out.ext x1).c 1 rfl) | (go_at_call 16; refine (HM.out _).mono ?_; rintro e wx ⟨rfl, hwx⟩; have hwy := hwx.symm; clear hwx; subst hwy) | (go_at_call 17; refine (HT.out _).mono ?_; rintro e wx ⟨rfl, hwx⟩; have hwy := hwx.symm; clear hwx; subst hwy))
              have Fs : Hid (HV w1 w.heap.size [.bool u, .int .i64 l, .int .i64 c]) := Fs.out.ext x1
              have Ft : Hid (HV w1 (w.heap.size + 1) [.bool false, .int .i64 0, .int .i64 0]) := Ft.out.ext x1
              have FX : Hid (Ext w w1) := FX.out.trans x1
              clear qs0 qs1 qs2 x1 HI HM HT
              clear ks1
              go_upto_region 4 with (first | (go_at_call 18; refine (HW.out _).mono ?_; rintro e w2 ⟨rfl, x2⟩))
              have Fs : Hid (HV w2 w.heap.size [.bool u, .int .i64 l, .int .i64 c]) := Fs.out.ext x2
              have Ft : Hid (HV w2 (w.heap.size + 1) [.bool false, .int .i64 0, .int .i64 0]) := Ft.out.ext x2
              have FX : Hid (Ext w w2) := FX.out.trans x2
              clear x2 HW
              have qs0 : w2.cell? ⟨w.heap.size, 0, none⟩ = some (.bool u) := Fs.out.c 0 rfl
              have qs1 : w2.cell? ⟨w.heap.size, 1, none⟩ = some (.int .i64 l) := Fs.out.c 1 rfl
              have qs2 : w2.cell? ⟨w.heap.size, 2, none⟩ = some (.int .i64 c) := Fs.out.c 2 rfl
              have o0 : w2.cell? ⟨(w.heap.size + 1), 0, none⟩ = some (.bool false) := Ft.out.c 0 rfl
              have z0 : w2.frozen? ⟨(w.heap.size + 1), 0, none⟩ = false := Ft.out.f 0 rfl
              have o1 : w2.cell? ⟨(w.heap.size + 1), 1, none⟩ = some (.int .i64 0) := Ft.out.c 1 rfl
              have z1 : w2.frozen? ⟨(w.heap.size + 1), 1, none⟩ = false := Ft.out.f 1 rfl
              have o2 : w2.cell? ⟨(w.heap.size + 1), 2, none⟩ = some (.int .i64 0) := Ft.out.c 2 rfl
              have z2 : w2.frozen? ⟨(w.heap.size + 1), 2, none⟩ = false := Ft.out.f 2 rfl
              go_wp2_with fail
              refine bodyPost_ret (v := .tuple #[.agg #[.bool u, .int .i64 l, .int .i64 c], .bool false, .int .i64 0]) (by simp [results, Try.results10, go_sem, *]) rfl ⟨rfl, ?_⟩
              exact (Ext.set (Ext.set (Ext.set FX.out Lt.out _) Lt.out _) Lt.out _)
end Go.Proofs.Ytfeoiolcdiddiaa
