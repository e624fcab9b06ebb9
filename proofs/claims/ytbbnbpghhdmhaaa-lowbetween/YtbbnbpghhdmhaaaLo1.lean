/- low: Take. -/
import Derived.Test.YtbbnbpghhdmhaaaLo0
import Derived.Test.YtbbnbpghhdmhaaaV6d
namespace Go.Proofs.Ytbbnbpghhdmhaaa
open Go.RowKit Go.Shelf
/-- what Take tells -/
def takeO (on : Bool) (y0 y1 y2 s v0 v1 v2 : Int) : Value :=
  if okSh s && ok3 y0 y1 y2 && ok3 v0 v1 v2 then
    if on then .tuple #[.agg #[.bool true, .int .i64 (lw s y0 v0), .int .i64 (lw s y1 v1), .int .i64 (lw s y2 v2)], .int .i64 0] else .tuple #[.agg #[.bool true, .int .i64 v0, .int .i64 v1, .int .i64 v2], .int .i64 0]
  else .tuple #[.agg #[.bool false, .int .i64 0, .int .i64 0, .int .i64 0], .int .i64 1]
set_option maxRecDepth 20000 in
set_option maxHeartbeats 16000000 in
theorem otake_any (on : Bool) (y0 y1 y2 s v0 v1 v2 : Int) (w : World) : Calls Try.prog 8 #[.agg #[.bool on, .int .i64 y0, .int .i64 y1, .int .i64 y2], .int .i64 s, .agg #[.int .i64 v0, .int .i64 v1, .int .i64 v2]] w fun e w' => e = .returned (takeO on y0 y1 y2 s v0 v1 v2) ∧ Ext w w' := by
  have HS : Hid (∀ w, Calls Try.prog 16 #[.int .i64 s] w fun e w' => e = .returned (.bool (okSh s)) ∧ w' = w) := isshift_any s
  have HY : Hid (∀ w, Calls Try.prog 17 #[.agg #[.int .i64 y0, .int .i64 y1, .int .i64 y2]] w fun e w' => e = .returned (.int .i64 (chk3 y0 y1 y2)) ∧ Ext w w') := vCheck_any y0 y1 y2
  have HC : Hid (∀ w, Calls Try.prog 17 #[.agg #[.int .i64 v0, .int .i64 v1, .int .i64 v2]] w fun e w' => e = .returned (.int .i64 (chk3 v0 v1 v2)) ∧ Ext w w') := vCheck_any v0 v1 v2
  have B1 : Hid (HV (((w.alloc (.cells #[.bool on, .int .i64 y0, .int .i64 y1, .int .i64 y2] 26)).alloc (.cells #[.int .i64 v0, .int .i64 v1, .int .i64 v2] 24)).alloc (.cells #[.bool false, .int .i64 0, .int .i64 0, .int .i64 0] 26)) w.heap.size [.bool on, .int .i64 y0, .int .i64 y1, .int .i64 y2]) := ((hv_at rfl).alloc _).alloc _
  have B2 : Hid (HV (((w.alloc (.cells #[.bool on, .int .i64 y0, .int .i64 y1, .int .i64 y2] 26)).alloc (.cells #[.int .i64 v0, .int .i64 v1, .int .i64 v2] 24)).alloc (.cells #[.bool false, .int .i64 0, .int .i64 0, .int .i64 0] 26)) (w.heap.size + 1) [.int .i64 v0, .int .i64 v1, .int .i64 v2]) := (hv_at (by simp)).alloc _
  have B3 : Hid (HV (((w.alloc (.cells #[.bool on, .int .i64 y0, .int .i64 y1, .int .i64 y2] 26)).alloc (.cells #[.int .i64 v0, .int .i64 v1, .int .i64 v2] 24)).alloc (.cells #[.bool false, .int .i64 0, .int .i64 0, .int .i64 0] 26)) (w.heap.size + 2) [.bool false, .int .i64 0, .int .i64 0, .int .i64 0]) := hv_at (by simp)
  have lt2 : Hid (w.heap.size ≤ w.heap.size + 2) := Nat.le_add_right _ _
  have HX : Hid (Ext w (((w.alloc (.cells #[.bool on, .int .i64 y0, .int .i64 y1, .int .i64 y2] 26)).alloc (.cells #[.int .i64 v0, .int .i64 v1, .int .i64 v2] 24)).alloc (.cells #[.bool false, .int .i64 0, .int .i64 0, .int .i64 0] 26))) := (((Ext.refl w).alloc _).alloc _).alloc _
  cases h1 : okSh s
  · have er : takeO on y0 y1 y2 s v0 v1 v2 = .tuple #[.agg #[.bool false, .int .i64 0, .int .i64 0, .int .i64 0], .int .i64 1] := by unfold takeO; rw [h1]; rfl
    rw [er]
    rw [h1] at HS
    clear er h1 HY HC
    go_enter Try.func8, Try.ntmps8
    go_upto_region 1 with fail
    generalize (((w.alloc (.cells #[.bool on, .int .i64 y0, .int .i64 y1, .int .i64 y2] 26)).alloc (.cells #[.int .i64 v0, .int .i64 v1, .int .i64 v2] 24)).alloc (.cells #[.bool false, .int .i64 0, .int .i64 0, .int .i64 0] 26)) = wa at *
    have o0 : wa.cell? ⟨w.heap.size + 2, 0, none⟩ = some (.bool false) := B3.out.c 0 rfl
    have o1 : wa.cell? ⟨w.heap.size + 2, 1, none⟩ = some (.int .i64 0) := B3.out.c 1 rfl
    have o2 : wa.cell? ⟨w.heap.size + 2, 2, none⟩ = some (.int .i64 0) := B3.out.c 2 rfl
    have o3 : wa.cell? ⟨w.heap.size + 2, 3, none⟩ = some (.int .i64 0) := B3.out.c 3 rfl
    have z0 : wa.frozen? ⟨w.heap.size + 2, 0, none⟩ = false := B3.out.f 0 rfl
    have z1 : wa.frozen? ⟨w.heap.size + 2, 1, none⟩ = false := B3.out.f 1 rfl
    have z2 : wa.frozen? ⟨w.heap.size + 2, 2, none⟩ = false := B3.out.f 2 rfl
    have z3 : wa.frozen? ⟨w.heap.size + 2, 3, none⟩ = false := B3.out.f 3 rfl
    go_wp2_with (go_at_call 16; refine (HS.out _).mono ?_; rintro e wx ⟨rfl, hwx⟩; have hwy := hwx.symm; clear hwx; subst hwy)
    refine bodyPost_ret (v := .tuple #[.agg #[.bool false, .int .i64 0, .int .i64 0, .int .i64 0], .int .i64 1]) (by simp [results, Try.results8, go_sem, o0, o1, o2, o3]) rfl ⟨rfl, ?_⟩
    exact (Ext.set (Ext.set (Ext.set (Ext.set HX.out lt2.out _) lt2.out _) lt2.out _) lt2.out _)
  · cases h2 : ok3 y0 y1 y2
    · have er : takeO on y0 y1 y2 s v0 v1 v2 = .tuple #[.agg #[.bool false, .int .i64 0, .int .i64 0, .int .i64 0], .int .i64 1] := by unfold takeO; rw [h1, h2]; rfl
      rw [er]
      rw [h1] at HS
      have ed : chk3 y0 y1 y2 = 1 := by unfold chk3; rw [h2]; rfl
      rw [ed] at HY
      clear er ed h1 h2 HC
      go_enter Try.func8, Try.ntmps8
      go_upto_region 1 with fail
      generalize (((w.alloc (.cells #[.bool on, .int .i64 y0, .int .i64 y1, .int .i64 y2] 26)).alloc (.cells #[.int .i64 v0, .int .i64 v1, .int .i64 v2] 24)).alloc (.cells #[.bool false, .int .i64 0, .int .i64 0, .int .i64 0] 26)) = wa at *
      have c1 : wa.cell? ⟨w.heap.size, 1, none⟩ = some (.int .i64 y0) := B1.out.c 1 rfl
      have c2 : wa.cell? ⟨w.heap.size, 2, none⟩ = some (.int .i64 y1) := B1.out.c 2 rfl
      have c3 : wa.cell? ⟨w.heap.size, 3, none⟩ = some (.int .i64 y2) := B1.out.c 3 rfl
      go_upto_region 2 with (first | (go_at_call 16; refine (HS.out _).mono ?_; rintro e wx ⟨rfl, hwx⟩; have hwy := hwx.symm; clear hwx; subst hwy) | (go_at_call 17; refine (HY.out _).mono ?_; rintro e w1 ⟨rfl, x1⟩))
      clear c1 c2 c3
      have B1 : Hid (HV w1 w.heap.size [.bool on, .int .i64 y0, .int .i64 y1, .int .i64 y2]) := B1.out.ext x1
      have B2 : Hid (HV w1 (w.heap.size + 1) [.int .i64 v0, .int .i64 v1, .int .i64 v2]) := B2.out.ext x1
      have B3 : Hid (HV w1 (w.heap.size + 2) [.bool false, .int .i64 0, .int .i64 0, .int .i64 0]) := B3.out.ext x1
      have HX : Hid (Ext w w1) := HX.out.trans x1
      clear x1
      have o0 : w1.cell? ⟨w.heap.size + 2, 0, none⟩ = some (.bool false) := B3.out.c 0 rfl
      have o1 : w1.cell? ⟨w.heap.size + 2, 1, none⟩ = some (.int .i64 0) := B3.out.c 1 rfl
      have o2 : w1.cell? ⟨w.heap.size + 2, 2, none⟩ = some (.int .i64 0) := B3.out.c 2 rfl
      have o3 : w1.cell? ⟨w.heap.size + 2, 3, none⟩ = some (.int .i64 0) := B3.out.c 3 rfl
      have z0 : w1.frozen? ⟨w.heap.size + 2, 0, none⟩ = false := B3.out.f 0 rfl
      have z1 : w1.frozen? ⟨w.heap.size + 2, 1, none⟩ = false := B3.out.f 1 rfl
      have z2 : w1.frozen? ⟨w.heap.size + 2, 2, none⟩ = false := B3.out.f 2 rfl
      have z3 : w1.frozen? ⟨w.heap.size + 2, 3, none⟩ = false := B3.out.f 3 rfl
      go_wp2_with fail
      refine bodyPost_ret (v := .tuple #[.agg #[.bool false, .int .i64 0, .int .i64 0, .int .i64 0], .int .i64 1]) (by simp [results, Try.results8, go_sem, o0, o1, o2, o3]) rfl ⟨rfl, ?_⟩
      exact (Ext.set (Ext.set (Ext.set (Ext.set HX.out lt2.out _) lt2.out _) lt2.out _) lt2.out _)
    · cases h3 : ok3 v0 v1 v2
      · have er : takeO on y0 y1 y2 s v0 v1 v2 = .tuple #[.agg #[.bool false, .int .i64 0, .int .i64 0, .int .i64 0], .int .i64 1] := by unfold takeO; rw [h1, h2, h3]; rfl
        rw [er]
        rw [h1] at HS
        have ec : chk3 y0 y1 y2 = 0 := by unfold chk3; rw [h2]; rfl
        have ed : chk3 v0 v1 v2 = 1 := by unfold chk3; rw [h3]; rfl
        rw [ec] at HY
        rw [ed] at HC
        clear er ec ed h1 h2 h3
        go_enter Try.func8, Try.ntmps8
        go_upto_region 1 with fail
        generalize (((w.alloc (.cells #[.bool on, .int .i64 y0, .int .i64 y1, .int .i64 y2] 26)).alloc (.cells #[.int .i64 v0, .int .i64 v1, .int .i64 v2] 24)).alloc (.cells #[.bool false, .int .i64 0, .int .i64 0, .int .i64 0] 26)) = wa at *
        have c1 : wa.cell? ⟨w.heap.size, 1, none⟩ = some (.int .i64 y0) := B1.out.c 1 rfl
        have c2 : wa.cell? ⟨w.heap.size, 2, none⟩ = some (.int .i64 y1) := B1.out.c 2 rfl
        have c3 : wa.cell? ⟨w.heap.size, 3, none⟩ = some (.int .i64 y2) := B1.out.c 3 rfl
        go_wp2_with (go_at_call 16; refine (HS.out _).mono ?_; rintro e wx ⟨rfl, hwx⟩; have hwy := hwx.symm; clear hwx; subst hwy)
        refine (HY.out _).mono ?_
        rintro e w1 ⟨rfl, x1⟩
        clear c1 c2 c3
        have B1 : Hid (HV w1 w.heap.size [.bool on, .int .i64 y0, .int .i64 y1, .int .i64 y2]) := B1.out.ext x1
        have B2 : Hid (HV w1 (w.heap.size + 1) [.int .i64 v0, .int .i64 v1, .int .i64 v2]) := B2.out.ext x1
        have B3 : Hid (HV w1 (w.heap.size + 2) [.bool false, .int .i64 0, .int .i64 0, .int .i64 0]) := B3.out.ext x1
        have HX : Hid (Ext w w1) := HX.out.trans x1
        clear x1
        have d0 : w1.cell? ⟨w.heap.size + 1, 0, none⟩ = some (.int .i64 v0) := B2.out.c 0 rfl
        have d1 : w1.cell? ⟨w.heap.size + 1, 1, none⟩ = some (.int .i64 v1) := B2.out.c 1 rfl
        have d2 : w1.cell? ⟨w.heap.size + 1, 2, none⟩ = some (.int .i64 v2) := B2.out.c 2 rfl
        go_upto_region 2 with (go_at_call 17; refine (HC.out _).mono ?_; rintro e w2 ⟨rfl, x2⟩)
        clear d0 d1 d2 HS HY HC
        have B1 : Hid (HV w2 w.heap.size [.bool on, .int .i64 y0, .int .i64 y1, .int .i64 y2]) := B1.out.ext x2
        have B2 : Hid (HV w2 (w.heap.size + 1) [.int .i64 v0, .int .i64 v1, .int .i64 v2]) := B2.out.ext x2
        have B3 : Hid (HV w2 (w.heap.size + 2) [.bool false, .int .i64 0, .int .i64 0, .int .i64 0]) := B3.out.ext x2
        have HX : Hid (Ext w w2) := HX.out.trans x2
        clear x2
        have o0 : w2.cell? ⟨w.heap.size + 2, 0, none⟩ = some (.bool false) := B3.out.c 0 rfl
        have o1 : w2.cell? ⟨w.heap.size + 2, 1, none⟩ = some (.int .i64 0) := B3.out.c 1 rfl
        have o2 : w2.cell? ⟨w.heap.size + 2, 2, none⟩ = some (.int .i64 0) := B3.out.c 2 rfl
        have o3 : w2.cell? ⟨w.heap.size + 2, 3, none⟩ = some (.int .i64 0) := B3.out.c 3 rfl
        have z0 : w2.frozen? ⟨w.heap.size + 2, 0, none⟩ = false := B3.out.f 0 rfl
        have z1 : w2.frozen? ⟨w.heap.size + 2, 1, none⟩ = false := B3.out.f 1 rfl
        have z2 : w2.frozen? ⟨w.heap.size + 2, 2, none⟩ = false := B3.out.f 2 rfl
        have z3 : w2.frozen? ⟨w.heap.size + 2, 3, none⟩ = false := B3.out.f 3 rfl
        go_wp2_with fail
        refine bodyPost_ret (v := .tuple #[.agg #[.bool false, .int .i64 0, .int .i64 0, .int .i64 0], .int .i64 1]) (by simp [results, Try.results8, go_sem, o0, o1, o2, o3]) rfl ⟨rfl, ?_⟩
        exact (Ext.set (Ext.set (Ext.set (Ext.set HX.out lt2.out _) lt2.out _) lt2.out _) lt2.out _)
      · cases on
        · have er : takeO false y0 y1 y2 s v0 v1 v2 = .tuple #[.agg #[.bool true, .int .i64 v0, .int .i64 v1, .int .i64 v2], .int .i64 0] := by unfold takeO; rw [h1, h2, h3]; rfl
          rw [er]
          rw [h1] at HS
          have ec : chk3 y0 y1 y2 = 0 := by unfold chk3; rw [h2]; rfl
          have ed : chk3 v0 v1 v2 = 0 := by unfold chk3; rw [h3]; rfl
          rw [ec] at HY
          rw [ed] at HC
          clear er ec ed h1 h2 h3
          go_enter Try.func8, Try.ntmps8
          go_upto_region 1 with fail
          generalize (((w.alloc (.cells #[.bool false, .int .i64 y0, .int .i64 y1, .int .i64 y2] 26)).alloc (.cells #[.int .i64 v0, .int .i64 v1, .int .i64 v2] 24)).alloc (.cells #[.bool false, .int .i64 0, .int .i64 0, .int .i64 0] 26)) = wa at *
          have c1 : wa.cell? ⟨w.heap.size, 1, none⟩ = some (.int .i64 y0) := B1.out.c 1 rfl
          have c2 : wa.cell? ⟨w.heap.size, 2, none⟩ = some (.int .i64 y1) := B1.out.c 2 rfl
          have c3 : wa.cell? ⟨w.heap.size, 3, none⟩ = some (.int .i64 y2) := B1.out.c 3 rfl
          go_wp2_with (go_at_call 16; refine (HS.out _).mono ?_; rintro e wx ⟨rfl, hwx⟩; have hwy := hwx.symm; clear hwx; subst hwy)
          refine (HY.out _).mono ?_
          rintro e w1 ⟨rfl, x1⟩
          clear c1 c2 c3
          have B1 : Hid (HV w1 w.heap.size [.bool false, .int .i64 y0, .int .i64 y1, .int .i64 y2]) := B1.out.ext x1
          have B2 : Hid (HV w1 (w.heap.size + 1) [.int .i64 v0, .int .i64 v1, .int .i64 v2]) := B2.out.ext x1
          have B3 : Hid (HV w1 (w.heap.size + 2) [.bool false, .int .i64 0, .int .i64 0, .int .i64 0]) := B3.out.ext x1
          have HX : Hid (Ext w w1) := HX.out.trans x1
          clear x1
          have d0 : w1.cell? ⟨w.heap.size + 1, 0, none⟩ = some (.int .i64 v0) := B2.out.c 0 rfl
          have d1 : w1.cell? ⟨w.heap.size + 1, 1, none⟩ = some (.int .i64 v1) := B2.out.c 1 rfl
          have d2 : w1.cell? ⟨w.heap.size + 1, 2, none⟩ = some (.int .i64 v2) := B2.out.c 2 rfl
          go_upto_region 3 with (go_at_call 17; refine (HC.out _).mono ?_; rintro e w2 ⟨rfl, x2⟩)
          clear d0 d1 d2 HS HY HC
          have B1 : Hid (HV w2 w.heap.size [.bool false, .int .i64 y0, .int .i64 y1, .int .i64 y2]) := B1.out.ext x2
          have B2 : Hid (HV w2 (w.heap.size + 1) [.int .i64 v0, .int .i64 v1, .int .i64 v2]) := B2.out.ext x2
          have B3 : Hid (HV w2 (w.heap.size + 2) [.bool false, .int .i64 0, .int .i64 0, .int .i64 0]) := B3.out.ext x2
          have HX : Hid (Ext w w2) := HX.out.trans x2
          clear x2
          have c0 : w2.cell? ⟨w.heap.size, 0, none⟩ = some (.bool false) := B1.out.c 0 rfl
          have d0 : w2.cell? ⟨w.heap.size + 1, 0, none⟩ = some (.int .i64 v0) := B2.out.c 0 rfl
          have d1 : w2.cell? ⟨w.heap.size + 1, 1, none⟩ = some (.int .i64 v1) := B2.out.c 1 rfl
          have d2 : w2.cell? ⟨w.heap.size + 1, 2, none⟩ = some (.int .i64 v2) := B2.out.c 2 rfl
          have o0 : w2.cell? ⟨w.heap.size + 2, 0, none⟩ = some (.bool false) := B3.out.c 0 rfl
          have o1 : w2.cell? ⟨w.heap.size + 2, 1, none⟩ = some (.int .i64 0) := B3.out.c 1 rfl
          have o2 : w2.cell? ⟨w.heap.size + 2, 2, none⟩ = some (.int .i64 0) := B3.out.c 2 rfl
          have o3 : w2.cell? ⟨w.heap.size + 2, 3, none⟩ = some (.int .i64 0) := B3.out.c 3 rfl
          have z0 : w2.frozen? ⟨w.heap.size + 2, 0, none⟩ = false := B3.out.f 0 rfl
          have z1 : w2.frozen? ⟨w.heap.size + 2, 1, none⟩ = false := B3.out.f 1 rfl
          have z2 : w2.frozen? ⟨w.heap.size + 2, 2, none⟩ = false := B3.out.f 2 rfl
          have z3 : w2.frozen? ⟨w.heap.size + 2, 3, none⟩ = false := B3.out.f 3 rfl
          go_wp2_with fail
          refine bodyPost_ret (v := .tuple #[.agg #[.bool true, .int .i64 v0, .int .i64 v1, .int .i64 v2], .int .i64 0]) (by simp [results, Try.results8, go_sem, o0, o1, o2, o3]) rfl ⟨rfl, ?_⟩
          exact (Ext.set (Ext.set (Ext.set (Ext.set HX.out lt2.out _) lt2.out _) lt2.out _) lt2.out _)
        · obtain ⟨k0, k1, k2⟩ := ok3_parts h2
          obtain ⟨l0, l1, l2⟩ := ok3_parts h3
          have H0 : Hid (∀ g w, HV w g [.int .i64 (pw s)] → Calls Try.prog 32 #[.int .i64 y0, .int .i64 v0, .pointer (some ⟨g, 0, none⟩)] w fun e w' => e = .returned (.tuple #[.int .i64 (lw s y0 v0), .int .i64 0]) ∧ Ext w w') := fun g w hg => meanby1_any s y0 v0 g w h1 k0 l0 hg
          have H1 : Hid (∀ g w, HV w g [.int .i64 (pw s)] → Calls Try.prog 32 #[.int .i64 y1, .int .i64 v1, .pointer (some ⟨g, 0, none⟩)] w fun e w' => e = .returned (.tuple #[.int .i64 (lw s y1 v1), .int .i64 0]) ∧ Ext w w') := fun g w hg => meanby1_any s y1 v1 g w h1 k1 l1 hg
          have H2 : Hid (∀ g w, HV w g [.int .i64 (pw s)] → Calls Try.prog 32 #[.int .i64 y2, .int .i64 v2, .pointer (some ⟨g, 0, none⟩)] w fun e w' => e = .returned (.tuple #[.int .i64 (lw s y2 v2), .int .i64 0]) ∧ Ext w w') := fun g w hg => meanby1_any s y2 v2 g w h1 k2 l2 hg
          have HM : Hid (∀ w, Calls Try.prog 20 #[.int .i64 s] w fun e w' => ∃ g : Nat, e = .returned (.func (.func 32) #[] #[.pointer (some ⟨g, 0, none⟩)]) ∧ HV w' g [.int .i64 (pw s)] ∧ Ext w w') := fun w => (meanby_any s w (okSh_iff.1 h1).1 (okSh_iff.1 h1).2).mono fun e w1 h => ⟨_, h⟩
          have NY : Hid (∀ w, Calls Try.prog 19 #[.agg #[.int .i64 y0, .int .i64 y1, .int .i64 y2]] w fun e w' => e = .returned (.agg #[.int .i64 y0, .int .i64 y1, .int .i64 y2]) ∧ Ext w w') := numbersof_any y0 y1 y2
          have NV : Hid (∀ w, Calls Try.prog 19 #[.agg #[.int .i64 v0, .int .i64 v1, .int .i64 v2]] w fun e w' => e = .returned (.agg #[.int .i64 v0, .int .i64 v1, .int .i64 v2]) ∧ Ext w w') := numbersof_any v0 v1 v2
          have er : takeO true y0 y1 y2 s v0 v1 v2 = .tuple #[.agg #[.bool true, .int .i64 (lw s y0 v0), .int .i64 (lw s y1 v1), .int .i64 (lw s y2 v2)], .int .i64 0] := by unfold takeO; rw [h1, h2, h3]; rfl
          rw [er]
          rw [h1] at HS
          have ec : chk3 y0 y1 y2 = 0 := by unfold chk3; rw [h2]; rfl
          have ed : chk3 v0 v1 v2 = 0 := by unfold chk3; rw [h3]; rfl
          rw [ec] at HY
          rw [ed] at HC
          clear er ec ed h1 h2 h3 k0 k1 k2 l0 l1 l2
          generalize lw s y0 v0 = r0 at *
          generalize lw s y1 v1 = r1 at *
          generalize lw s y2 v2 = r2 at *
          generalize pw s = p at *
          have HT : Hid (∀ g w, HV w g [.int .i64 p] → Calls Try.prog 18 #[.agg #[.int .i64 y0, .int .i64 y1, .int .i64 y2], .agg #[.int .i64 v0, .int .i64 v1, .int .i64 v2], .func (.func 32) #[] #[.pointer (some ⟨g, 0, none⟩)]] w fun e w' => e = .returned (.tuple #[.agg #[.int .i64 r0, .int .i64 r1, .int .i64 r2], .int .i64 0]) ∧ Ext w w') := fun g w hg => lthrough_any _ _ _ _ _ _ _ _ _ g w (fun w' x => H0.out g w' (hg.ext x)) (fun w' x => H1.out g w' (hg.ext x)) (fun w' x => H2.out g w' (hg.ext x))
          clear H0 H1 H2
          go_enter Try.func8, Try.ntmps8
          go_upto_region 1 with fail
          generalize (((w.alloc (.cells #[.bool true, .int .i64 y0, .int .i64 y1, .int .i64 y2] 26)).alloc (.cells #[.int .i64 v0, .int .i64 v1, .int .i64 v2] 24)).alloc (.cells #[.bool false, .int .i64 0, .int .i64 0, .int .i64 0] 26)) = wa at *
          have c1 : wa.cell? ⟨w.heap.size, 1, none⟩ = some (.int .i64 y0) := B1.out.c 1 rfl
          have c2 : wa.cell? ⟨w.heap.size, 2, none⟩ = some (.int .i64 y1) := B1.out.c 2 rfl
          have c3 : wa.cell? ⟨w.heap.size, 3, none⟩ = some (.int .i64 y2) := B1.out.c 3 rfl
          go_wp2_with (go_at_call 16; refine (HS.out _).mono ?_; rintro e wx ⟨rfl, hwx⟩; have hwy := hwx.symm; clear hwx; subst hwy)
          refine (HY.out _).mono ?_
          rintro e w1 ⟨rfl, x1⟩
          clear c1 c2 c3
          have B1 : Hid (HV w1 w.heap.size [.bool true, .int .i64 y0, .int .i64 y1, .int .i64 y2]) := B1.out.ext x1
          have B2 : Hid (HV w1 (w.heap.size + 1) [.int .i64 v0, .int .i64 v1, .int .i64 v2]) := B2.out.ext x1
          have B3 : Hid (HV w1 (w.heap.size + 2) [.bool false, .int .i64 0, .int .i64 0, .int .i64 0]) := B3.out.ext x1
          have HX : Hid (Ext w w1) := HX.out.trans x1
          clear x1
          have d0 : w1.cell? ⟨w.heap.size + 1, 0, none⟩ = some (.int .i64 v0) := B2.out.c 0 rfl
          have d1 : w1.cell? ⟨w.heap.size + 1, 1, none⟩ = some (.int .i64 v1) := B2.out.c 1 rfl
          have d2 : w1.cell? ⟨w.heap.size + 1, 2, none⟩ = some (.int .i64 v2) := B2.out.c 2 rfl
          go_upto_region 3 with (go_at_call 17; refine (HC.out _).mono ?_; rintro e w2 ⟨rfl, x2⟩)
          clear d0 d1 d2 HS HY HC
          have B1 : Hid (HV w2 w.heap.size [.bool true, .int .i64 y0, .int .i64 y1, .int .i64 y2]) := B1.out.ext x2
          have B2 : Hid (HV w2 (w.heap.size + 1) [.int .i64 v0, .int .i64 v1, .int .i64 v2]) := B2.out.ext x2
          have B3 : Hid (HV w2 (w.heap.size + 2) [.bool false, .int .i64 0, .int .i64 0, .int .i64 0]) := B3.out.ext x2
          have HX : Hid (Ext w w2) := HX.out.trans x2
          clear x2
          have e0 : w2.cell? ⟨w.heap.size, 0, none⟩ = some (.bool true) := B1.out.c 0 rfl
          go_upto_region 5 with fail
          clear e0
          go_cut [8, 9] (fun v8 v9 wx => ∃ g : Nat, v8 = .pointer (some ⟨g, 0, none⟩) ∧ v9 = .int .i64 0 ∧ Hid (HV wx g [.int .i64 r0, .int .i64 r1, .int .i64 r2]) ∧ Hid (Ext w2 wx))
          case first =>
            have c1 : w2.cell? ⟨w.heap.size, 1, none⟩ = some (.int .i64 y0) := B1.out.c 1 rfl
            have c2 : w2.cell? ⟨w.heap.size, 2, none⟩ = some (.int .i64 y1) := B1.out.c 2 rfl
            have c3 : w2.cell? ⟨w.heap.size, 3, none⟩ = some (.int .i64 y2) := B1.out.c 3 rfl
            have d0 : w2.cell? ⟨w.heap.size + 1, 0, none⟩ = some (.int .i64 v0) := B2.out.c 0 rfl
            have d1 : w2.cell? ⟨w.heap.size + 1, 1, none⟩ = some (.int .i64 v1) := B2.out.c 1 rfl
            have d2 : w2.cell? ⟨w.heap.size + 1, 2, none⟩ = some (.int .i64 v2) := B2.out.c 2 rfl
            have lt3 : w.heap.size + 2 < w2.heap.size := B3.out.1
            obtain ⟨nea, neb, nec, ned⟩ : w.heap.size ≠ w2.heap.size ∧ w2.heap.size ≠ w.heap.size ∧ w.heap.size + 1 ≠ w2.heap.size ∧ w2.heap.size ≠ w.heap.size + 1 := by omega
            go_region_held3 (fun w' => w'.cell? ⟨w.heap.size, 1, none⟩ = some (.int .i64 y0) ∧ w'.cell? ⟨w.heap.size, 2, none⟩ = some (.int .i64 y1) ∧ w'.cell? ⟨w.heap.size, 3, none⟩ = some (.int .i64 y2) ∧ w'.cell? ⟨w.heap.size + 1, 0, none⟩ = some (.int .i64 v0) ∧ w'.cell? ⟨w.heap.size + 1, 1, none⟩ = some (.int .i64 v1) ∧ w'.cell? ⟨w.heap.size + 1, 2, none⟩ = some (.int .i64 v2)) (first | (go_keep; done) | (refine ⟨?_, ?_, ?_, ?_, ?_, ?_⟩ <;> (rw [World.cell?_setCell_far _ _ _ _ (by dsimp only; omega), World.cell?_setCell_far _ _ _ _ (by dsimp only; omega), World.cell?_setCell_far _ _ _ _ (by dsimp only; omega)]; with_reducible assumption)) | skip) (first | (go_at_call_of 19 ((Value.agg #[Value.int IntKind.i64 y0, Value.int IntKind.i64 y1, Value.int IntKind.i64 y2])); refine (NY.out _).mono ?_; rintro e m1 ⟨rfl, zm1⟩; have Ym1 : Ext w2 m1 := Ext.trans (by repeat (first | with_reducible assumption | with_reducible exact Ext.refl _ | with_reducible refine Ext.drew ?_ | with_reducible refine Ext.drewN ?_ _ | with_reducible refine Ext.alloc ?_ _ | with_reducible refine Ext.set ?_ (by first | exact Nat.le_refl _ | (dsimp only; omega) | (simp; done)) _)) zm1; have cm11 : m1.cell? ⟨w.heap.size, 1, none⟩ = some (.int .i64 y0) := (B1.out.ext Ym1).c 1 rfl; have cm12 : m1.cell? ⟨w.heap.size, 2, none⟩ = some (.int .i64 y1) := (B1.out.ext Ym1).c 2 rfl; have cm13 : m1.cell? ⟨w.heap.size, 3, none⟩ = some (.int .i64 y2) := (B1.out.ext Ym1).c 3 rfl; have dm10 : m1.cell? ⟨w.heap.size + 1, 0, none⟩ = some (.int .i64 v0) := (B2.out.ext Ym1).c 0 rfl; have dm11 : m1.cell? ⟨w.heap.size + 1, 1, none⟩ = some (.int .i64 v1) := (B2.out.ext Ym1).c 1 rfl; have dm12 : m1.cell? ⟨w.heap.size + 1, 2, none⟩ = some (.int .i64 v2) := (B2.out.ext Ym1).c 2 rfl; obtain ⟨nem1a, nem1b, nem1c, nem1d, lem1⟩ : w.heap.size ≠ m1.heap.size ∧ m1.heap.size ≠ w.heap.size ∧ w.heap.size + 1 ≠ m1.heap.size ∧ m1.heap.size ≠ w.heap.size + 1 ∧ w2.heap.size ≤ m1.heap.size := (by have := Ym1.size; omega); first | (have G : Hid (HV m1 w2.heap.size [.int .i64 0, .int .i64 0, .int .i64 0]) := (hv_at (w := w2) (T := 44) rfl).drew.ext zm1; obtain ⟨gm10, gm11, gm12⟩ := G.out.k3; obtain ⟨fm10, fm11, fm12⟩ := G.out.z3) | (have G : Hid (HV m1 w2.heap.size [.int .i64 0, .int .i64 0, .int .i64 0]) := (hv_at (w := w2) (T := 44) rfl).ext zm1; obtain ⟨gm10, gm11, gm12⟩ := G.out.k3; obtain ⟨fm10, fm11, fm12⟩ := G.out.z3) | skip) | (go_at_call_of 19 ((Value.agg #[Value.int IntKind.i64 v0, Value.int IntKind.i64 v1, Value.int IntKind.i64 v2])); refine (NV.out _).mono ?_; rintro e m2 ⟨rfl, zm2⟩; have Ym2 : Ext w2 m2 := Ext.trans (by repeat (first | with_reducible assumption | with_reducible exact Ext.refl _ | with_reducible refine Ext.drew ?_ | with_reducible refine Ext.drewN ?_ _ | with_reducible refine Ext.alloc ?_ _ | with_reducible refine Ext.set ?_ (by first | exact Nat.le_refl _ | (dsimp only; omega) | (simp; done)) _)) zm2; have cm21 : m2.cell? ⟨w.heap.size, 1, none⟩ = some (.int .i64 y0) := (B1.out.ext Ym2).c 1 rfl; have cm22 : m2.cell? ⟨w.heap.size, 2, none⟩ = some (.int .i64 y1) := (B1.out.ext Ym2).c 2 rfl; have cm23 : m2.cell? ⟨w.heap.size, 3, none⟩ = some (.int .i64 y2) := (B1.out.ext Ym2).c 3 rfl; have dm20 : m2.cell? ⟨w.heap.size + 1, 0, none⟩ = some (.int .i64 v0) := (B2.out.ext Ym2).c 0 rfl; have dm21 : m2.cell? ⟨w.heap.size + 1, 1, none⟩ = some (.int .i64 v1) := (B2.out.ext Ym2).c 1 rfl; have dm22 : m2.cell? ⟨w.heap.size + 1, 2, none⟩ = some (.int .i64 v2) := (B2.out.ext Ym2).c 2 rfl; obtain ⟨nem2a, nem2b, nem2c, nem2d, lem2⟩ : w.heap.size ≠ m2.heap.size ∧ m2.heap.size ≠ w.heap.size ∧ w.heap.size + 1 ≠ m2.heap.size ∧ m2.heap.size ≠ w.heap.size + 1 ∧ w2.heap.size ≤ m2.heap.size := (by have := Ym2.size; omega); first | (have G : Hid (HV m2 _ [.int .i64 0, .int .i64 0, .int .i64 0]) := G.out.ext zm2; obtain ⟨gm20, gm21, gm22⟩ := G.out.k3; obtain ⟨fm20, fm21, fm22⟩ := G.out.z3) | (have G : Hid (HV m2 _ [.int .i64 0, .int .i64 0, .int .i64 0]) := G.out.drew.ext zm2; obtain ⟨gm20, gm21, gm22⟩ := G.out.k3; obtain ⟨fm20, fm21, fm22⟩ := G.out.z3) | (have G : Hid (HV m2 m1.heap.size [.int .i64 0, .int .i64 0, .int .i64 0]) := (hv_at (w := m1) (T := 44) rfl).drew.ext zm2; obtain ⟨gm20, gm21, gm22⟩ := G.out.k3; obtain ⟨fm20, fm21, fm22⟩ := G.out.z3) | (have G : Hid (HV m2 m1.heap.size [.int .i64 0, .int .i64 0, .int .i64 0]) := (hv_at (w := m1) (T := 44) rfl).ext zm2; obtain ⟨gm20, gm21, gm22⟩ := G.out.k3; obtain ⟨fm20, fm21, fm22⟩ := G.out.z3) | skip) | (go_at_call 20; refine (HM.out _).mono ?_; rintro e m3 ⟨gm, rfl, hgm, zm3⟩; have Ym3 : Ext w2 m3 := Ext.trans (by repeat (first | with_reducible assumption | with_reducible exact Ext.refl _ | with_reducible refine Ext.drew ?_ | with_reducible refine Ext.drewN ?_ _ | with_reducible refine Ext.alloc ?_ _ | with_reducible refine Ext.set ?_ (by first | exact Nat.le_refl _ | (dsimp only; omega) | (simp; done)) _)) zm3; have cm31 : m3.cell? ⟨w.heap.size, 1, none⟩ = some (.int .i64 y0) := (B1.out.ext Ym3).c 1 rfl; have cm32 : m3.cell? ⟨w.heap.size, 2, none⟩ = some (.int .i64 y1) := (B1.out.ext Ym3).c 2 rfl; have cm33 : m3.cell? ⟨w.heap.size, 3, none⟩ = some (.int .i64 y2) := (B1.out.ext Ym3).c 3 rfl; have dm30 : m3.cell? ⟨w.heap.size + 1, 0, none⟩ = some (.int .i64 v0) := (B2.out.ext Ym3).c 0 rfl; have dm31 : m3.cell? ⟨w.heap.size + 1, 1, none⟩ = some (.int .i64 v1) := (B2.out.ext Ym3).c 1 rfl; have dm32 : m3.cell? ⟨w.heap.size + 1, 2, none⟩ = some (.int .i64 v2) := (B2.out.ext Ym3).c 2 rfl; obtain ⟨nem3a, nem3b, nem3c, nem3d, lem3⟩ : w.heap.size ≠ m3.heap.size ∧ m3.heap.size ≠ w.heap.size ∧ w.heap.size + 1 ≠ m3.heap.size ∧ m3.heap.size ≠ w.heap.size + 1 ∧ w2.heap.size ≤ m3.heap.size := (by have := Ym3.size; omega); first | (have G : Hid (HV m3 _ [.int .i64 0, .int .i64 0, .int .i64 0]) := G.out.ext zm3; obtain ⟨gm30, gm31, gm32⟩ := G.out.k3; obtain ⟨fm30, fm31, fm32⟩ := G.out.z3) | (have G : Hid (HV m3 _ [.int .i64 0, .int .i64 0, .int .i64 0]) := G.out.drew.ext zm3; obtain ⟨gm30, gm31, gm32⟩ := G.out.k3; obtain ⟨fm30, fm31, fm32⟩ := G.out.z3) | (have G : Hid (HV m3 m2.heap.size [.int .i64 0, .int .i64 0, .int .i64 0]) := (hv_at (w := m2) (T := 44) rfl).drew.ext zm3; obtain ⟨gm30, gm31, gm32⟩ := G.out.k3; obtain ⟨fm30, fm31, fm32⟩ := G.out.z3) | (have G : Hid (HV m3 m2.heap.size [.int .i64 0, .int .i64 0, .int .i64 0]) := (hv_at (w := m2) (T := 44) rfl).ext zm3; obtain ⟨gm30, gm31, gm32⟩ := G.out.k3; obtain ⟨fm30, fm31, fm32⟩ := G.out.z3) | skip) | (go_at_call 18; refine (HT.out _ _ (hgm.ext (by repeat (first | with_reducible assumption | with_reducible exact Ext.refl _ | with_reducible refine Ext.drew ?_ | with_reducible refine Ext.drewN ?_ _ | with_reducible refine Ext.alloc ?_ _ | with_reducible refine Ext.set ?_ (by first | exact Nat.le_refl _ | (dsimp only; omega) | (simp; done)) _)))).mono ?_; rintro e m4 ⟨rfl, zm4⟩; have Ym4 : Ext w2 m4 := Ext.trans (by repeat (first | with_reducible assumption | with_reducible exact Ext.refl _ | with_reducible refine Ext.drew ?_ | with_reducible refine Ext.drewN ?_ _ | with_reducible refine Ext.alloc ?_ _ | with_reducible refine Ext.set ?_ (by first | exact Nat.le_refl _ | (dsimp only; omega) | (simp; done)) _)) zm4; have cm41 : m4.cell? ⟨w.heap.size, 1, none⟩ = some (.int .i64 y0) := (B1.out.ext Ym4).c 1 rfl; have cm42 : m4.cell? ⟨w.heap.size, 2, none⟩ = some (.int .i64 y1) := (B1.out.ext Ym4).c 2 rfl; have cm43 : m4.cell? ⟨w.heap.size, 3, none⟩ = some (.int .i64 y2) := (B1.out.ext Ym4).c 3 rfl; have dm40 : m4.cell? ⟨w.heap.size + 1, 0, none⟩ = some (.int .i64 v0) := (B2.out.ext Ym4).c 0 rfl; have dm41 : m4.cell? ⟨w.heap.size + 1, 1, none⟩ = some (.int .i64 v1) := (B2.out.ext Ym4).c 1 rfl; have dm42 : m4.cell? ⟨w.heap.size + 1, 2, none⟩ = some (.int .i64 v2) := (B2.out.ext Ym4).c 2 rfl; obtain ⟨nem4a, nem4b, nem4c, nem4d, lem4⟩ : w.heap.size ≠ m4.heap.size ∧ m4.heap.size ≠ w.heap.size ∧ w.heap.size + 1 ≠ m4.heap.size ∧ m4.heap.size ≠ w.heap.size + 1 ∧ w2.heap.size ≤ m4.heap.size := (by have := Ym4.size; omega); first | (have G : Hid (HV m4 _ [.int .i64 0, .int .i64 0, .int .i64 0]) := G.out.ext zm4; obtain ⟨gm40, gm41, gm42⟩ := G.out.k3; obtain ⟨fm40, fm41, fm42⟩ := G.out.z3) | (have G : Hid (HV m4 _ [.int .i64 0, .int .i64 0, .int .i64 0]) := G.out.drew.ext zm4; obtain ⟨gm40, gm41, gm42⟩ := G.out.k3; obtain ⟨fm40, fm41, fm42⟩ := G.out.z3) | (have G : Hid (HV m4 m3.heap.size [.int .i64 0, .int .i64 0, .int .i64 0]) := (hv_at (w := m3) (T := 44) rfl).drew.ext zm4; obtain ⟨gm40, gm41, gm42⟩ := G.out.k3; obtain ⟨fm40, fm41, fm42⟩ := G.out.z3) | (have G : Hid (HV m4 m3.heap.size [.int .i64 0, .int .i64 0, .int .i64 0]) := (hv_at (w := m3) (T := 44) rfl).ext zm4; obtain ⟨gm40, gm41, gm42⟩ := G.out.k3; obtain ⟨fm40, fm41, fm42⟩ := G.out.z3) | skip))
            all_goals
              go_wp2_with fail
              go_meet
              first | exact ⟨m4.heap.size, rfl, rfl, hv_at rfl, Ym4.alloc _⟩ | exact ⟨w2.heap.size, rfl, rfl, (((G.out.set 0 _).set 1 _).set 2 _), ((Ym4.set (Nat.le_refl _) _).set (Nat.le_refl _) _).set (Nat.le_refl _) _⟩ | exact ⟨m1.heap.size, rfl, rfl, (((G.out.set 0 _).set 1 _).set 2 _), ((Ym4.set lem1 _).set lem1 _).set lem1 _⟩ | exact ⟨m2.heap.size, rfl, rfl, (((G.out.set 0 _).set 1 _).set 2 _), ((Ym4.set lem2 _).set lem2 _).set lem2 _⟩ | exact ⟨m3.heap.size, rfl, rfl, (((G.out.set 0 _).set 1 _).set 2 _), ((Ym4.set lem3 _).set lem3 _).set lem3 _⟩
          case rest =>
            obtain ⟨g, rfl, rfl, G, hx⟩ := hcut
            have hx := hx.out
            have B1 : Hid (HV wc w.heap.size [.bool true, .int .i64 y0, .int .i64 y1, .int .i64 y2]) := B1.out.ext hx
            have B2 : Hid (HV wc (w.heap.size + 1) [.int .i64 v0, .int .i64 v1, .int .i64 v2]) := B2.out.ext hx
            have B3 : Hid (HV wc (w.heap.size + 2) [.bool false, .int .i64 0, .int .i64 0, .int .i64 0]) := B3.out.ext hx
            have HX : Hid (Ext w wc) := HX.out.trans hx
            clear hx
            clear NY NV HM HT
            obtain ⟨g0, g1, g2⟩ := G.out.k3
            have o0 : wc.cell? ⟨w.heap.size + 2, 0, none⟩ = some (.bool false) := B3.out.c 0 rfl
            have o1 : wc.cell? ⟨w.heap.size + 2, 1, none⟩ = some (.int .i64 0) := B3.out.c 1 rfl
            have o2 : wc.cell? ⟨w.heap.size + 2, 2, none⟩ = some (.int .i64 0) := B3.out.c 2 rfl
            have o3 : wc.cell? ⟨w.heap.size + 2, 3, none⟩ = some (.int .i64 0) := B3.out.c 3 rfl
            have z0 : wc.frozen? ⟨w.heap.size + 2, 0, none⟩ = false := B3.out.f 0 rfl
            have z1 : wc.frozen? ⟨w.heap.size + 2, 1, none⟩ = false := B3.out.f 1 rfl
            have z2 : wc.frozen? ⟨w.heap.size + 2, 2, none⟩ = false := B3.out.f 2 rfl
            have z3 : wc.frozen? ⟨w.heap.size + 2, 3, none⟩ = false := B3.out.f 3 rfl
            go_wp2_with fail
            refine bodyPost_ret (v := .tuple #[.agg #[.bool true, .int .i64 r0, .int .i64 r1, .int .i64 r2], .int .i64 0]) (by simp [results, Try.results8, go_sem, o0, o1, o2, o3]) rfl ⟨rfl, ?_⟩
            exact (Ext.set (Ext.set (Ext.set (Ext.set HX.out lt2.out _) lt2.out _) lt2.out _) lt2.out _)
end Go.Proofs.Ytbbnbpghhdmhaaa
