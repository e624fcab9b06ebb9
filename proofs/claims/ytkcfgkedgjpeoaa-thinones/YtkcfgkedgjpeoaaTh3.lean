/- thin: Take. -/
import Derived.Test.YtkcfgkedgjpeoaaTh2
import Derived.BigRegion
namespace Go.Proofs.Ytkcfgkedgjpeoaa
open Go.RowKit Go.Shelf
/-- what Take tells -/
def takeT (s0 s1 s2 n k v0 v1 v2 : Int) : Value :=
  if okT s0 s1 s2 n && okK k && ok3 v0 v1 v2 then
    if n + 1 < k then .tuple #[.agg #[.int .i64 (s0 + v0), .int .i64 (s1 + v1), .int .i64 (s2 + v2), .int .i64 (n + 1)], .agg #[.int .i64 0, .int .i64 0, .int .i64 0], .bool false, .int .i64 0]
    else if ok3 (nearI (s0 + v0) (n + 1)) (nearI (s1 + v1) (n + 1)) (nearI (s2 + v2) (n + 1)) then .tuple #[.agg #[.int .i64 0, .int .i64 0, .int .i64 0, .int .i64 0], .agg #[.int .i64 (nearI (s0 + v0) (n + 1)), .int .i64 (nearI (s1 + v1) (n + 1)), .int .i64 (nearI (s2 + v2) (n + 1))], .bool true, .int .i64 0]
    else .tuple #[.agg #[.int .i64 0, .int .i64 0, .int .i64 0, .int .i64 0], .agg #[.int .i64 0, .int .i64 0, .int .i64 0], .bool false, .int .i64 2]
  else .tuple #[.agg #[.int .i64 0, .int .i64 0, .int .i64 0, .int .i64 0], .agg #[.int .i64 0, .int .i64 0, .int .i64 0], .bool false, .int .i64 1]
set_option maxRecDepth 20000 in
set_option maxHeartbeats 16000000 in
theorem ttake_any (s0 s1 s2 n k v0 v1 v2 : Int) (w : World) : Calls Try.prog 9 #[.agg #[.int .i64 s0, .int .i64 s1, .int .i64 s2, .int .i64 n], .int .i64 k, .agg #[.int .i64 v0, .int .i64 v1, .int .i64 v2]] w fun e w' => e = .returned (takeT s0 s1 s2 n k v0 v1 v2) ∧ Ext w w' := by
  have HI : Hid (∀ w, Calls Try.prog 18 #[.agg #[.int .i64 s0, .int .i64 s1, .int .i64 s2, .int .i64 n]] w fun e w' => e = .returned (.bool (okT s0 s1 s2 n)) ∧ Ext w w') := isthin_any s0 s1 s2 n
  have HK : Hid (∀ w, Calls Try.prog 19 #[.int .i64 k] w fun e w' => e = .returned (.bool (okK k)) ∧ w' = w) := iscount_any k
  have HC : Hid (∀ w, Calls Try.prog 20 #[.agg #[.int .i64 v0, .int .i64 v1, .int .i64 v2]] w fun e w' => e = .returned (.int .i64 (chk3 v0 v1 v2)) ∧ Ext w w') := vCheck_any v0 v1 v2
  have B1 : Hid (HV ((((w.alloc (.cells #[.int .i64 s0, .int .i64 s1, .int .i64 s2, .int .i64 n] 26)).alloc (.cells #[.int .i64 v0, .int .i64 v1, .int .i64 v2] 24)).alloc (.cells #[.int .i64 0, .int .i64 0, .int .i64 0, .int .i64 0] 26)).alloc (.cells #[.int .i64 0, .int .i64 0, .int .i64 0] 24)) w.heap.size [.int .i64 s0, .int .i64 s1, .int .i64 s2, .int .i64 n]) := (((hv_at rfl).alloc _).alloc _).alloc _
  have B2 : Hid (HV ((((w.alloc (.cells #[.int .i64 s0, .int .i64 s1, .int .i64 s2, .int .i64 n] 26)).alloc (.cells #[.int .i64 v0, .int .i64 v1, .int .i64 v2] 24)).alloc (.cells #[.int .i64 0, .int .i64 0, .int .i64 0, .int .i64 0] 26)).alloc (.cells #[.int .i64 0, .int .i64 0, .int .i64 0] 24)) (w.heap.size + 1) [.int .i64 v0, .int .i64 v1, .int .i64 v2]) := ((hv_at (by simp)).alloc _).alloc _
  have B3 : Hid (HV ((((w.alloc (.cells #[.int .i64 s0, .int .i64 s1, .int .i64 s2, .int .i64 n] 26)).alloc (.cells #[.int .i64 v0, .int .i64 v1, .int .i64 v2] 24)).alloc (.cells #[.int .i64 0, .int .i64 0, .int .i64 0, .int .i64 0] 26)).alloc (.cells #[.int .i64 0, .int .i64 0, .int .i64 0] 24)) (w.heap.size + 2) [.int .i64 0, .int .i64 0, .int .i64 0, .int .i64 0]) := (hv_at (by simp)).alloc _
  have B4 : Hid (HV ((((w.alloc (.cells #[.int .i64 s0, .int .i64 s1, .int .i64 s2, .int .i64 n] 26)).alloc (.cells #[.int .i64 v0, .int .i64 v1, .int .i64 v2] 24)).alloc (.cells #[.int .i64 0, .int .i64 0, .int .i64 0, .int .i64 0] 26)).alloc (.cells #[.int .i64 0, .int .i64 0, .int .i64 0] 24)) (w.heap.size + 3) [.int .i64 0, .int .i64 0, .int .i64 0]) := hv_at (by simp)
  have lt2 : Hid (w.heap.size ≤ w.heap.size + 2) := Nat.le_add_right _ _
  have lt3 : Hid (w.heap.size ≤ w.heap.size + 3) := Nat.le_add_right _ _
  have HX : Hid (Ext w ((((w.alloc (.cells #[.int .i64 s0, .int .i64 s1, .int .i64 s2, .int .i64 n] 26)).alloc (.cells #[.int .i64 v0, .int .i64 v1, .int .i64 v2] 24)).alloc (.cells #[.int .i64 0, .int .i64 0, .int .i64 0, .int .i64 0] 26)).alloc (.cells #[.int .i64 0, .int .i64 0, .int .i64 0] 24))) := ((((Ext.refl w).alloc _).alloc _).alloc _).alloc _
  cases h1 : okT s0 s1 s2 n
  · have er : takeT s0 s1 s2 n k v0 v1 v2 = .tuple #[.agg #[.int .i64 0, .int .i64 0, .int .i64 0, .int .i64 0], .agg #[.int .i64 0, .int .i64 0, .int .i64 0], .bool false, .int .i64 1] := by unfold takeT; rw [h1]; rfl
    rw [er]
    rw [h1] at HI
    clear er h1 HK HC
    go_enter Try.func9, Try.ntmps9
    go_upto_region 1 with fail
    generalize ((((w.alloc (.cells #[.int .i64 s0, .int .i64 s1, .int .i64 s2, .int .i64 n] 26)).alloc (.cells #[.int .i64 v0, .int .i64 v1, .int .i64 v2] 24)).alloc (.cells #[.int .i64 0, .int .i64 0, .int .i64 0, .int .i64 0] 26)).alloc (.cells #[.int .i64 0, .int .i64 0, .int .i64 0] 24)) = wa at *
    have c0 : wa.cell? ⟨w.heap.size, 0, none⟩ = some (.int .i64 s0) := B1.out.c 0 rfl
    have c1 : wa.cell? ⟨w.heap.size, 1, none⟩ = some (.int .i64 s1) := B1.out.c 1 rfl
    have c2 : wa.cell? ⟨w.heap.size, 2, none⟩ = some (.int .i64 s2) := B1.out.c 2 rfl
    have c3 : wa.cell? ⟨w.heap.size, 3, none⟩ = some (.int .i64 n) := B1.out.c 3 rfl
    go_upto_region 2 with (go_at_call 18; refine (HI.out _).mono ?_; rintro e w1 ⟨rfl, x1⟩)
    clear c0 c1 c2 c3
    have B1 : Hid (HV w1 w.heap.size [.int .i64 s0, .int .i64 s1, .int .i64 s2, .int .i64 n]) := B1.out.ext x1
    have B2 : Hid (HV w1 (w.heap.size + 1) [.int .i64 v0, .int .i64 v1, .int .i64 v2]) := B2.out.ext x1
    have B3 : Hid (HV w1 (w.heap.size + 2) [.int .i64 0, .int .i64 0, .int .i64 0, .int .i64 0]) := B3.out.ext x1
    have B4 : Hid (HV w1 (w.heap.size + 3) [.int .i64 0, .int .i64 0, .int .i64 0]) := B4.out.ext x1
    have HX : Hid (Ext w w1) := HX.out.trans x1
    clear x1
    have o0 : w1.cell? ⟨w.heap.size + 2, 0, none⟩ = some (.int .i64 0) := B3.out.c 0 rfl
    have o1 : w1.cell? ⟨w.heap.size + 2, 1, none⟩ = some (.int .i64 0) := B3.out.c 1 rfl
    have o2 : w1.cell? ⟨w.heap.size + 2, 2, none⟩ = some (.int .i64 0) := B3.out.c 2 rfl
    have o3 : w1.cell? ⟨w.heap.size + 2, 3, none⟩ = some (.int .i64 0) := B3.out.c 3 rfl
    have z0 : w1.frozen? ⟨w.heap.size + 2, 0, none⟩ = false := B3.out.f 0 rfl
    have z1 : w1.frozen? ⟨w.heap.size + 2, 1, none⟩ = false := B3.out.f 1 rfl
    have z2 : w1.frozen? ⟨w.heap.size + 2, 2, none⟩ = false := B3.out.f 2 rfl
    have z3 : w1.frozen? ⟨w.heap.size + 2, 3, none⟩ = false := B3.out.f 3 rfl
    have l0 : w1.cell? ⟨w.heap.size + 3, 0, none⟩ = some (.int .i64 0) := B4.out.c 0 rfl
    have l1 : w1.cell? ⟨w.heap.size + 3, 1, none⟩ = some (.int .i64 0) := B4.out.c 1 rfl
    have l2 : w1.cell? ⟨w.heap.size + 3, 2, none⟩ = some (.int .i64 0) := B4.out.c 2 rfl
    have y0 : w1.frozen? ⟨w.heap.size + 3, 0, none⟩ = false := B4.out.f 0 rfl
    have y1 : w1.frozen? ⟨w.heap.size + 3, 1, none⟩ = false := B4.out.f 1 rfl
    have y2 : w1.frozen? ⟨w.heap.size + 3, 2, none⟩ = false := B4.out.f 2 rfl
    go_wp2_with fail
    refine bodyPost_ret (v := .tuple #[.agg #[.int .i64 0, .int .i64 0, .int .i64 0, .int .i64 0], .agg #[.int .i64 0, .int .i64 0, .int .i64 0], .bool false, .int .i64 1]) (by simp [results, Try.results9, go_sem, *]) rfl ⟨rfl, ?_⟩
    exact (Ext.set (Ext.set (Ext.set (Ext.set (Ext.set (Ext.set (Ext.set HX.out lt2.out _) lt2.out _) lt2.out _) lt2.out _) lt3.out _) lt3.out _) lt3.out _)
  · cases h2 : okK k
    · have er : takeT s0 s1 s2 n k v0 v1 v2 = .tuple #[.agg #[.int .i64 0, .int .i64 0, .int .i64 0, .int .i64 0], .agg #[.int .i64 0, .int .i64 0, .int .i64 0], .bool false, .int .i64 1] := by unfold takeT; rw [h1, h2]; rfl
      rw [er]
      rw [h1] at HI
      rw [h2] at HK
      clear er h1 h2 HC
      go_enter Try.func9, Try.ntmps9
      go_upto_region 1 with fail
      generalize ((((w.alloc (.cells #[.int .i64 s0, .int .i64 s1, .int .i64 s2, .int .i64 n] 26)).alloc (.cells #[.int .i64 v0, .int .i64 v1, .int .i64 v2] 24)).alloc (.cells #[.int .i64 0, .int .i64 0, .int .i64 0, .int .i64 0] 26)).alloc (.cells #[.int .i64 0, .int .i64 0, .int .i64 0] 24)) = wa at *
      have c0 : wa.cell? ⟨w.heap.size, 0, none⟩ = some (.int .i64 s0) := B1.out.c 0 rfl
      have c1 : wa.cell? ⟨w.heap.size, 1, none⟩ = some (.int .i64 s1) := B1.out.c 1 rfl
      have c2 : wa.cell? ⟨w.heap.size, 2, none⟩ = some (.int .i64 s2) := B1.out.c 2 rfl
      have c3 : wa.cell? ⟨w.heap.size, 3, none⟩ = some (.int .i64 n) := B1.out.c 3 rfl
      go_upto_region 2 with (first | (go_at_call 18; refine (HI.out _).mono ?_; rintro e w1 ⟨rfl, x1⟩) | (go_at_call 19; refine (HK.out _).mono ?_; rintro e wx ⟨rfl, hwx⟩; have hwy := hwx.symm; clear hwx; subst hwy))
      clear c0 c1 c2 c3
      have B1 : Hid (HV w1 w.heap.size [.int .i64 s0, .int .i64 s1, .int .i64 s2, .int .i64 n]) := B1.out.ext x1
      have B2 : Hid (HV w1 (w.heap.size + 1) [.int .i64 v0, .int .i64 v1, .int .i64 v2]) := B2.out.ext x1
      have B3 : Hid (HV w1 (w.heap.size + 2) [.int .i64 0, .int .i64 0, .int .i64 0, .int .i64 0]) := B3.out.ext x1
      have B4 : Hid (HV w1 (w.heap.size + 3) [.int .i64 0, .int .i64 0, .int .i64 0]) := B4.out.ext x1
      have HX : Hid (Ext w w1) := HX.out.trans x1
      clear x1
      have o0 : w1.cell? ⟨w.heap.size + 2, 0, none⟩ = some (.int .i64 0) := B3.out.c 0 rfl
      have o1 : w1.cell? ⟨w.heap.size + 2, 1, none⟩ = some (.int .i64 0) := B3.out.c 1 rfl
      have o2 : w1.cell? ⟨w.heap.size + 2, 2, none⟩ = some (.int .i64 0) := B3.out.c 2 rfl
      have o3 : w1.cell? ⟨w.heap.size + 2, 3, none⟩ = some (.int .i64 0) := B3.out.c 3 rfl
      have z0 : w1.frozen? ⟨w.heap.size + 2, 0, none⟩ = false := B3.out.f 0 rfl
      have z1 : w1.frozen? ⟨w.heap.size + 2, 1, none⟩ = false := B3.out.f 1 rfl
      have z2 : w1.frozen? ⟨w.heap.size + 2, 2, none⟩ = false := B3.out.f 2 rfl
      have z3 : w1.frozen? ⟨w.heap.size + 2, 3, none⟩ = false := B3.out.f 3 rfl
      have l0 : w1.cell? ⟨w.heap.size + 3, 0, none⟩ = some (.int .i64 0) := B4.out.c 0 rfl
      have l1 : w1.cell? ⟨w.heap.size + 3, 1, none⟩ = some (.int .i64 0) := B4.out.c 1 rfl
      have l2 : w1.cell? ⟨w.heap.size + 3, 2, none⟩ = some (.int .i64 0) := B4.out.c 2 rfl
      have y0 : w1.frozen? ⟨w.heap.size + 3, 0, none⟩ = false := B4.out.f 0 rfl
      have y1 : w1.frozen? ⟨w.heap.size + 3, 1, none⟩ = false := B4.out.f 1 rfl
      have y2 : w1.frozen? ⟨w.heap.size + 3, 2, none⟩ = false := B4.out.f 2 rfl
      go_wp2_with fail
      refine bodyPost_ret (v := .tuple #[.agg #[.int .i64 0, .int .i64 0, .int .i64 0, .int .i64 0], .agg #[.int .i64 0, .int .i64 0, .int .i64 0], .bool false, .int .i64 1]) (by simp [results, Try.results9, go_sem, *]) rfl ⟨rfl, ?_⟩
      exact (Ext.set (Ext.set (Ext.set (Ext.set (Ext.set (Ext.set (Ext.set HX.out lt2.out _) lt2.out _) lt2.out _) lt2.out _) lt3.out _) lt3.out _) lt3.out _)
    · cases h3 : ok3 v0 v1 v2
      · have er : takeT s0 s1 s2 n k v0 v1 v2 = .tuple #[.agg #[.int .i64 0, .int .i64 0, .int .i64 0, .int .i64 0], .agg #[.int .i64 0, .int .i64 0, .int .i64 0], .bool false, .int .i64 1] := by unfold takeT; rw [h1, h2, h3]; rfl
        rw [er]
        rw [h1] at HI
        rw [h2] at HK
        have ed : chk3 v0 v1 v2 = 1 := by unfold chk3; rw [h3]; rfl
        rw [ed] at HC
        clear er ed h1 h2 h3
        go_enter Try.func9, Try.ntmps9
        go_upto_region 1 with fail
        generalize ((((w.alloc (.cells #[.int .i64 s0, .int .i64 s1, .int .i64 s2, .int .i64 n] 26)).alloc (.cells #[.int .i64 v0, .int .i64 v1, .int .i64 v2] 24)).alloc (.cells #[.int .i64 0, .int .i64 0, .int .i64 0, .int .i64 0] 26)).alloc (.cells #[.int .i64 0, .int .i64 0, .int .i64 0] 24)) = wa at *
        have c0 : wa.cell? ⟨w.heap.size, 0, none⟩ = some (.int .i64 s0) := B1.out.c 0 rfl
        have c1 : wa.cell? ⟨w.heap.size, 1, none⟩ = some (.int .i64 s1) := B1.out.c 1 rfl
        have c2 : wa.cell? ⟨w.heap.size, 2, none⟩ = some (.int .i64 s2) := B1.out.c 2 rfl
        have c3 : wa.cell? ⟨w.heap.size, 3, none⟩ = some (.int .i64 n) := B1.out.c 3 rfl
        go_wp2_with fail
        refine (HI.out _).mono ?_
        rintro e w1 ⟨rfl, x1⟩
        clear c0 c1 c2 c3
        have B1 : Hid (HV w1 w.heap.size [.int .i64 s0, .int .i64 s1, .int .i64 s2, .int .i64 n]) := B1.out.ext x1
        have B2 : Hid (HV w1 (w.heap.size + 1) [.int .i64 v0, .int .i64 v1, .int .i64 v2]) := B2.out.ext x1
        have B3 : Hid (HV w1 (w.heap.size + 2) [.int .i64 0, .int .i64 0, .int .i64 0, .int .i64 0]) := B3.out.ext x1
        have B4 : Hid (HV w1 (w.heap.size + 3) [.int .i64 0, .int .i64 0, .int .i64 0]) := B4.out.ext x1
        have HX : Hid (Ext w w1) := HX.out.trans x1
        clear x1
        have d0 : w1.cell? ⟨w.heap.size + 1, 0, none⟩ = some (.int .i64 v0) := B2.out.c 0 rfl
        have d1 : w1.cell? ⟨w.heap.size + 1, 1, none⟩ = some (.int .i64 v1) := B2.out.c 1 rfl
        have d2 : w1.cell? ⟨w.heap.size + 1, 2, none⟩ = some (.int .i64 v2) := B2.out.c 2 rfl
        go_upto_region 2 with (first | (go_at_call 19; refine (HK.out _).mono ?_; rintro e wx ⟨rfl, hwx⟩; have hwy := hwx.symm; clear hwx; subst hwy) | (go_at_call 20; refine (HC.out _).mono ?_; rintro e w2 ⟨rfl, x2⟩))
        clear d0 d1 d2 HI HK HC
        have B1 : Hid (HV w2 w.heap.size [.int .i64 s0, .int .i64 s1, .int .i64 s2, .int .i64 n]) := B1.out.ext x2
        have B2 : Hid (HV w2 (w.heap.size + 1) [.int .i64 v0, .int .i64 v1, .int .i64 v2]) := B2.out.ext x2
        have B3 : Hid (HV w2 (w.heap.size + 2) [.int .i64 0, .int .i64 0, .int .i64 0, .int .i64 0]) := B3.out.ext x2
        have B4 : Hid (HV w2 (w.heap.size + 3) [.int .i64 0, .int .i64 0, .int .i64 0]) := B4.out.ext x2
        have HX : Hid (Ext w w2) := HX.out.trans x2
        clear x2
        have o0 : w2.cell? ⟨w.heap.size + 2, 0, none⟩ = some (.int .i64 0) := B3.out.c 0 rfl
        have o1 : w2.cell? ⟨w.heap.size + 2, 1, none⟩ = some (.int .i64 0) := B3.out.c 1 rfl
        have o2 : w2.cell? ⟨w.heap.size + 2, 2, none⟩ = some (.int .i64 0) := B3.out.c 2 rfl
        have o3 : w2.cell? ⟨w.heap.size + 2, 3, none⟩ = some (.int .i64 0) := B3.out.c 3 rfl
        have z0 : w2.frozen? ⟨w.heap.size + 2, 0, none⟩ = false := B3.out.f 0 rfl
        have z1 : w2.frozen? ⟨w.heap.size + 2, 1, none⟩ = false := B3.out.f 1 rfl
        have z2 : w2.frozen? ⟨w.heap.size + 2, 2, none⟩ = false := B3.out.f 2 rfl
        have z3 : w2.frozen? ⟨w.heap.size + 2, 3, none⟩ = false := B3.out.f 3 rfl
        have l0 : w2.cell? ⟨w.heap.size + 3, 0, none⟩ = some (.int .i64 0) := B4.out.c 0 rfl
        have l1 : w2.cell? ⟨w.heap.size + 3, 1, none⟩ = some (.int .i64 0) := B4.out.c 1 rfl
        have l2 : w2.cell? ⟨w.heap.size + 3, 2, none⟩ = some (.int .i64 0) := B4.out.c 2 rfl
        have y0 : w2.frozen? ⟨w.heap.size + 3, 0, none⟩ = false := B4.out.f 0 rfl
        have y1 : w2.frozen? ⟨w.heap.size + 3, 1, none⟩ = false := B4.out.f 1 rfl
        have y2 : w2.frozen? ⟨w.heap.size + 3, 2, none⟩ = false := B4.out.f 2 rfl
        go_wp2_with fail
        refine bodyPost_ret (v := .tuple #[.agg #[.int .i64 0, .int .i64 0, .int .i64 0, .int .i64 0], .agg #[.int .i64 0, .int .i64 0, .int .i64 0], .bool false, .int .i64 1]) (by simp [results, Try.results9, go_sem, *]) rfl ⟨rfl, ?_⟩
        exact (Ext.set (Ext.set (Ext.set (Ext.set (Ext.set (Ext.set (Ext.set HX.out lt2.out _) lt2.out _) lt2.out _) lt2.out _) lt3.out _) lt3.out _) lt3.out _)
      · have er : takeT s0 s1 s2 n k v0 v1 v2 = (if n + 1 < k then .tuple #[.agg #[.int .i64 (s0 + v0), .int .i64 (s1 + v1), .int .i64 (s2 + v2), .int .i64 (n + 1)], .agg #[.int .i64 0, .int .i64 0, .int .i64 0], .bool false, .int .i64 0] else if ok3 (nearI (s0 + v0) (n + 1)) (nearI (s1 + v1) (n + 1)) (nearI (s2 + v2) (n + 1)) then .tuple #[.agg #[.int .i64 0, .int .i64 0, .int .i64 0, .int .i64 0], .agg #[.int .i64 (nearI (s0 + v0) (n + 1)), .int .i64 (nearI (s1 + v1) (n + 1)), .int .i64 (nearI (s2 + v2) (n + 1))], .bool true, .int .i64 0] else .tuple #[.agg #[.int .i64 0, .int .i64 0, .int .i64 0, .int .i64 0], .agg #[.int .i64 0, .int .i64 0, .int .i64 0], .bool false, .int .i64 2]) := by unfold takeT; rw [h1, h2, h3]; rfl
        rw [er]
        rw [h1] at HI
        rw [h2] at HK
        have ed : chk3 v0 v1 v2 = 0 := by unfold chk3; rw [h3]; rfl
        rw [ed] at HC
        clear er ed
        obtain ⟨n1, n2, a0, a1, a2⟩ := okT_bounds h1
        obtain ⟨q0, q1, q2⟩ := ok3_parts h3
        have g0 := okW_bounds q0
        have g1 := okW_bounds q1
        have g2 := okW_bounds q2
        have gk := okK_iff.1 h2
        clear q0 q1 q2 h1 h2 h3
        have HW : Hid (∀ w, Calls Try.prog 21 #[.agg #[.int .i64 s0, .int .i64 s1, .int .i64 s2, .int .i64 n], .agg #[.int .i64 v0, .int .i64 v1, .int .i64 v2]] w fun e w' => e = .returned (.tuple #[.agg #[.int .i64 (s0 + v0), .int .i64 (s1 + v1), .int .i64 (s2 + v2), .int .i64 (n + 1)], .int .i64 0]) ∧ Ext w w') := fun w => twith_any s0 s1 s2 n v0 v1 v2 _ _ _ _ w (wrap_le _ (by omega) (by omega)) (wrap_le _ (by omega) (by omega)) (wrap_le _ (by omega) (by omega)) (wrap_le _ (by omega) (by omega))
        have HT : Hid (∀ w, Calls Try.prog 29 #[.agg #[.int .i64 (s0 + v0), .int .i64 (s1 + v1), .int .i64 (s2 + v2)], .agg #[.int .i64 (n + 1), .int .i64 (n + 1), .int .i64 (n + 1)], .func (.func 33) #[] #[]] w fun e w' => e = .returned (vres (nearI (s0 + v0) (n + 1)) (nearI (s1 + v1) (n + 1)) (nearI (s2 + v2) (n + 1))) ∧ Ext w w') := fun w => thr_mean _ _ _ _ w ⟨by omega, by omega⟩ ⟨by omega, by omega⟩ ⟨by omega, by omega⟩ ⟨by omega, by omega⟩
        clear a0 a1 a2 g0 g1 g2 n1 n2 gk
        generalize nearI (s0 + v0) (n + 1) = m0 at *
        generalize nearI (s1 + v1) (n + 1) = m1 at *
        generalize nearI (s2 + v2) (n + 1) = m2 at *
        generalize s0 + v0 = t0 at *
        generalize s1 + v1 = t1 at *
        generalize s2 + v2 = t2 at *
        generalize n + 1 = m at *
        by_cases hk : m < k
        · rw [if_pos hk]
          clear HT
          go_enter Try.func9, Try.ntmps9
          go_upto_region 1 with fail
          generalize ((((w.alloc (.cells #[.int .i64 s0, .int .i64 s1, .int .i64 s2, .int .i64 n] 26)).alloc (.cells #[.int .i64 v0, .int .i64 v1, .int .i64 v2] 24)).alloc (.cells #[.int .i64 0, .int .i64 0, .int .i64 0, .int .i64 0] 26)).alloc (.cells #[.int .i64 0, .int .i64 0, .int .i64 0] 24)) = wa at *
          have c0 : wa.cell? ⟨w.heap.size, 0, none⟩ = some (.int .i64 s0) := B1.out.c 0 rfl
          have c1 : wa.cell? ⟨w.heap.size, 1, none⟩ = some (.int .i64 s1) := B1.out.c 1 rfl
          have c2 : wa.cell? ⟨w.heap.size, 2, none⟩ = some (.int .i64 s2) := B1.out.c 2 rfl
          have c3 : wa.cell? ⟨w.heap.size, 3, none⟩ = some (.int .i64 n) := B1.out.c 3 rfl
          go_wp2_with fail
          refine (HI.out _).mono ?_
          rintro e w1 ⟨rfl, x1⟩
          clear c0 c1 c2 c3
          have B1 : Hid (HV w1 w.heap.size [.int .i64 s0, .int .i64 s1, .int .i64 s2, .int .i64 n]) := B1.out.ext x1
          have B2 : Hid (HV w1 (w.heap.size + 1) [.int .i64 v0, .int .i64 v1, .int .i64 v2]) := B2.out.ext x1
          have B3 : Hid (HV w1 (w.heap.size + 2) [.int .i64 0, .int .i64 0, .int .i64 0, .int .i64 0]) := B3.out.ext x1
          have B4 : Hid (HV w1 (w.heap.size + 3) [.int .i64 0, .int .i64 0, .int .i64 0]) := B4.out.ext x1
          have HX : Hid (Ext w w1) := HX.out.trans x1
          clear x1
          have d0 : w1.cell? ⟨w.heap.size + 1, 0, none⟩ = some (.int .i64 v0) := B2.out.c 0 rfl
          have d1 : w1.cell? ⟨w.heap.size + 1, 1, none⟩ = some (.int .i64 v1) := B2.out.c 1 rfl
          have d2 : w1.cell? ⟨w.heap.size + 1, 2, none⟩ = some (.int .i64 v2) := B2.out.c 2 rfl
          go_upto_region 3 with (first | (go_at_call 19; refine (HK.out _).mono ?_; rintro e wx ⟨rfl, hwx⟩; have hwy := hwx.symm; clear hwx; subst hwy) | (go_at_call 20; refine (HC.out _).mono ?_; rintro e w2 ⟨rfl, x2⟩))
          clear d0 d1 d2 HI HK HC
          have B1 : Hid (HV w2 w.heap.size [.int .i64 s0, .int .i64 s1, .int .i64 s2, .int .i64 n]) := B1.out.ext x2
          have B2 : Hid (HV w2 (w.heap.size + 1) [.int .i64 v0, .int .i64 v1, .int .i64 v2]) := B2.out.ext x2
          have B3 : Hid (HV w2 (w.heap.size + 2) [.int .i64 0, .int .i64 0, .int .i64 0, .int .i64 0]) := B3.out.ext x2
          have B4 : Hid (HV w2 (w.heap.size + 3) [.int .i64 0, .int .i64 0, .int .i64 0]) := B4.out.ext x2
          have HX : Hid (Ext w w2) := HX.out.trans x2
          clear x2
          have c0 : w2.cell? ⟨w.heap.size, 0, none⟩ = some (.int .i64 s0) := B1.out.c 0 rfl
          have c1 : w2.cell? ⟨w.heap.size, 1, none⟩ = some (.int .i64 s1) := B1.out.c 1 rfl
          have c2 : w2.cell? ⟨w.heap.size, 2, none⟩ = some (.int .i64 s2) := B1.out.c 2 rfl
          have c3 : w2.cell? ⟨w.heap.size, 3, none⟩ = some (.int .i64 n) := B1.out.c 3 rfl
          have d0 : w2.cell? ⟨w.heap.size + 1, 0, none⟩ = some (.int .i64 v0) := B2.out.c 0 rfl
          have d1 : w2.cell? ⟨w.heap.size + 1, 1, none⟩ = some (.int .i64 v1) := B2.out.c 1 rfl
          have d2 : w2.cell? ⟨w.heap.size + 1, 2, none⟩ = some (.int .i64 v2) := B2.out.c 2 rfl
          go_wp2_with fail
          refine (HW.out _).mono ?_
          rintro e w3 ⟨rfl, x3⟩
          clear c0 c1 c2 c3 d0 d1 d2 HW
          have B1 : Hid (HV w3 w.heap.size [.int .i64 s0, .int .i64 s1, .int .i64 s2, .int .i64 n]) := B1.out.ext x3
          have B2 : Hid (HV w3 (w.heap.size + 1) [.int .i64 v0, .int .i64 v1, .int .i64 v2]) := B2.out.ext x3
          have B3 : Hid (HV w3 (w.heap.size + 2) [.int .i64 0, .int .i64 0, .int .i64 0, .int .i64 0]) := B3.out.ext x3
          have B4 : Hid (HV w3 (w.heap.size + 3) [.int .i64 0, .int .i64 0, .int .i64 0]) := B4.out.ext x3
          have HX : Hid (Ext w w3) := HX.out.trans x3
          clear x3
          have o0 : w3.cell? ⟨w.heap.size + 2, 0, none⟩ = some (.int .i64 0) := B3.out.c 0 rfl
          have o1 : w3.cell? ⟨w.heap.size + 2, 1, none⟩ = some (.int .i64 0) := B3.out.c 1 rfl
          have o2 : w3.cell? ⟨w.heap.size + 2, 2, none⟩ = some (.int .i64 0) := B3.out.c 2 rfl
          have o3 : w3.cell? ⟨w.heap.size + 2, 3, none⟩ = some (.int .i64 0) := B3.out.c 3 rfl
          have z0 : w3.frozen? ⟨w.heap.size + 2, 0, none⟩ = false := B3.out.f 0 rfl
          have z1 : w3.frozen? ⟨w.heap.size + 2, 1, none⟩ = false := B3.out.f 1 rfl
          have z2 : w3.frozen? ⟨w.heap.size + 2, 2, none⟩ = false := B3.out.f 2 rfl
          have z3 : w3.frozen? ⟨w.heap.size + 2, 3, none⟩ = false := B3.out.f 3 rfl
          go_upto_region 7 with fail
          have B4 : Hid (HV ((((w3.setCell ⟨w.heap.size + 2, 0, none⟩ (.int .i64 t0)).setCell ⟨w.heap.size + 2, 1, none⟩ (.int .i64 t1)).setCell ⟨w.heap.size + 2, 2, none⟩ (.int .i64 t2)).setCell ⟨w.heap.size + 2, 3, none⟩ (.int .i64 m)) (w.heap.size + 3) [.int .i64 0, .int .i64 0, .int .i64 0]) := (((B4.out.far (by omega)).far (by omega)).far (by omega)).far (by omega)
          have B3 : Hid (HV ((((w3.setCell ⟨w.heap.size + 2, 0, none⟩ (.int .i64 t0)).setCell ⟨w.heap.size + 2, 1, none⟩ (.int .i64 t1)).setCell ⟨w.heap.size + 2, 2, none⟩ (.int .i64 t2)).setCell ⟨w.heap.size + 2, 3, none⟩ (.int .i64 m)) (w.heap.size + 2) [.int .i64 t0, .int .i64 t1, .int .i64 t2, .int .i64 m]) := (((B3.out.set 0 _).set 1 _).set 2 _).set 3 _
          have HX : Hid (Ext w ((((w3.setCell ⟨w.heap.size + 2, 0, none⟩ (.int .i64 t0)).setCell ⟨w.heap.size + 2, 1, none⟩ (.int .i64 t1)).setCell ⟨w.heap.size + 2, 2, none⟩ (.int .i64 t2)).setCell ⟨w.heap.size + 2, 3, none⟩ (.int .i64 m))) := Ext.set (Ext.set (Ext.set (Ext.set HX.out lt2.out _) lt2.out _) lt2.out _) lt2.out _
          clear B1 B2 o0 o1 o2 o3 z0 z1 z2 z3
          generalize ((((w3.setCell ⟨w.heap.size + 2, 0, none⟩ (.int .i64 t0)).setCell ⟨w.heap.size + 2, 1, none⟩ (.int .i64 t1)).setCell ⟨w.heap.size + 2, 2, none⟩ (.int .i64 t2)).setCell ⟨w.heap.size + 2, 3, none⟩ (.int .i64 m)) = w4 at *
          have o0 : w4.cell? ⟨w.heap.size + 2, 0, none⟩ = some (.int .i64 t0) := B3.out.c 0 rfl
          have o1 : w4.cell? ⟨w.heap.size + 2, 1, none⟩ = some (.int .i64 t1) := B3.out.c 1 rfl
          have o2 : w4.cell? ⟨w.heap.size + 2, 2, none⟩ = some (.int .i64 t2) := B3.out.c 2 rfl
          have o3 : w4.cell? ⟨w.heap.size + 2, 3, none⟩ = some (.int .i64 m) := B3.out.c 3 rfl
          have z0 : w4.frozen? ⟨w.heap.size + 2, 0, none⟩ = false := B3.out.f 0 rfl
          have z1 : w4.frozen? ⟨w.heap.size + 2, 1, none⟩ = false := B3.out.f 1 rfl
          have z2 : w4.frozen? ⟨w.heap.size + 2, 2, none⟩ = false := B3.out.f 2 rfl
          have z3 : w4.frozen? ⟨w.heap.size + 2, 3, none⟩ = false := B3.out.f 3 rfl
          have l0 : w4.cell? ⟨w.heap.size + 3, 0, none⟩ = some (.int .i64 0) := B4.out.c 0 rfl
          have l1 : w4.cell? ⟨w.heap.size + 3, 1, none⟩ = some (.int .i64 0) := B4.out.c 1 rfl
          have l2 : w4.cell? ⟨w.heap.size + 3, 2, none⟩ = some (.int .i64 0) := B4.out.c 2 rfl
          have y0 : w4.frozen? ⟨w.heap.size + 3, 0, none⟩ = false := B4.out.f 0 rfl
          have y1 : w4.frozen? ⟨w.heap.size + 3, 1, none⟩ = false := B4.out.f 1 rfl
          have y2 : w4.frozen? ⟨w.heap.size + 3, 2, none⟩ = false := B4.out.f 2 rfl
          go_wp2_with fail
          refine bodyPost_ret (v := .tuple #[.agg #[.int .i64 t0, .int .i64 t1, .int .i64 t2, .int .i64 m], .agg #[.int .i64 0, .int .i64 0, .int .i64 0], .bool false, .int .i64 0]) (by simp [results, Try.results9, go_sem, *]) rfl ⟨rfl, ?_⟩
          exact (Ext.set (Ext.set (Ext.set (Ext.set (Ext.set (Ext.set (Ext.set HX.out lt2.out _) lt2.out _) lt2.out _) lt2.out _) lt3.out _) lt3.out _) lt3.out _)
        · rw [if_neg hk]
          cases ho : ok3 m0 m1 m2
          · rw [if_neg (by decide)]
            have ev : vres m0 m1 m2 = .tuple #[.agg #[.int .i64 0, .int .i64 0, .int .i64 0], .int .i64 2] := by unfold vres; rw [ho]; rfl
            rw [ev] at HT
            have HM : Hid (∀ w, Calls Try.prog 22 #[.agg #[.int .i64 t0, .int .i64 t1, .int .i64 t2, .int .i64 m]] w fun e w' => e = .returned (.tuple #[.agg #[.int .i64 0, .int .i64 0, .int .i64 0], .int .i64 2]) ∧ Ext w w') := fun w => tmean_bad _ _ _ _ w HT
            clear HT ev ho
            go_enter Try.func9, Try.ntmps9
            go_upto_region 1 with fail
            generalize ((((w.alloc (.cells #[.int .i64 s0, .int .i64 s1, .int .i64 s2, .int .i64 n] 26)).alloc (.cells #[.int .i64 v0, .int .i64 v1, .int .i64 v2] 24)).alloc (.cells #[.int .i64 0, .int .i64 0, .int .i64 0, .int .i64 0] 26)).alloc (.cells #[.int .i64 0, .int .i64 0, .int .i64 0] 24)) = wa at *
            have c0 : wa.cell? ⟨w.heap.size, 0, none⟩ = some (.int .i64 s0) := B1.out.c 0 rfl
            have c1 : wa.cell? ⟨w.heap.size, 1, none⟩ = some (.int .i64 s1) := B1.out.c 1 rfl
            have c2 : wa.cell? ⟨w.heap.size, 2, none⟩ = some (.int .i64 s2) := B1.out.c 2 rfl
            have c3 : wa.cell? ⟨w.heap.size, 3, none⟩ = some (.int .i64 n) := B1.out.c 3 rfl
            go_wp2_with fail
            refine (HI.out _).mono ?_
            rintro e w1 ⟨rfl, x1⟩
            clear c0 c1 c2 c3
            have B1 : Hid (HV w1 w.heap.size [.int .i64 s0, .int .i64 s1, .int .i64 s2, .int .i64 n]) := B1.out.ext x1
            have B2 : Hid (HV w1 (w.heap.size + 1) [.int .i64 v0, .int .i64 v1, .int .i64 v2]) := B2.out.ext x1
            have B3 : Hid (HV w1 (w.heap.size + 2) [.int .i64 0, .int .i64 0, .int .i64 0, .int .i64 0]) := B3.out.ext x1
            have B4 : Hid (HV w1 (w.heap.size + 3) [.int .i64 0, .int .i64 0, .int .i64 0]) := B4.out.ext x1
            have HX : Hid (Ext w w1) := HX.out.trans x1
            clear x1
            have d0 : w1.cell? ⟨w.heap.size + 1, 0, none⟩ = some (.int .i64 v0) := B2.out.c 0 rfl
            have d1 : w1.cell? ⟨w.heap.size + 1, 1, none⟩ = some (.int .i64 v1) := B2.out.c 1 rfl
            have d2 : w1.cell? ⟨w.heap.size + 1, 2, none⟩ = some (.int .i64 v2) := B2.out.c 2 rfl
            go_upto_region 3 with (first | (go_at_call 19; refine (HK.out _).mono ?_; rintro e wx ⟨rfl, hwx⟩; have hwy := hwx.symm; clear hwx; subst hwy) | (go_at_call 20; refine (HC.out _).mono ?_; rintro e w2 ⟨rfl, x2⟩))
            clear d0 d1 d2 HI HK HC
            have B1 : Hid (HV w2 w.heap.size [.int .i64 s0, .int .i64 s1, .int .i64 s2, .int .i64 n]) := B1.out.ext x2
            have B2 : Hid (HV w2 (w.heap.size + 1) [.int .i64 v0, .int .i64 v1, .int .i64 v2]) := B2.out.ext x2
            have B3 : Hid (HV w2 (w.heap.size + 2) [.int .i64 0, .int .i64 0, .int .i64 0, .int .i64 0]) := B3.out.ext x2
            have B4 : Hid (HV w2 (w.heap.size + 3) [.int .i64 0, .int .i64 0, .int .i64 0]) := B4.out.ext x2
            have HX : Hid (Ext w w2) := HX.out.trans x2
            clear x2
            have c0 : w2.cell? ⟨w.heap.size, 0, none⟩ = some (.int .i64 s0) := B1.out.c 0 rfl
            have c1 : w2.cell? ⟨w.heap.size, 1, none⟩ = some (.int .i64 s1) := B1.out.c 1 rfl
            have c2 : w2.cell? ⟨w.heap.size, 2, none⟩ = some (.int .i64 s2) := B1.out.c 2 rfl
            have c3 : w2.cell? ⟨w.heap.size, 3, none⟩ = some (.int .i64 n) := B1.out.c 3 rfl
            have d0 : w2.cell? ⟨w.heap.size + 1, 0, none⟩ = some (.int .i64 v0) := B2.out.c 0 rfl
            have d1 : w2.cell? ⟨w.heap.size + 1, 1, none⟩ = some (.int .i64 v1) := B2.out.c 1 rfl
            have d2 : w2.cell? ⟨w.heap.size + 1, 2, none⟩ = some (.int .i64 v2) := B2.out.c 2 rfl
            go_wp2_with fail
            refine (HW.out _).mono ?_
            rintro e w3 ⟨rfl, x3⟩
            clear c0 c1 c2 c3 d0 d1 d2 HW
            have B1 : Hid (HV w3 w.heap.size [.int .i64 s0, .int .i64 s1, .int .i64 s2, .int .i64 n]) := B1.out.ext x3
            have B2 : Hid (HV w3 (w.heap.size + 1) [.int .i64 v0, .int .i64 v1, .int .i64 v2]) := B2.out.ext x3
            have B3 : Hid (HV w3 (w.heap.size + 2) [.int .i64 0, .int .i64 0, .int .i64 0, .int .i64 0]) := B3.out.ext x3
            have B4 : Hid (HV w3 (w.heap.size + 3) [.int .i64 0, .int .i64 0, .int .i64 0]) := B4.out.ext x3
            have HX : Hid (Ext w w3) := HX.out.trans x3
            clear x3
            have o0 : w3.cell? ⟨w.heap.size + 2, 0, none⟩ = some (.int .i64 0) := B3.out.c 0 rfl
            have o1 : w3.cell? ⟨w.heap.size + 2, 1, none⟩ = some (.int .i64 0) := B3.out.c 1 rfl
            have o2 : w3.cell? ⟨w.heap.size + 2, 2, none⟩ = some (.int .i64 0) := B3.out.c 2 rfl
            have o3 : w3.cell? ⟨w.heap.size + 2, 3, none⟩ = some (.int .i64 0) := B3.out.c 3 rfl
            have z0 : w3.frozen? ⟨w.heap.size + 2, 0, none⟩ = false := B3.out.f 0 rfl
            have z1 : w3.frozen? ⟨w.heap.size + 2, 1, none⟩ = false := B3.out.f 1 rfl
            have z2 : w3.frozen? ⟨w.heap.size + 2, 2, none⟩ = false := B3.out.f 2 rfl
            have z3 : w3.frozen? ⟨w.heap.size + 2, 3, none⟩ = false := B3.out.f 3 rfl
            go_upto_region 8 with fail
            have B4 : Hid (HV ((((w3.setCell ⟨w.heap.size + 2, 0, none⟩ (.int .i64 t0)).setCell ⟨w.heap.size + 2, 1, none⟩ (.int .i64 t1)).setCell ⟨w.heap.size + 2, 2, none⟩ (.int .i64 t2)).setCell ⟨w.heap.size + 2, 3, none⟩ (.int .i64 m)) (w.heap.size + 3) [.int .i64 0, .int .i64 0, .int .i64 0]) := (((B4.out.far (by omega)).far (by omega)).far (by omega)).far (by omega)
            have B3 : Hid (HV ((((w3.setCell ⟨w.heap.size + 2, 0, none⟩ (.int .i64 t0)).setCell ⟨w.heap.size + 2, 1, none⟩ (.int .i64 t1)).setCell ⟨w.heap.size + 2, 2, none⟩ (.int .i64 t2)).setCell ⟨w.heap.size + 2, 3, none⟩ (.int .i64 m)) (w.heap.size + 2) [.int .i64 t0, .int .i64 t1, .int .i64 t2, .int .i64 m]) := (((B3.out.set 0 _).set 1 _).set 2 _).set 3 _
            have HX : Hid (Ext w ((((w3.setCell ⟨w.heap.size + 2, 0, none⟩ (.int .i64 t0)).setCell ⟨w.heap.size + 2, 1, none⟩ (.int .i64 t1)).setCell ⟨w.heap.size + 2, 2, none⟩ (.int .i64 t2)).setCell ⟨w.heap.size + 2, 3, none⟩ (.int .i64 m))) := Ext.set (Ext.set (Ext.set (Ext.set HX.out lt2.out _) lt2.out _) lt2.out _) lt2.out _
            clear B1 B2 o0 o1 o2 o3 z0 z1 z2 z3
            generalize ((((w3.setCell ⟨w.heap.size + 2, 0, none⟩ (.int .i64 t0)).setCell ⟨w.heap.size + 2, 1, none⟩ (.int .i64 t1)).setCell ⟨w.heap.size + 2, 2, none⟩ (.int .i64 t2)).setCell ⟨w.heap.size + 2, 3, none⟩ (.int .i64 m)) = w4 at *
            have o0 : w4.cell? ⟨w.heap.size + 2, 0, none⟩ = some (.int .i64 t0) := B3.out.c 0 rfl
            have o1 : w4.cell? ⟨w.heap.size + 2, 1, none⟩ = some (.int .i64 t1) := B3.out.c 1 rfl
            have o2 : w4.cell? ⟨w.heap.size + 2, 2, none⟩ = some (.int .i64 t2) := B3.out.c 2 rfl
            have o3 : w4.cell? ⟨w.heap.size + 2, 3, none⟩ = some (.int .i64 m) := B3.out.c 3 rfl
            go_wp2_with fail
            refine (HM.out _).mono ?_
            rintro e w5 ⟨rfl, x5⟩
            clear o0 o1 o2 o3 HM
            have B3 : Hid (HV w5 (w.heap.size + 2) [.int .i64 t0, .int .i64 t1, .int .i64 t2, .int .i64 m]) := B3.out.ext x5
            have B4 : Hid (HV w5 (w.heap.size + 3) [.int .i64 0, .int .i64 0, .int .i64 0]) := B4.out.ext x5
            have HX : Hid (Ext w w5) := HX.out.trans x5
            clear x5
            have o0 : w5.cell? ⟨w.heap.size + 2, 0, none⟩ = some (.int .i64 t0) := B3.out.c 0 rfl
            have o1 : w5.cell? ⟨w.heap.size + 2, 1, none⟩ = some (.int .i64 t1) := B3.out.c 1 rfl
            have o2 : w5.cell? ⟨w.heap.size + 2, 2, none⟩ = some (.int .i64 t2) := B3.out.c 2 rfl
            have o3 : w5.cell? ⟨w.heap.size + 2, 3, none⟩ = some (.int .i64 m) := B3.out.c 3 rfl
            have z0 : w5.frozen? ⟨w.heap.size + 2, 0, none⟩ = false := B3.out.f 0 rfl
            have z1 : w5.frozen? ⟨w.heap.size + 2, 1, none⟩ = false := B3.out.f 1 rfl
            have z2 : w5.frozen? ⟨w.heap.size + 2, 2, none⟩ = false := B3.out.f 2 rfl
            have z3 : w5.frozen? ⟨w.heap.size + 2, 3, none⟩ = false := B3.out.f 3 rfl
            have l0 : w5.cell? ⟨w.heap.size + 3, 0, none⟩ = some (.int .i64 0) := B4.out.c 0 rfl
            have l1 : w5.cell? ⟨w.heap.size + 3, 1, none⟩ = some (.int .i64 0) := B4.out.c 1 rfl
            have l2 : w5.cell? ⟨w.heap.size + 3, 2, none⟩ = some (.int .i64 0) := B4.out.c 2 rfl
            have y0 : w5.frozen? ⟨w.heap.size + 3, 0, none⟩ = false := B4.out.f 0 rfl
            have y1 : w5.frozen? ⟨w.heap.size + 3, 1, none⟩ = false := B4.out.f 1 rfl
            have y2 : w5.frozen? ⟨w.heap.size + 3, 2, none⟩ = false := B4.out.f 2 rfl
            go_upto_region 10 with fail
            have B3 : Hid (HV (((w5.setCell ⟨w.heap.size + 3, 0, none⟩ (.int .i64 0)).setCell ⟨w.heap.size + 3, 1, none⟩ (.int .i64 0)).setCell ⟨w.heap.size + 3, 2, none⟩ (.int .i64 0)) (w.heap.size + 2) [.int .i64 t0, .int .i64 t1, .int .i64 t2, .int .i64 m]) := ((B3.out.far (by omega)).far (by omega)).far (by omega)
            have B4 : Hid (HV (((w5.setCell ⟨w.heap.size + 3, 0, none⟩ (.int .i64 0)).setCell ⟨w.heap.size + 3, 1, none⟩ (.int .i64 0)).setCell ⟨w.heap.size + 3, 2, none⟩ (.int .i64 0)) (w.heap.size + 3) [.int .i64 0, .int .i64 0, .int .i64 0]) := ((B4.out.set 0 _).set 1 _).set 2 _
            have HX : Hid (Ext w (((w5.setCell ⟨w.heap.size + 3, 0, none⟩ (.int .i64 0)).setCell ⟨w.heap.size + 3, 1, none⟩ (.int .i64 0)).setCell ⟨w.heap.size + 3, 2, none⟩ (.int .i64 0))) := Ext.set (Ext.set (Ext.set HX.out lt3.out _) lt3.out _) lt3.out _
            clear o0 o1 o2 o3 z0 z1 z2 z3 l0 l1 l2 y0 y1 y2
            generalize (((w5.setCell ⟨w.heap.size + 3, 0, none⟩ (.int .i64 0)).setCell ⟨w.heap.size + 3, 1, none⟩ (.int .i64 0)).setCell ⟨w.heap.size + 3, 2, none⟩ (.int .i64 0)) = w6 at *
            have o0 : w6.cell? ⟨w.heap.size + 2, 0, none⟩ = some (.int .i64 t0) := B3.out.c 0 rfl
            have o1 : w6.cell? ⟨w.heap.size + 2, 1, none⟩ = some (.int .i64 t1) := B3.out.c 1 rfl
            have o2 : w6.cell? ⟨w.heap.size + 2, 2, none⟩ = some (.int .i64 t2) := B3.out.c 2 rfl
            have o3 : w6.cell? ⟨w.heap.size + 2, 3, none⟩ = some (.int .i64 m) := B3.out.c 3 rfl
            have z0 : w6.frozen? ⟨w.heap.size + 2, 0, none⟩ = false := B3.out.f 0 rfl
            have z1 : w6.frozen? ⟨w.heap.size + 2, 1, none⟩ = false := B3.out.f 1 rfl
            have z2 : w6.frozen? ⟨w.heap.size + 2, 2, none⟩ = false := B3.out.f 2 rfl
            have z3 : w6.frozen? ⟨w.heap.size + 2, 3, none⟩ = false := B3.out.f 3 rfl
            have l0 : w6.cell? ⟨w.heap.size + 3, 0, none⟩ = some (.int .i64 0) := B4.out.c 0 rfl
            have l1 : w6.cell? ⟨w.heap.size + 3, 1, none⟩ = some (.int .i64 0) := B4.out.c 1 rfl
            have l2 : w6.cell? ⟨w.heap.size + 3, 2, none⟩ = some (.int .i64 0) := B4.out.c 2 rfl
            have y0 : w6.frozen? ⟨w.heap.size + 3, 0, none⟩ = false := B4.out.f 0 rfl
            have y1 : w6.frozen? ⟨w.heap.size + 3, 1, none⟩ = false := B4.out.f 1 rfl
            have y2 : w6.frozen? ⟨w.heap.size + 3, 2, none⟩ = false := B4.out.f 2 rfl
            go_wp2_with fail
            refine bodyPost_ret (v := .tuple #[.agg #[.int .i64 0, .int .i64 0, .int .i64 0, .int .i64 0], .agg #[.int .i64 0, .int .i64 0, .int .i64 0], .bool false, .int .i64 2]) (by simp [results, Try.results9, go_sem, *]) rfl ⟨rfl, ?_⟩
            exact (Ext.set (Ext.set (Ext.set (Ext.set (Ext.set (Ext.set (Ext.set HX.out lt2.out _) lt2.out _) lt2.out _) lt2.out _) lt3.out _) lt3.out _) lt3.out _)
          · rw [if_pos (by rfl)]
            have ev : vres m0 m1 m2 = .tuple #[.agg #[.int .i64 m0, .int .i64 m1, .int .i64 m2], .int .i64 0] := by unfold vres; rw [ho]; rfl
            rw [ev] at HT
            have HM : Hid (∀ w, Calls Try.prog 22 #[.agg #[.int .i64 t0, .int .i64 t1, .int .i64 t2, .int .i64 m]] w fun e w' => e = .returned (.tuple #[.agg #[.int .i64 m0, .int .i64 m1, .int .i64 m2], .int .i64 0]) ∧ Ext w w') := fun w => tmean_good _ _ _ _ _ _ _ w HT
            clear HT ev ho
            go_enter Try.func9, Try.ntmps9
            go_upto_region 1 with fail
            generalize ((((w.alloc (.cells #[.int .i64 s0, .int .i64 s1, .int .i64 s2, .int .i64 n] 26)).alloc (.cells #[.int .i64 v0, .int .i64 v1, .int .i64 v2] 24)).alloc (.cells #[.int .i64 0, .int .i64 0, .int .i64 0, .int .i64 0] 26)).alloc (.cells #[.int .i64 0, .int .i64 0, .int .i64 0] 24)) = wa at *
            have c0 : wa.cell? ⟨w.heap.size, 0, none⟩ = some (.int .i64 s0) := B1.out.c 0 rfl
            have c1 : wa.cell? ⟨w.heap.size, 1, none⟩ = some (.int .i64 s1) := B1.out.c 1 rfl
            have c2 : wa.cell? ⟨w.heap.size, 2, none⟩ = some (.int .i64 s2) := B1.out.c 2 rfl
            have c3 : wa.cell? ⟨w.heap.size, 3, none⟩ = some (.int .i64 n) := B1.out.c 3 rfl
            go_wp2_with fail
            refine (HI.out _).mono ?_
            rintro e w1 ⟨rfl, x1⟩
            clear c0 c1 c2 c3
            have B1 : Hid (HV w1 w.heap.size [.int .i64 s0, .int .i64 s1, .int .i64 s2, .int .i64 n]) := B1.out.ext x1
            have B2 : Hid (HV w1 (w.heap.size + 1) [.int .i64 v0, .int .i64 v1, .int .i64 v2]) := B2.out.ext x1
            have B3 : Hid (HV w1 (w.heap.size + 2) [.int .i64 0, .int .i64 0, .int .i64 0, .int .i64 0]) := B3.out.ext x1
            have B4 : Hid (HV w1 (w.heap.size + 3) [.int .i64 0, .int .i64 0, .int .i64 0]) := B4.out.ext x1
            have HX : Hid (Ext w w1) := HX.out.trans x1
            clear x1
            have d0 : w1.cell? ⟨w.heap.size + 1, 0, none⟩ = some (.int .i64 v0) := B2.out.c 0 rfl
            have d1 : w1.cell? ⟨w.heap.size + 1, 1, none⟩ = some (.int .i64 v1) := B2.out.c 1 rfl
            have d2 : w1.cell? ⟨w.heap.size + 1, 2, none⟩ = some (.int .i64 v2) := B2.out.c 2 rfl
            go_upto_region 3 with (first | (go_at_call 19; refine (HK.out _).mono ?_; rintro e wx ⟨rfl, hwx⟩; have hwy := hwx.symm; clear hwx; subst hwy) | (go_at_call 20; refine (HC.out _).mono ?_; rintro e w2 ⟨rfl, x2⟩))
            clear d0 d1 d2 HI HK HC
            have B1 : Hid (HV w2 w.heap.size [.int .i64 s0, .int .i64 s1, .int .i64 s2, .int .i64 n]) := B1.out.ext x2
            have B2 : Hid (HV w2 (w.heap.size + 1) [.int .i64 v0, .int .i64 v1, .int .i64 v2]) := B2.out.ext x2
            have B3 : Hid (HV w2 (w.heap.size + 2) [.int .i64 0, .int .i64 0, .int .i64 0, .int .i64 0]) := B3.out.ext x2
            have B4 : Hid (HV w2 (w.heap.size + 3) [.int .i64 0, .int .i64 0, .int .i64 0]) := B4.out.ext x2
            have HX : Hid (Ext w w2) := HX.out.trans x2
            clear x2
            have c0 : w2.cell? ⟨w.heap.size, 0, none⟩ = some (.int .i64 s0) := B1.out.c 0 rfl
            have c1 : w2.cell? ⟨w.heap.size, 1, none⟩ = some (.int .i64 s1) := B1.out.c 1 rfl
            have c2 : w2.cell? ⟨w.heap.size, 2, none⟩ = some (.int .i64 s2) := B1.out.c 2 rfl
            have c3 : w2.cell? ⟨w.heap.size, 3, none⟩ = some (.int .i64 n) := B1.out.c 3 rfl
            have d0 : w2.cell? ⟨w.heap.size + 1, 0, none⟩ = some (.int .i64 v0) := B2.out.c 0 rfl
            have d1 : w2.cell? ⟨w.heap.size + 1, 1, none⟩ = some (.int .i64 v1) := B2.out.c 1 rfl
            have d2 : w2.cell? ⟨w.heap.size + 1, 2, none⟩ = some (.int .i64 v2) := B2.out.c 2 rfl
            go_wp2_with fail
            refine (HW.out _).mono ?_
            rintro e w3 ⟨rfl, x3⟩
            clear c0 c1 c2 c3 d0 d1 d2 HW
            have B1 : Hid (HV w3 w.heap.size [.int .i64 s0, .int .i64 s1, .int .i64 s2, .int .i64 n]) := B1.out.ext x3
            have B2 : Hid (HV w3 (w.heap.size + 1) [.int .i64 v0, .int .i64 v1, .int .i64 v2]) := B2.out.ext x3
            have B3 : Hid (HV w3 (w.heap.size + 2) [.int .i64 0, .int .i64 0, .int .i64 0, .int .i64 0]) := B3.out.ext x3
            have B4 : Hid (HV w3 (w.heap.size + 3) [.int .i64 0, .int .i64 0, .int .i64 0]) := B4.out.ext x3
            have HX : Hid (Ext w w3) := HX.out.trans x3
            clear x3
            have o0 : w3.cell? ⟨w.heap.size + 2, 0, none⟩ = some (.int .i64 0) := B3.out.c 0 rfl
            have o1 : w3.cell? ⟨w.heap.size + 2, 1, none⟩ = some (.int .i64 0) := B3.out.c 1 rfl
            have o2 : w3.cell? ⟨w.heap.size + 2, 2, none⟩ = some (.int .i64 0) := B3.out.c 2 rfl
            have o3 : w3.cell? ⟨w.heap.size + 2, 3, none⟩ = some (.int .i64 0) := B3.out.c 3 rfl
            have z0 : w3.frozen? ⟨w.heap.size + 2, 0, none⟩ = false := B3.out.f 0 rfl
            have z1 : w3.frozen? ⟨w.heap.size + 2, 1, none⟩ = false := B3.out.f 1 rfl
            have z2 : w3.frozen? ⟨w.heap.size + 2, 2, none⟩ = false := B3.out.f 2 rfl
            have z3 : w3.frozen? ⟨w.heap.size + 2, 3, none⟩ = false := B3.out.f 3 rfl
            go_upto_region 8 with fail
            have B4 : Hid (HV ((((w3.setCell ⟨w.heap.size + 2, 0, none⟩ (.int .i64 t0)).setCell ⟨w.heap.size + 2, 1, none⟩ (.int .i64 t1)).setCell ⟨w.heap.size + 2, 2, none⟩ (.int .i64 t2)).setCell ⟨w.heap.size + 2, 3, none⟩ (.int .i64 m)) (w.heap.size + 3) [.int .i64 0, .int .i64 0, .int .i64 0]) := (((B4.out.far (by omega)).far (by omega)).far (by omega)).far (by omega)
            have B3 : Hid (HV ((((w3.setCell ⟨w.heap.size + 2, 0, none⟩ (.int .i64 t0)).setCell ⟨w.heap.size + 2, 1, none⟩ (.int .i64 t1)).setCell ⟨w.heap.size + 2, 2, none⟩ (.int .i64 t2)).setCell ⟨w.heap.size + 2, 3, none⟩ (.int .i64 m)) (w.heap.size + 2) [.int .i64 t0, .int .i64 t1, .int .i64 t2, .int .i64 m]) := (((B3.out.set 0 _).set 1 _).set 2 _).set 3 _
            have HX : Hid (Ext w ((((w3.setCell ⟨w.heap.size + 2, 0, none⟩ (.int .i64 t0)).setCell ⟨w.heap.size + 2, 1, none⟩ (.int .i64 t1)).setCell ⟨w.heap.size + 2, 2, none⟩ (.int .i64 t2)).setCell ⟨w.heap.size + 2, 3, none⟩ (.int .i64 m))) := Ext.set (Ext.set (Ext.set (Ext.set HX.out lt2.out _) lt2.out _) lt2.out _) lt2.out _
            clear B1 B2 o0 o1 o2 o3 z0 z1 z2 z3
            generalize ((((w3.setCell ⟨w.heap.size + 2, 0, none⟩ (.int .i64 t0)).setCell ⟨w.heap.size + 2, 1, none⟩ (.int .i64 t1)).setCell ⟨w.heap.size + 2, 2, none⟩ (.int .i64 t2)).setCell ⟨w.heap.size + 2, 3, none⟩ (.int .i64 m)) = w4 at *
            have o0 : w4.cell? ⟨w.heap.size + 2, 0, none⟩ = some (.int .i64 t0) := B3.out.c 0 rfl
            have o1 : w4.cell? ⟨w.heap.size + 2, 1, none⟩ = some (.int .i64 t1) := B3.out.c 1 rfl
            have o2 : w4.cell? ⟨w.heap.size + 2, 2, none⟩ = some (.int .i64 t2) := B3.out.c 2 rfl
            have o3 : w4.cell? ⟨w.heap.size + 2, 3, none⟩ = some (.int .i64 m) := B3.out.c 3 rfl
            go_wp2_with fail
            refine (HM.out _).mono ?_
            rintro e w5 ⟨rfl, x5⟩
            clear o0 o1 o2 o3 HM
            have B3 : Hid (HV w5 (w.heap.size + 2) [.int .i64 t0, .int .i64 t1, .int .i64 t2, .int .i64 m]) := B3.out.ext x5
            have B4 : Hid (HV w5 (w.heap.size + 3) [.int .i64 0, .int .i64 0, .int .i64 0]) := B4.out.ext x5
            have HX : Hid (Ext w w5) := HX.out.trans x5
            clear x5
            have o0 : w5.cell? ⟨w.heap.size + 2, 0, none⟩ = some (.int .i64 t0) := B3.out.c 0 rfl
            have o1 : w5.cell? ⟨w.heap.size + 2, 1, none⟩ = some (.int .i64 t1) := B3.out.c 1 rfl
            have o2 : w5.cell? ⟨w.heap.size + 2, 2, none⟩ = some (.int .i64 t2) := B3.out.c 2 rfl
            have o3 : w5.cell? ⟨w.heap.size + 2, 3, none⟩ = some (.int .i64 m) := B3.out.c 3 rfl
            have z0 : w5.frozen? ⟨w.heap.size + 2, 0, none⟩ = false := B3.out.f 0 rfl
            have z1 : w5.frozen? ⟨w.heap.size + 2, 1, none⟩ = false := B3.out.f 1 rfl
            have z2 : w5.frozen? ⟨w.heap.size + 2, 2, none⟩ = false := B3.out.f 2 rfl
            have z3 : w5.frozen? ⟨w.heap.size + 2, 3, none⟩ = false := B3.out.f 3 rfl
            have l0 : w5.cell? ⟨w.heap.size + 3, 0, none⟩ = some (.int .i64 0) := B4.out.c 0 rfl
            have l1 : w5.cell? ⟨w.heap.size + 3, 1, none⟩ = some (.int .i64 0) := B4.out.c 1 rfl
            have l2 : w5.cell? ⟨w.heap.size + 3, 2, none⟩ = some (.int .i64 0) := B4.out.c 2 rfl
            have y0 : w5.frozen? ⟨w.heap.size + 3, 0, none⟩ = false := B4.out.f 0 rfl
            have y1 : w5.frozen? ⟨w.heap.size + 3, 1, none⟩ = false := B4.out.f 1 rfl
            have y2 : w5.frozen? ⟨w.heap.size + 3, 2, none⟩ = false := B4.out.f 2 rfl
            go_upto_region 11 with fail
            have B3 : Hid (HV (((w5.setCell ⟨w.heap.size + 3, 0, none⟩ (.int .i64 m0)).setCell ⟨w.heap.size + 3, 1, none⟩ (.int .i64 m1)).setCell ⟨w.heap.size + 3, 2, none⟩ (.int .i64 m2)) (w.heap.size + 2) [.int .i64 t0, .int .i64 t1, .int .i64 t2, .int .i64 m]) := ((B3.out.far (by omega)).far (by omega)).far (by omega)
            have B4 : Hid (HV (((w5.setCell ⟨w.heap.size + 3, 0, none⟩ (.int .i64 m0)).setCell ⟨w.heap.size + 3, 1, none⟩ (.int .i64 m1)).setCell ⟨w.heap.size + 3, 2, none⟩ (.int .i64 m2)) (w.heap.size + 3) [.int .i64 m0, .int .i64 m1, .int .i64 m2]) := ((B4.out.set 0 _).set 1 _).set 2 _
            have HX : Hid (Ext w (((w5.setCell ⟨w.heap.size + 3, 0, none⟩ (.int .i64 m0)).setCell ⟨w.heap.size + 3, 1, none⟩ (.int .i64 m1)).setCell ⟨w.heap.size + 3, 2, none⟩ (.int .i64 m2))) := Ext.set (Ext.set (Ext.set HX.out lt3.out _) lt3.out _) lt3.out _
            clear o0 o1 o2 o3 z0 z1 z2 z3 l0 l1 l2 y0 y1 y2
            generalize (((w5.setCell ⟨w.heap.size + 3, 0, none⟩ (.int .i64 m0)).setCell ⟨w.heap.size + 3, 1, none⟩ (.int .i64 m1)).setCell ⟨w.heap.size + 3, 2, none⟩ (.int .i64 m2)) = w6 at *
            have o0 : w6.cell? ⟨w.heap.size + 2, 0, none⟩ = some (.int .i64 t0) := B3.out.c 0 rfl
            have o1 : w6.cell? ⟨w.heap.size + 2, 1, none⟩ = some (.int .i64 t1) := B3.out.c 1 rfl
            have o2 : w6.cell? ⟨w.heap.size + 2, 2, none⟩ = some (.int .i64 t2) := B3.out.c 2 rfl
            have o3 : w6.cell? ⟨w.heap.size + 2, 3, none⟩ = some (.int .i64 m) := B3.out.c 3 rfl
            have z0 : w6.frozen? ⟨w.heap.size + 2, 0, none⟩ = false := B3.out.f 0 rfl
            have z1 : w6.frozen? ⟨w.heap.size + 2, 1, none⟩ = false := B3.out.f 1 rfl
            have z2 : w6.frozen? ⟨w.heap.size + 2, 2, none⟩ = false := B3.out.f 2 rfl
            have z3 : w6.frozen? ⟨w.heap.size + 2, 3, none⟩ = false := B3.out.f 3 rfl
            have l0 : w6.cell? ⟨w.heap.size + 3, 0, none⟩ = some (.int .i64 m0) := B4.out.c 0 rfl
            have l1 : w6.cell? ⟨w.heap.size + 3, 1, none⟩ = some (.int .i64 m1) := B4.out.c 1 rfl
            have l2 : w6.cell? ⟨w.heap.size + 3, 2, none⟩ = some (.int .i64 m2) := B4.out.c 2 rfl
            have y0 : w6.frozen? ⟨w.heap.size + 3, 0, none⟩ = false := B4.out.f 0 rfl
            have y1 : w6.frozen? ⟨w.heap.size + 3, 1, none⟩ = false := B4.out.f 1 rfl
            have y2 : w6.frozen? ⟨w.heap.size + 3, 2, none⟩ = false := B4.out.f 2 rfl
            go_region
            all_goals
              go_wp2_with fail
              refine bodyPost_ret (v := .tuple #[.agg #[.int .i64 0, .int .i64 0, .int .i64 0, .int .i64 0], .agg #[.int .i64 m0, .int .i64 m1, .int .i64 m2], .bool true, .int .i64 0]) (by simp [results, Try.results9, go_sem, *]) rfl ⟨rfl, ?_⟩
              have hx0 := HX.out
              exact by repeat (first | with_reducible assumption | with_reducible exact Ext.refl _ | with_reducible refine Ext.drew ?_ | with_reducible refine Ext.drewN ?_ _ | with_reducible refine Ext.alloc ?_ _ | with_reducible refine Ext.set ?_ (by first | exact Nat.le_refl _ | (dsimp only; omega) | (simp; done)) _)
end Go.Proofs.Ytkcfgkedgjpeoaa
